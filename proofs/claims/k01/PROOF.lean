import PyProof.Rows.All
import Wide.All
import OpenK.AllK
import Wide.FinOn
import HandS.ForMost
import HandS.IsInst
import HandS.Wide
import HandS.Evl
import PySem.Challenge.RW_reels_k01_fractions
set_option Elab.async false
set_option linter.all false
set_option maxRecDepth 100000
set_option maxHeartbeats 4000000
namespace R
/-! the greatest common divisor as the loops reckon it, and fractions as Rat -/
theorem fmod_nat (a b : Nat) : ((a : Int).fmod (b : Int)) = ((a % b : Nat) : Int) := by
  rw [Int.fmod_eq_emod_of_nonneg _ (by omega)]
  rfl
theorem gcd_turn (a b : Nat) : Nat.gcd b (a % b) = Nat.gcd a b := by
  rw [Nat.gcd_comm a b, Nat.gcd_rec b a, Nat.gcd_comm]
theorem gcd_pos {t b : Int} (h : b ≠ 0) : 0 < Nat.gcd t.natAbs b.natAbs := Nat.gcd_pos_of_pos_right _ (by omega)
theorem abs_nat (i : Int) : (if i < 0 then -i else i) = (i.natAbs : Int) := by
  split <;> omega
def frI (t b : Int) : Int := if b < 0 then -(Nat.gcd t.natAbs b.natAbs : Int) else (Nat.gcd t.natAbs b.natAbs : Int)
theorem frI_ne {t b : Int} (h : b ≠ 0) : frI t b ≠ 0 := by
  have := gcd_pos (t := t) h
  unfold frI
  split <;> omega
theorem frI_dt (t b : Int) : frI t b ∣ t := by
  have h : ((Nat.gcd t.natAbs b.natAbs : Nat) : Int) ∣ t := Int.ofNat_dvd_left.mpr (Nat.gcd_dvd_left _ _)
  unfold frI
  split
  · exact Int.neg_dvd.mpr h
  · exact h
theorem frI_db (t b : Int) : frI t b ∣ b := by
  have h : ((Nat.gcd t.natAbs b.natAbs : Nat) : Int) ∣ b := Int.ofNat_dvd_left.mpr (Nat.gcd_dvd_right _ _)
  unfold frI
  split
  · exact Int.neg_dvd.mpr h
  · exact h
theorem gcd_eq (t b : Int) : (b.gcd t) = Nat.gcd t.natAbs b.natAbs := by
  unfold Int.gcd
  exact Nat.gcd_comm _ _
theorem fdiv_exact {t d : Int} (hd : d ≠ 0) (h : d ∣ t) : t.fdiv d = t / d := by
  obtain ⟨k, rfl⟩ := h
  rw [Int.mul_fdiv_cancel_left _ hd, Int.mul_ediv_cancel_left _ hd]
theorem fr_num {t b : Int} (h : b ≠ 0) : t.fdiv (frI t b) = (Rat.divInt t b).num := by
  rw [fdiv_exact (frI_ne h) (frI_dt t b), Rat.num_divInt, gcd_eq]
  unfold frI
  split
  · rename_i h0
    rw [Int.sign_eq_neg_one_of_neg h0, Int.ediv_neg, Int.neg_one_mul]
    have hd : ((Nat.gcd t.natAbs b.natAbs : Nat) : Int) ∣ t := Int.ofNat_dvd_left.mpr (Nat.gcd_dvd_left _ _)
    rw [Int.neg_ediv_of_dvd hd]
  · rename_i h0
    rw [Int.sign_eq_one_of_pos (by omega), Int.one_mul]
theorem fr_den {t b : Int} (h : b ≠ 0) : b.fdiv (frI t b) = ((Rat.divInt t b).den : Int) := by
  rw [fdiv_exact (frI_ne h) (frI_db t b), Rat.den_divInt, gcd_eq, if_neg h]
  unfold frI
  split
  · rename_i h0
    rw [Int.ediv_neg]
    have hd : ((Nat.gcd t.natAbs b.natAbs : Nat) : Int) ∣ b := Int.ofNat_dvd_left.mpr (Nat.gcd_dvd_right _ _)
    rw [← Int.neg_ediv_of_dvd hd, show -b = ((b.natAbs : Nat) : Int) by omega, ← Int.natCast_ediv]
  · rename_i h0
    rw [show (b / ((Nat.gcd t.natAbs b.natAbs : Nat) : Int)) = (((b.natAbs : Nat) : Int) / ((Nat.gcd t.natAbs b.natAbs : Nat) : Int)) by
      rw [show ((b.natAbs : Nat) : Int) = b by omega], ← Int.natCast_ediv]
theorem frI_natAbs {t b : Int} (h : b ≠ 0) : (frI t b).natAbs ≤ b.natAbs := by
  have h1 : Nat.gcd t.natAbs b.natAbs ≤ b.natAbs := Nat.gcd_le_right _ (by omega)
  unfold frI
  split <;> omega
/-! sums and products of fractions by their parts -/
theorem den_ne (x : Rat) : ((x.den : Nat) : Int) ≠ 0 := by
  have := x.den_nz
  omega
theorem den_pos (x : Rat) : (0 : Int) < ((x.den : Nat) : Int) := by
  have := x.den_nz
  omega
theorem add_parts (x y : Rat) : Rat.divInt (x.num * y.den + y.num * x.den) ((x.den : Int) * y.den) = x + y := by
  conv => rhs; rw [← Rat.num_divInt_den x, ← Rat.num_divInt_den y]
  rw [Rat.divInt_add_divInt _ _ (den_ne x) (den_ne y)]
theorem sub_parts (x y : Rat) : Rat.divInt (x.num * y.den - y.num * x.den) ((x.den : Int) * y.den) = x - y := by
  conv => rhs; rw [← Rat.num_divInt_den x, ← Rat.num_divInt_den y]
  rw [Rat.divInt_sub_divInt _ _ (den_ne x) (den_ne y)]
theorem mul_parts (x y : Rat) : Rat.divInt (x.num * y.num) ((x.den : Int) * y.den) = x * y := by
  conv => rhs; rw [← Rat.num_divInt_den x, ← Rat.num_divInt_den y]
  rw [Rat.divInt_mul_divInt]
theorem div_parts (x y : Rat) : Rat.divInt (x.num * y.den) ((x.den : Int) * y.num) = x / y := by
  rw [Rat.div_def, Rat.inv_def]
  conv => rhs; rw [← Rat.num_divInt_den x]
  rw [Rat.divInt_mul_divInt]
theorem lt_parts (x y : Rat) : decide (x.num * y.den < y.num * x.den) = decide (x < y) := by
  rw [decide_eq_decide, Rat.lt_iff]
/-! sizes -/
structure Sz (n : Nat) (x : Rat) : Prop where
  num : x.num.natAbs < 2 ^ n
  den : x.den < 2 ^ n
theorem Sz.mono {n m : Nat} {x : Rat} (h : Sz n x) (k : n ≤ m) : Sz m x :=
  ⟨Nat.lt_of_lt_of_le h.num (Nat.pow_le_pow_right (by decide) k), Nat.lt_of_lt_of_le h.den (Nat.pow_le_pow_right (by decide) k)⟩
theorem divInt_num_le (t b : Int) : (Rat.divInt t b).num.natAbs ≤ t.natAbs := by
  by_cases h : b = 0
  · subst h
    rw [Rat.divInt_zero]
    exact Nat.zero_le _
  · rw [← fr_num h, fdiv_exact (frI_ne h) (frI_dt t b)]
    exact Int.natAbs_ediv_le_natAbs _ _
theorem divInt_den_le {t b : Int} (h : b ≠ 0) : (Rat.divInt t b).den ≤ b.natAbs := by
  rw [Rat.den_divInt, if_neg h]
  exact Nat.div_le_self _ _
theorem sz_divInt {n : Nat} {t b : Int} (ht : t.natAbs < 2 ^ n) (hb : b.natAbs < 2 ^ n) (h : b ≠ 0) : Sz n (Rat.divInt t b) :=
  ⟨Nat.lt_of_le_of_lt (divInt_num_le t b) ht, Nat.lt_of_le_of_lt (divInt_den_le h) hb⟩
theorem mul_bits {i j : Int} {a b : Nat} (ha : i.natAbs < 2 ^ a) (hb : j.natAbs < 2 ^ b) : (i * j).natAbs < 2 ^ (a + b) := by
  rw [Int.natAbs_mul, Nat.pow_add]
  exact Nat.mul_lt_mul'' ha hb
theorem add_bits {i j : Int} {a : Nat} (ha : i.natAbs < 2 ^ a) (hb : j.natAbs < 2 ^ a) : (i + j).natAbs < 2 ^ (a + 1) := by
  have : (i + j).natAbs ≤ i.natAbs + j.natAbs := Int.natAbs_add_le _ _
  rw [Nat.pow_succ]
  omega
theorem sub_bits {i j : Int} {a : Nat} (ha : i.natAbs < 2 ^ a) (hb : j.natAbs < 2 ^ a) : (i - j).natAbs < 2 ^ (a + 1) := by
  rw [Int.sub_eq_add_neg]
  exact add_bits ha (by omega)
theorem Sz.den' {n : Nat} {x : Rat} (h : Sz n x) : ((x.den : Nat) : Int).natAbs < 2 ^ n := h.den
theorem den_mul_ne (x y : Rat) : ((x.den : Int) * y.den) ≠ 0 := Int.mul_ne_zero (den_ne x) (den_ne y)
theorem up1 {i : Int} {a : Nat} (h : i.natAbs < 2 ^ a) : i.natAbs < 2 ^ (a + 1) := Nat.lt_of_lt_of_le h (Nat.pow_le_pow_right (by decide) (by omega))
theorem sz_add {n m : Nat} {x y : Rat} (hx : Sz n x) (hy : Sz m y) : Sz (n + m + 1) (x + y) := by
  rw [← add_parts]
  refine sz_divInt (add_bits (mul_bits hx.num hy.den') ?_) (up1 (mul_bits hx.den' hy.den')) (den_mul_ne x y)
  rw [Nat.add_comm n m]
  exact mul_bits hy.num hx.den'
theorem sz_sub {n m : Nat} {x y : Rat} (hx : Sz n x) (hy : Sz m y) : Sz (n + m + 1) (x - y) := by
  rw [← sub_parts]
  refine sz_divInt (sub_bits (mul_bits hx.num hy.den') ?_) (up1 (mul_bits hx.den' hy.den')) (den_mul_ne x y)
  rw [Nat.add_comm n m]
  exact mul_bits hy.num hx.den'
theorem sz_mul {n m : Nat} {x y : Rat} (hx : Sz n x) (hy : Sz m y) : Sz (n + m) (x * y) := by
  rw [← mul_parts]
  exact sz_divInt (mul_bits hx.num hy.num) (mul_bits hx.den' hy.den') (den_mul_ne x y)
theorem num_ne {y : Rat} (h : y ≠ 0) : y.num ≠ 0 := fun e => h (Rat.num_eq_zero.mp e)
theorem sz_div {n m : Nat} {x y : Rat} (hx : Sz n x) (hy : Sz m y) (h : y ≠ 0) : Sz (n + m) (x / y) := by
  rw [← div_parts]
  exact sz_divInt (mul_bits hx.num hy.den') (mul_bits hx.den' hy.num) (Int.mul_ne_zero (den_ne x) (num_ne h))
theorem sz_int {n : Nat} {i : Int} (hn : 0 < n) (h : i.natAbs < 2 ^ n) : Sz n (i : Rat) :=
  ⟨h, by
    show 1 < 2 ^ n
    exact Nat.one_lt_two_pow (by omega)⟩
/-! the sum as it is reckoned by what the bottoms have in common -/
theorem add_split (x y : Rat) : (x + y).num = (x.num * ((y.den / (x.den.gcd y.den) : Nat) : Int) + y.num * ((x.den / (x.den.gcd y.den) : Nat) : Int)) / (((x.num * ((y.den / (x.den.gcd y.den) : Nat) : Int) + y.num * ((x.den / (x.den.gcd y.den) : Nat) : Int)).natAbs.gcd (x.den.gcd y.den) : Nat) : Int) ∧
   (x + y).den = x.den / (x.den.gcd y.den) * (y.den / ((x.num * ((y.den / (x.den.gcd y.den) : Nat) : Int) + y.num * ((x.den / (x.den.gcd y.den) : Nat) : Int)).natAbs.gcd (x.den.gcd y.den))) := by
  have e : x + y = Rat.add x y := rfl
  rw [e]
  unfold Rat.add
  dsimp only
  by_cases hg : x.den.gcd y.den = 1
  · rw [dif_pos hg]
    constructor
    · show x.num * (y.den : Int) + y.num * (x.den : Int) = _
      rw [hg, Nat.div_one, Nat.div_one, Nat.gcd_one_right]
      exact (Int.ediv_one _).symm
    · show x.den * y.den = _
      rw [hg, Nat.div_one, Nat.div_one, Nat.gcd_one_right, Nat.div_one]
  · rw [dif_neg hg]
    unfold Rat.maybeNormalize
    split
    · rename_i h1
      refine ⟨?_, ?_⟩
      · show x.num * ((y.den / (x.den.gcd y.den) : Nat) : Int) + y.num * ((x.den / (x.den.gcd y.den) : Nat) : Int) = _
        rw [h1]
        exact (Int.ediv_one _).symm
      · show x.den / (x.den.gcd y.den) * y.den = _
        rw [h1, Nat.div_one]
    · refine ⟨?_, ?_⟩
      · exact Int.divExact_eq_ediv (Int.ofNat_dvd_left.mpr (Nat.gcd_dvd_left _ _))
      · show _ / _ = _
        rw [Nat.mul_div_assoc]
        exact Nat.dvd_trans (Nat.gcd_dvd_right _ _) (Nat.gcd_dvd_right _ _)
theorem fdiv_nat (a b : Nat) : ((a : Int).fdiv (b : Int)) = ((a / b : Nat) : Int) := by
  rw [Int.fdiv_eq_ediv_of_nonneg _ (by omega)]
  rfl
theorem fdiv_natR (a : Int) (b : Nat) : (a.fdiv (b : Int)) = a / (b : Int) := Int.fdiv_eq_ediv_of_nonneg _ (by omega)
def sG (x y : Rat) : Nat := x.den.gcd y.den
def sT (x y : Rat) : Int := x.num * ((y.den / sG x y : Nat) : Int) + y.num * ((x.den / sG x y : Nat) : Int)
def sD (x y : Rat) : Nat := (sT x y).natAbs.gcd (sG x y)
theorem sum_num (x y : Rat) : (sT x y).fdiv (sD x y : Int) = (x + y).num := by
  rw [fdiv_natR]
  exact (add_split x y).1.symm
theorem sum_den (x y : Rat) : (((x.den / sG x y : Nat) : Int) * ((y.den / sD x y : Nat) : Int)) = (((x + y).den : Nat) : Int) := by
  rw [show (x + y).den = x.den / sG x y * (y.den / sD x y) from (add_split x y).2]
  rfl
theorem sG_pos (x y : Rat) : 0 < sG x y := Nat.gcd_pos_of_pos_left _ x.den_pos
theorem sD_pos (x y : Rat) : 0 < sD x y := Nat.gcd_pos_of_pos_right _ (sG_pos x y)
theorem sG_le (x y : Rat) : sG x y ≤ x.den := Nat.gcd_le_left _ x.den_pos
theorem sD_le (x y : Rat) : sD x y ≤ x.den := Nat.le_trans (Nat.gcd_le_right _ (sG_pos x y)) (sG_le x y)
end R
namespace R
open PySem PySem.Spec PyProof.Rows L2
/-! ### a def of the text, and what it promises -/
structure Df (K : PySem.W.Frag) (mg : Str → Option Value) (x : Str) (st : Stmt) (ps : List Str) : Prop where
  ex : ∃ (f : Addr) (fd : FuncData), Fun K x x st f fd ∧ mg x = some (.ref f) ∧ Binds K fd ps []
structure Cl (P : Program) (w : World) (K : PySem.W.Frag) (mg : Str → Option Value) (base : Heap) (CX : CXT) (k : Nat) (x : Str) (sp : Sp) : Prop where
  ex : ∃ (f : Addr) (fd : FuncData) (ps : List Str), FnOk P w K mg base CX k f fd ps sp ∧ mg x = some (.ref f) ∧ PySem.W.keepIn K (.ref f) = true ∧ Binds K fd ps []
section
variable {P : Program} {w : World} {K : PySem.W.Frag} {mg : Str → Option Value} {base : Heap}
theorem Df.cl {x : Str} {st : Stmt} {N ps : List Str} {k : Nat} {sp : Sp} (D : Df K mg x st ps) (S : FnScope N ps (defScope st)) (len : ∀ vs H Q E, sp vs H Q E → vs.length = ps.length)
    (hbody : ∀ (f : Addr) (cdv : Value) (A : Around) (outer : List Env) (s : Shared) (H : Hp) (vs : List V) (Q : VK) (E : XK), Room k (A.deeper (envOfC x (defScope st) s.heap.objs.size f cdv)) → sp vs H Q E →
      ∃ t, PSs (cxOf CX0 P w K mg base N x (defScope st) f cdv A outer s H E).nox (defBody st) t ∧ t { nx := fun _ H' => Q .non H', rt := Q } (start N vs) H) : Cl P w K mg base CX0 (k + 1) x sp := by
  obtain ⟨f, fd, F, g, b⟩ := D.ex
  exact ⟨f, fd, ps, F.ok S len (hbody f), g, F.kp, b⟩
end
section
variable {X : Cx}
theorem pe_cl {k j : Nat} {x : Str} {sp : Sp} {p pos : Pos} {e : Expr} {es : List Expr} {t : TA} (c : Cl X.prog X.w X.K X.mg X.base CX0 k x sp) (hr : Room j X.A) (hk : k ≤ j) (hg : Gl X x) (ha : PA X (e :: es) t)
    (hdb : (x == ("__debug__" : Str)) = false := by decide) (he : starEach (e :: es) X.env = (false, eval e X.env) :: starEach es X.env := by rfl) (hpl : (backTo pos (starEach es X.env)).any (·.1) = false := by rfl) :
    PE X (.Call (.Name x p) (e :: es) [] pos) (tCall sp [] E0 t) := by
  obtain ⟨f, fd, ps, F, hm, kp, b⟩ := c.ex
  exact pe_call F (hr.mono hk) hg hm kp b .nil pass0 ha hdb he hpl
/-- // by any divisor but 0, below 2 ^ 9000 -/
def CDivX (_ j : Int) : Prop := j ≠ 0 ∧ j.natAbs.log2 < 9000
theorem op_fdivX : OpR X (binaryOp .FloorDiv) (rI CDivX fun i j => .int (i.fdiv j)) := opI fun i j _ _ _ _ _ hc q =>
  floordiv_int hc.1 q (.inl (PyProof.noPylong_of_log2 hc.2))
end
theorem cdiv {i j : Int} {b : Nat} (h : j ≠ 0) (hb : j.natAbs < 2 ^ b) (h0 : 0 < b) (h9 : b ≤ 9000) : CDivX i j := ⟨h, Nat.lt_of_lt_of_le (PySem.Flt.log2_lt_of h0 hb) h9⟩
/-! ### data at a heap -/
theorem Same.tup {K : PySem.W.Frag} {H H' : Hp} {a : Addr} {xs : List V} (e : Same H H') (h : SqT K H a xs) : SqT K H' a xs := by
  rcases h with (h | ⟨o, h⟩) | h
  · exact .inl (.inl (e _ _ h))
  · exact .inl (.inr ⟨o, e _ _ h⟩)
  · exact .inr h
theorem Same.new {H : Hp} {p : Addr} {o : HO} (h : H p = none) : Same H (upd H p o) := fun b x e => by
  rw [upd_ne (ne_of_none e h)]
  exact e
mutual
theorem dp_mono {K : PySem.W.Frag} {H H' : Hp} (s : Same H H') : ∀ (d : PyData) (v : V), Dp K H v d → Dp K H' v d
  | .none, _, h => by cases h; exact .non
  | .bool _, _, h => by cases h; exact .bl _
  | .int _, _, h => by cases h; exact .int _
  | .str _, _, h => by cases h; exact .str _
  | .list ds, _, h => by
    cases h with
    | lst hs ha => exact .lst (s.seq hs) (dpa_mono s ds _ ha)
  | .tuple ds, _, h => by
    cases h with
    | tup hs ha => exact .tup (Same.tup s hs) (dpa_mono s ds _ ha)
  | .dict _, _, h => by cases h
theorem dpa_mono {K : PySem.W.Frag} {H H' : Hp} (s : Same H H') : ∀ (ds : List PyData) (vs : List V), DpAll K H vs ds → DpAll K H' vs ds
  | [], _, h => by cases h; exact .nil
  | d :: ds, _, h => by
    cases h with
    | cons h1 h2 => exact .cons (dp_mono s d _ h1) (dpa_mono s ds _ h2)
end
end R
namespace R
open PySem PySem.Spec PyProof.Rows L2
def topS (i : Nat) : Stmt := PySem.Challenge.pw_reels_k01_fractions.main.body.getD i (.Pass ⟨0, 0, 0, 0⟩)
abbrev s_common_divisor : Stmt := topS 1
theorem sc_common_divisor : FnScope ["one", "two"] ["one", "two"] (defScope s_common_divisor) := ⟨rfl, rfl, rfl, by decide +kernel, rfl, by decide +kernel, by decide +kernel⟩
abbrev s_made : Stmt := topS 2
theorem sc_made : FnScope ["top", "bottom", "divisor"] ["top", "bottom"] (defScope s_made) := ⟨rfl, rfl, rfl, by decide +kernel, rfl, by decide +kernel, by decide +kernel⟩
abbrev s_added : Stmt := topS 3
theorem sc_added : FnScope ["one", "two", "shared", "top", "divisor"] ["one", "two"] (defScope s_added) := ⟨rfl, rfl, rfl, by decide +kernel, rfl, by decide +kernel, by decide +kernel⟩
abbrev s_less : Stmt := topS 4
theorem sc_less : FnScope ["one", "two"] ["one", "two"] (defScope s_less) := ⟨rfl, rfl, rfl, by decide +kernel, rfl, by decide +kernel, by decide +kernel⟩
abbrev s_timed : Stmt := topS 5
theorem sc_timed : FnScope ["one", "two"] ["one", "two"] (defScope s_timed) := ⟨rfl, rfl, rfl, by decide +kernel, rfl, by decide +kernel, by decide +kernel⟩
abbrev s_over : Stmt := topS 6
theorem sc_over : FnScope ["one", "two"] ["one", "two"] (defScope s_over) := ⟨rfl, rfl, rfl, by decide +kernel, rfl, by decide +kernel, by decide +kernel⟩
abbrev s_is_below : Stmt := topS 7
theorem sc_is_below : FnScope ["one", "two"] ["one", "two"] (defScope s_is_below) := ⟨rfl, rfl, rfl, by decide +kernel, rfl, by decide +kernel, by decide +kernel⟩
abbrev s_Lbegun : Stmt := topS 9
theorem sc_Lbegun : FnScope ["_law_script", "_law_stirred", "_law_cell"] ["_law_script"] (defScope s_Lbegun) := ⟨rfl, rfl, rfl, by decide +kernel, rfl, by decide +kernel, by decide +kernel⟩
abbrev s_Ltake : Stmt := topS 10
theorem sc_Ltake : FnScope ["_law_box", "_law_many", "_law_number"] ["_law_box", "_law_many"] (defScope s_Ltake) := ⟨rfl, rfl, rfl, by decide +kernel, rfl, by decide +kernel, by decide +kernel⟩
abbrev s_Lalike : Stmt := topS 11
theorem sc_Lalike : FnScope ["_law_found", "_law_due", "_law_k"] ["_law_found", "_law_due"] (defScope s_Lalike) := ⟨rfl, rfl, rfl, by decide +kernel, rfl, by decide +kernel, by decide +kernel⟩
abbrev s_Lfr : Stmt := topS 12
theorem sc_Lfr : FnScope ["_law_top", "_law_bottom", "_law_one", "_law_two", "_law_rest"] ["_law_top", "_law_bottom"] (defScope s_Lfr) := ⟨rfl, rfl, rfl, by decide +kernel, rfl, by decide +kernel, by decide +kernel⟩
abbrev s_Lsum : Stmt := topS 13
theorem sc_Lsum : FnScope ["_law_one", "_law_two"] ["_law_one", "_law_two"] (defScope s_Lsum) := ⟨rfl, rfl, rfl, by decide +kernel, rfl, by decide +kernel, by decide +kernel⟩
abbrev s_Lminus : Stmt := topS 14
theorem sc_Lminus : FnScope ["_law_one", "_law_two"] ["_law_one", "_law_two"] (defScope s_Lminus) := ⟨rfl, rfl, rfl, by decide +kernel, rfl, by decide +kernel, by decide +kernel⟩
abbrev s_Ltimes : Stmt := topS 15
theorem sc_Ltimes : FnScope ["_law_one", "_law_two"] ["_law_one", "_law_two"] (defScope s_Ltimes) := ⟨rfl, rfl, rfl, by decide +kernel, rfl, by decide +kernel, by decide +kernel⟩
abbrev s_Lby : Stmt := topS 16
theorem sc_Lby : FnScope ["_law_one", "_law_two"] ["_law_one", "_law_two"] (defScope s_Lby) := ⟨rfl, rfl, rfl, by decide +kernel, rfl, by decide +kernel, by decide +kernel⟩
abbrev s_Llow : Stmt := topS 17
theorem sc_Llow : FnScope ["_law_one", "_law_two"] ["_law_one", "_law_two"] (defScope s_Llow) := ⟨rfl, rfl, rfl, by decide +kernel, rfl, by decide +kernel, by decide +kernel⟩
abbrev s_Lpair : Stmt := topS 18
theorem sc_Lpair : FnScope ["_law_box"] ["_law_box"] (defScope s_Lpair) := ⟨rfl, rfl, rfl, by decide +kernel, rfl, by decide +kernel, by decide +kernel⟩
abbrev s_law : Stmt := topS 19
theorem sc_law : FnScope ["_law_script", "_law_box", "_law_pair_here", "_law_one", "_law_other", "_law_two", "_law_told"] ["_law_script"] (defScope s_law) := ⟨rfl, rfl, rfl, by decide +kernel, rfl, by decide +kernel, by decide +kernel⟩
structure Txt (K : PySem.W.Frag) (mg : Str → Option Value) : Prop where
  d_common_divisor : Df K mg "common_divisor" s_common_divisor ["one", "two"]
  d_made : Df K mg "made" s_made ["top", "bottom"]
  d_added : Df K mg "added" s_added ["one", "two"]
  d_less : Df K mg "less" s_less ["one", "two"]
  d_timed : Df K mg "timed" s_timed ["one", "two"]
  d_over : Df K mg "over" s_over ["one", "two"]
  d_is_below : Df K mg "is_below" s_is_below ["one", "two"]
  d_Lbegun : Df K mg "_law_begun" s_Lbegun ["_law_script"]
  d_Ltake : Df K mg "_law_take" s_Ltake ["_law_box", "_law_many"]
  d_Lalike : Df K mg "_law_alike" s_Lalike ["_law_found", "_law_due"]
  d_Lfr : Df K mg "_law_fr" s_Lfr ["_law_top", "_law_bottom"]
  d_Lsum : Df K mg "_law_sum" s_Lsum ["_law_one", "_law_two"]
  d_Lminus : Df K mg "_law_minus" s_Lminus ["_law_one", "_law_two"]
  d_Ltimes : Df K mg "_law_times" s_Ltimes ["_law_one", "_law_two"]
  d_Lby : Df K mg "_law_by" s_Lby ["_law_one", "_law_two"]
  d_Llow : Df K mg "_law_low" s_Llow ["_law_one", "_law_two"]
  d_Lpair : Df K mg "_law_pair" s_Lpair ["_law_box"]
  d_law : Df K mg "law" s_law ["_law_script"]
  m_abs : mg "abs" = none
  m_list : mg "list" = none
  m_int : mg "int" = none
  m_len : mg "len" = none
  m_isinstance : mg "isinstance" = none
  m_bool : mg "bool" = none
  m_str : mg "str" = none
  m_tuple : mg "tuple" = none
  m_range : mg "range" = none
/-! ### fractions on the heap -/
def dF (q : Rat) : PyData := .tuple [.int q.num, .int (q.den : Int)]
theorem dF_at {K : PySem.W.Frag} {H : Hp} {v : V} {q : Rat} (h : Dp K H v (dF q)) : ∃ a, v = .ref a ∧ SqT K H a [.int q.num, .int (q.den : Int)] := by
  unfold dF at h
  cases h with
  | tup hs ha =>
    cases ha with
    | cons h1 h2 =>
      cases h1
      cases h2 with
      | cons h3 h4 =>
        cases h3
        cases h4
        exact ⟨_, rfl, hs⟩
theorem dF_mk {K : PySem.W.Frag} {H : Hp} {p : Addr} {q : Rat} (h : SqT K H p [.int q.num, .int (q.den : Int)]) : Dp K H (.ref p) (dF q) := .tup h (.cons (.int _) (.cons (.int _) .nil))
def spGcd : Sp := fun vs H Q _ => ∃ i j : Int, vs = [.int i, .int j] ∧ Q (.int (Nat.gcd i.natAbs j.natAbs : Nat)) H
def spMade (K : PySem.W.Frag) : Sp := fun vs H Q _ => ∃ t b : Int, vs = [.int t, .int b] ∧ b ≠ 0 ∧ b.natAbs < 2 ^ 9000 ∧ ∀ H' v, Same H H' → Dp K H' v (dF (Rat.divInt t b)) → Q v H'
def spF2 (K : PySem.W.Frag) (f : Rat → Rat → Rat) (C : Rat → Rat → Prop) : Sp := fun vs H Q _ => ∃ (u v : V) (x y : Rat) (n m : Nat), vs = [u, v] ∧ Dp K H u (dF x) ∧ Dp K H v (dF y) ∧ Sz n x ∧ Sz m y ∧ n + m ≤ 9000 ∧ C x y ∧
  ∀ H' z, Same H H' → Dp K H' z (dF (f x y)) → Q z H'
def spLow (K : PySem.W.Frag) : Sp := fun vs H Q _ => ∃ (u v : V) (x y : Rat) (n m : Nat), vs = [u, v] ∧ Dp K H u (dF x) ∧ Dp K H v (dF y) ∧ Sz n x ∧ Sz m y ∧ n + m ≤ 9000 ∧ Q (.bl (decide (x < y))) H
theorem Sz.pos {n : Nat} {x : Rat} (h : Sz n x) : 0 < n := by
  have h1 := h.den
  have h2 := x.den_nz
  cases n with
  | zero =>
    have : x.den < 1 := h1
    omega
  | succ n => exact Nat.succ_pos n
theorem mnd {n m : Nat} {x y : Rat} (hx : Sz n x) (hy : Sz m y) (h : n + m ≤ 9000) : CMulW x.num (y.den : Int) := wide_mul hx.num hy.den' hx.pos hy.pos (by omega)
theorem mnd' {n m : Nat} {x y : Rat} (hx : Sz n x) (hy : Sz m y) (h : n + m ≤ 9000) : CMulW y.num (x.den : Int) := wide_mul hy.num hx.den' hy.pos hx.pos (by omega)
theorem mdd {n m : Nat} {x y : Rat} (hx : Sz n x) (hy : Sz m y) (h : n + m ≤ 9000) : CMulW (x.den : Int) (y.den : Int) := wide_mul hx.den' hy.den' hx.pos hy.pos (by omega)
theorem mnn {n m : Nat} {x y : Rat} (hx : Sz n x) (hy : Sz m y) (h : n + m ≤ 9000) : CMulW x.num y.num := wide_mul hx.num hy.num hx.pos hy.pos (by omega)
theorem mdn {n m : Nat} {x y : Rat} (hx : Sz n x) (hy : Sz m y) (h : n + m ≤ 9000) : CMulW (x.den : Int) y.num := wide_mul hx.den' hy.num hx.pos hy.pos (by omega)
theorem up9 {i : Int} {n : Nat} (h : i.natAbs < 2 ^ n) (k : n ≤ 9000) : i.natAbs < 2 ^ 9000 := Nat.lt_of_lt_of_le h (Nat.pow_le_pow_right (by decide) k)
theorem num_zero {y : Rat} (h : y.num ≠ 0) : y ≠ 0 := fun e => h (by rw [e]; rfl)
theorem p20 {i : Int} (h : i.natAbs < 2 ^ 20) : i.natAbs < 2 ^ 9000 := Nat.lt_of_lt_of_le h (Nat.pow_le_pow_right (by decide) (by decide))
/-! ### the box of draws: a list of ints and a number, at b and l -/
def hid (b l : Addr) (H : Hp) : Hp := fun a => if a = b ∨ a = l then none else H a
structure Bx (H : Hp) (b l : Addr) : Prop where
  ne : b ≠ l
  ex : ∃ (xs : List Int) (st : Int), H b = some (.lst [.ref l, .int st]) ∧ H l = some (.lst (xs.map V.int))
theorem hid_b {b l : Addr} {H : Hp} {o : HO} : hid b l (upd H b o) = hid b l H := by
  funext a
  unfold hid upd
  split
  · rfl
  · rename_i h
    rw [if_neg (fun e => h (.inl e))]
theorem hid_l {b l : Addr} {H : Hp} {o : HO} : hid b l (upd H l o) = hid b l H := by
  funext a
  unfold hid upd
  split
  · rfl
  · rename_i h
    rw [if_neg (fun e => h (.inr e))]
theorem Same.hid {b l : Addr} {H H' : Hp} (s : Same H H') : Same (hid b l H) (hid b l H') := fun a o h => by
  unfold R.hid at h ⊢
  split at h
  · cases h
  · rename_i k
    rw [if_neg k]
    exact s _ _ h
theorem hid_same {b l : Addr} {H : Hp} : Same (hid b l H) H := fun a o h => by
  unfold hid at h
  split at h
  · cases h
  · exact h
theorem Bx.mono {b l : Addr} {H H' : Hp} (B : Bx H b l) (s : Same H H') : Bx H' b l := by
  obtain ⟨xs, st, h1, h2⟩ := B.ex
  exact ⟨B.ne, xs, st, s _ _ h1, s _ _ h2⟩
theorem dpa_ints {K : PySem.W.Frag} {H : Hp} : ∀ xs : List Int, DpAll K H (xs.map V.int) (xs.map PyData.int)
  | [] => .nil
  | _ :: r => .cons (.int _) (dpa_ints r)
theorem lay_ints : ∀ xs : List Int, PyData.canLayAll0 (xs.map PyData.int) = true
  | [] => rfl
  | _ :: r => by
    show (PyData.canLay0 _ && PyData.canLayAll0 (r.map PyData.int)) = true
    rw [lay_ints r]
    rfl
theorem depth_ints : ∀ xs : List Int, PyData.depthAll (xs.map PyData.int) = 0
  | [] => rfl
  | _ :: r => by
    show max (PyData.depth _) (PyData.depthAll (r.map PyData.int)) = 0
    rw [depth_ints r]
    rfl
theorem shaped_ints (xs : List Int) : SeqAt.shaped (.list (xs.map PyData.int)) = true := by
  unfold SeqAt.shaped
  rw [show PyData.canLay0 (.list (xs.map PyData.int)) = true from lay_ints xs, show PyData.depth (.list (xs.map PyData.int)) = 1 by
    show PyData.depthAll (xs.map PyData.int) + 1 = 1
    rw [depth_ints]]
  rfl
theorem fmod_rg {x m : Int} (h : 0 < m) : 0 ≤ x.fmod m ∧ x.fmod m < m := by
  rw [Int.fmod_eq_emod_of_nonneg _ (by omega)]
  exact ⟨Int.emod_nonneg _ (by omega), Int.emod_lt_of_pos _ h⟩
def spBegun (K : PySem.W.Frag) : Sp := fun vs H Q _ => ∃ (a : Addr) (ns : List Int), vs = [.ref a] ∧ SqL K H a (ns.map V.int) ∧ ∀ H' b l, Same H H' → H b = none → H l = none → Bx H' b l → Q (.ref b) H'
def spTake (K : PySem.W.Frag) : Sp := fun vs H Q _ => ∃ (b l : Addr) (m : Int), vs = [.ref b, .int m] ∧ Bx H b l ∧ 0 < m ∧ m < 1073741824 ∧ ∀ H' (r : Int), Same (hid b l H) (hid b l H') → Bx H' b l → 0 ≤ r → r < m → Q (.int r) H'
theorem ixN0 {n : Nat} : ixN (n + 1) 0 = some 0 := by
  unfold ixN
  rw [if_pos (by decide), if_pos (by omega)]
  rfl
theorem hid_at {b l p : Addr} {H : Hp} {o : HO} (B : Bx H b l) (hp : H p = none) : hid b l (upd H p o) p = some o := by
  obtain ⟨xs, st, h1, h2⟩ := B.ex
  unfold hid
  rw [if_neg, upd_same]
  rintro (e | e)
  · rw [e, h1] at hp
    cases hp
  · rw [e, h2] at hp
    cases hp
theorem hid_tup {K : PySem.W.Frag} {b l a : Addr} {H : Hp} {xs : List V} (B : Bx H b l) (h : SqT K H a xs) : SqT K (hid b l H) a xs := by
  obtain ⟨ys, st, h1, h2⟩ := B.ex
  have key : ∀ u : HO, H a = some u → (∀ zs, u ≠ .lst zs) → hid b l H a = some u := by
    intro u hu hn
    unfold hid
    rw [if_neg, hu]
    rintro (e | e)
    · rw [e, h1] at hu
      exact hn _ (Option.some.inj hu).symm
    · rw [e, h2] at hu
      exact hn _ (Option.some.inj hu).symm
  rcases h with (h | ⟨o, h⟩) | h
  · exact .inl (.inl (key _ h (fun _ z => nomatch z)))
  · exact .inl (.inr ⟨o, key _ h (fun _ z => nomatch z)⟩)
  · exact .inr h
theorem frac_hid {K : PySem.W.Frag} {b l : Addr} {H : Hp} {v : V} {q : Rat} (B : Bx H b l) (h : Dp K H v (dF q)) : Dp K (hid b l H) v (dF q) := by
  obtain ⟨a, rfl, h2⟩ := dF_at h
  exact dF_mk (hid_tup B h2)
theorem frac_keep {K : PySem.W.Frag} {b l : Addr} {H H' : Hp} {v : V} {q : Rat} (h : Dp K H v (dF q)) (B : Bx H b l) (s : Same (hid b l H) (hid b l H')) : Dp K H' v (dF q) := dp_mono hid_same _ _ (dp_mono s _ _ (frac_hid B h))
/-! ### alike: the same data -/
theorem iteY {c : Bool} {A B : Prop} (h : c = true) (a : A) : if c = true then A else B := by
  rw [if_pos h]
  exact a
theorem iteN {c : Bool} {A B : Prop} (h : c = false) (b : B) : if c = true then A else B := by
  rw [if_neg (by rw [h]; exact Bool.false_ne_true)]
  exact b
theorem tyL {K : PySem.W.Frag} {H : Hp} {a : Addr} {xs : List V} (h : SqL K H a xs) : TyX K H (.ref a) (.type "list") := by
  rcases h with (h | ⟨o, h⟩) | ⟨o, its, n, h1, h2, _⟩
  · exact .base (.lst h)
  · exact .base (.frz h)
  · exact .kList h1 h2
theorem tyT {K : PySem.W.Frag} {H : Hp} {a : Addr} {xs : List V} (h : SqT K H a xs) : TyX K H (.ref a) (.type "tuple") := by
  rcases h with (h | ⟨o, h⟩) | ⟨o, its, n, h1, h2, _⟩
  · exact .base (.tup h)
  · exact .fTuple h
  · exact .kTuple h1 h2
theorem rIx_of {K : PySem.W.Frag} {H : Hp} {a : Addr} {xs : List V} {j : Nat} {v : V} {Q : VK} (h : SqL K H a xs ∨ SqT K H a xs) (hv : xs[j]? = some v) (q : Q v H) : rIx K (.ref a) (.int (j : Int)) H Q := by
  rcases h with h | h
  · exact .inl ⟨_, _, _, _, rfl, rfl, h, atI_nat hv, q⟩
  · exact .inr (.inl ⟨_, _, _, _, rfl, rfl, h, atI_nat hv, q⟩)
mutual
def szOk : PyData → Bool
  | .list xs | .tuple xs => decide (xs.length < 2 ^ 62) && szAll xs
  | _ => true
def szAll : List PyData → Bool
  | [] => true
  | x :: xs => szOk x && szAll xs
end
theorem szAll_at : ∀ {ds : List PyData} {i : Nat} {d : PyData}, szAll ds = true → ds[i]? = some d → szOk d = true
  | [], _, _, _, h => by simp at h
  | x :: r, 0, d, a, h => by
    have e : x = d := Option.some.inj h
    have := Bool.and_eq_true_iff.mp (show (szOk x && szAll r) = true from a)
    rw [← e]
    exact this.1
  | x :: r, i + 1, d, a, h => szAll_at (ds := r) (i := i) (Bool.and_eq_true_iff.mp (show (szOk x && szAll r) = true from a)).2 h
theorem depth_at : ∀ {ds : List PyData} {i : Nat} {d : PyData}, ds[i]? = some d → d.depth ≤ PyData.depthAll ds
  | [], _, _, h => by simp at h
  | x :: r, 0, d, h => by
    have e : x = d := Option.some.inj h
    rw [← e]
    exact Nat.le_max_left _ _
  | x :: r, i + 1, d, h => Nat.le_trans (depth_at (ds := r) (i := i) h) (Nat.le_max_right _ _)
theorem dpa_at {K : PySem.W.Frag} {H : Hp} : ∀ {vs : List V} {ds : List PyData} {i : Nat} {v : V}, DpAll K H vs ds → vs[i]? = some v → ∃ d, ds[i]? = some d ∧ Dp K H v d
  | [], _, _, _, _, h => by simp at h
  | x :: r, _, 0, v, .cons h1 h2, h => by
    have e : x = v := Option.some.inj h
    rw [← e]
    exact ⟨_, rfl, h1⟩
  | x :: r, _, i + 1, v, .cons h1 h2, h => dpa_at (vs := r) (i := i) h2 h
theorem dpa_len {K : PySem.W.Frag} {H : Hp} : ∀ {vs : List V} {ds : List PyData}, DpAll K H vs ds → vs.length = ds.length
  | _, _, .nil => rfl
  | _, _, .cons _ h => by rw [List.length_cons, List.length_cons, dpa_len h]
def spAlike (K : PySem.W.Frag) (n : Nat) : Sp := fun vs H Q _ => ∃ (u v : V) (d : PyData), vs = [u, v] ∧ Dp K H u d ∧ Dp K H v d ∧ d.depth < n ∧ szOk d = true ∧ Q (.bl true) H
section
variable {P : Program} {w : World} {K : PySem.W.Frag} {mg : Str → Option Value} {base : Heap}
theorem cl_common_divisor (T : Txt K mg) : Cl P w K mg base CX0 1 "common_divisor" spGcd := by
  refine T.d_common_divisor.cl sc_common_divisor (fun vs H Q E h => ?_) (fun f cdv A outer s H vs Q E hr h => ?_)
  · obtain ⟨i, j, rfl, _⟩ := h
    rfl
  · obtain ⟨i, j, rfl, q⟩ := h
    refine ⟨_, (pss_cons (ps_set (i := 0) sc_common_divisor.nd rfl (.inl rfl) (pe_callB call_abs (by rfl) T.m_abs (by decide +kernel) (pa_cons (pv 0) pa_nil)))
      (pss_cons (ps_set (i := 1) sc_common_divisor.nd rfl (.inl rfl) (pe_callB call_abs (by rfl) T.m_abs (by decide +kernel) (pa_cons (pv 1) pa_nil)))
      (pss_cons (ps_while PassesOwn.never (pt_cmpR op_gt (pv 1) pe_int (nomark _))
        (pss_one (ps_par (i := 0) (j := 1) (by rfl) sc_common_divisor.nd rfl rfl (by decide) rfl rfl (pa_cons (pv 1) (pa_cons (pe_op op_modN (pv 0) (pv 1)) pa_nil)) (by rfl))))
      (pss_one (ps_ret (pv 0)))))), ?_⟩
    refine ⟨_, rfl, _, rfl, _, rfl, _, rfl, ?_⟩
    refine while_by (fun σ H' => ∃ a b : Nat, σ = [some (.int (a : Int)), some (.int (b : Int))] ∧ H' = H ∧ Nat.gcd a b = Nat.gcd i.natAbs j.natAbs) (fun σ _ => match σ with | [_, some (.int b)] => b.natAbs | _ => 0) ?_ ?_ ?_
    · refine ⟨i.natAbs, j.natAbs, ?_, rfl, rfl⟩
      show [some (V.int (if i < 0 then -i else i)), some (V.int (if j < 0 then -j else j))] = _
      rw [abs_nat, abs_nat]
    · intro σ H' h
      obtain ⟨a, b, rfl, rfl, e⟩ := h
      refine ⟨_, rfl, _, _, rfl, rfl, _, rfl, ite2 (fun z => ?_) (fun z => ?_)⟩
      · have hb : 0 < b := by
          have := of_decide_eq_true z
          omega
        refine ⟨_, rfl, _, rfl, _, rfl, _, _, rfl, rfl, (by omega), _, _, rfl, ⟨b, a % b, ?_, rfl, ?_⟩, ?_⟩
        · show [some (V.int (b : Int)), some (V.int ((a : Int).fmod (b : Int)))] = _
          rw [fmod_nat]
        · rw [gcd_turn]
          exact e
        · show Int.natAbs (Int.fmod (a : Int) (b : Int)) < Int.natAbs (b : Int)
          rw [fmod_nat]
          have := Nat.mod_lt a hb
          omega
      · have hb : b = 0 := by
          have z2 : ¬ ((0 : Int) < (b : Int)) := fun y => z (decide_eq_true y)
          omega
        subst hb
        refine ⟨_, rfl, ?_⟩
        rw [Nat.gcd_zero_right] at e
        rw [← e] at q
        exact q
    · intro σ H' Q1 Q2 h12 h
      obtain ⟨v, e, i, j, e1, e2, k, e3, h⟩ := h
      exact ⟨v, e, i, j, e1, e2, k, e3, h12 _ _ h⟩
theorem cl_made (T : Txt K mg) : Cl P w K mg base CX0 2 "made" (spMade K) := by
  have c_common_divisor := cl_common_divisor (P := P) (w := w) (base := base) T
  refine T.d_made.cl sc_made (fun vs H Q E h => ?_) (fun f cdv A outer s H vs Q E hr h => ?_)
  · obtain ⟨i, j, rfl, _⟩ := h
    rfl
  · obtain ⟨t, b, rfl, hb, hs, q⟩ := h
    refine ⟨_, (pss_cons (ps_set (i := 2) sc_made.nd rfl (.inl rfl) (pe_cl c_common_divisor hr (by decide) (by rfl) (pa_cons (pv 0) (pa_cons (pv 1) pa_nil))))
      (pss_cons (ps_if (pt_cmpR op_lt (pv 1) pe_int (nomark _))
        (pss_one (ps_set (i := 2) sc_made.nd rfl (.inl rfl) (pe_un un_neg (pv 2))))
        pss_nil)
      (pss_one (ps_ret (pe_tup (pa_cons (pe_op op_fdivX (pv 0) (pv 2)) (pa_cons (pe_op op_fdivX (pv 1) (pv 2)) pa_nil))))))), ?_⟩
    have last : ∀ d : Int, d = frI t b → ∀ p, H p = none → Q (.ref p) (upd H p (.tup [.int (t.fdiv d), .int (b.fdiv d)])) := by
      intro d e p hp
      subst e
      refine q _ _ (Same.new hp) (dF_mk ?_)
      rw [fr_num hb, fr_den hb]
      exact .inl (.inl upd_same)
    have hd : ∀ d : Int, d = frI t b → CDivX t d ∧ CDivX b d := by
      intro d e
      subst e
      have h1 := Nat.lt_of_le_of_lt (frI_natAbs (t := t) hb) hs
      exact ⟨cdiv (frI_ne hb) h1 (by decide) (by decide), cdiv (frI_ne hb) h1 (by decide) (by decide)⟩
    refine ⟨_, rfl, _, rfl, _, _, rfl, _, rfl, _, _, rfl, rfl, _, rfl, ite2 (fun z => ?_) (fun z => ?_)⟩
    · have z1 : b < 0 := of_decide_eq_true z
      have e : -((Nat.gcd t.natAbs b.natAbs : Nat) : Int) = frI t b := by
        unfold frI
        rw [if_pos z1]
      refine ⟨_, rfl, _, rfl, _, rfl, _, rfl, _, _, rfl, rfl, (hd _ e).1, _, rfl, _, rfl, _, _, rfl, rfl, (hd _ e).2, (show 2 ≤ sizeLine by decide), fun p hp => last _ e p hp⟩
    · have z1 : ¬ b < 0 := fun y => z (decide_eq_true y)
      have e : ((Nat.gcd t.natAbs b.natAbs : Nat) : Int) = frI t b := by
        unfold frI
        rw [if_neg z1]
      refine ⟨_, rfl, _, rfl, _, _, rfl, rfl, (hd _ e).1, _, rfl, _, rfl, _, _, rfl, rfl, (hd _ e).2, (show 2 ≤ sizeLine by decide), fun p hp => last _ e p hp⟩
theorem cl_added (T : Txt K mg) : Cl P w K mg base CX0 2 "added" (spF2 K (fun x y => x + y) (fun x y => True)) := by
  have c_common_divisor := cl_common_divisor (P := P) (w := w) (base := base) T
  refine T.d_added.cl sc_added (fun vs H Q E h => ?_) (fun f cdv A outer s H vs Q E hr h => ?_)
  · obtain ⟨u, v, x, y, n, m, rfl, _⟩ := h
    rfl
  · obtain ⟨u, v, x, y, n, m, rfl, hu, hv, sx, sy, hnm, hc, q⟩ := h
    obtain ⟨a, rfl, h0⟩ := dF_at hu
    obtain ⟨b, rfl, h1⟩ := dF_at hv
    refine ⟨_, (pss_cons (ps_set (i := 2) sc_added.nd rfl (.inl rfl) (pe_cl c_common_divisor hr (by decide) (by rfl) (pa_cons (pe_ix ix_tup (pv 0) pe_int (fun _ _ => rfl)) (pa_cons (pe_ix ix_tup (pv 1) pe_int (fun _ _ => rfl)) pa_nil))))
      (pss_cons (ps_set (i := 3) sc_added.nd rfl (.inl rfl) (pe_op op_add (pe_op op_mulW (pe_ix ix_tup (pv 0) pe_int (fun _ _ => rfl)) (pe_op op_fdivX (pe_ix ix_tup (pv 1) pe_int (fun _ _ => rfl)) (pv 2))) (pe_op op_mulW (pe_ix ix_tup (pv 1) pe_int (fun _ _ => rfl)) (pe_op op_fdivX (pe_ix ix_tup (pv 0) pe_int (fun _ _ => rfl)) (pv 2)))))
      (pss_cons (ps_set (i := 4) sc_added.nd rfl (.inl rfl) (pe_cl c_common_divisor hr (by decide) (by rfl) (pa_cons (pv 3) (pa_cons (pv 2) pa_nil))))
      (pss_one (ps_ret (pe_tup (pa_cons (pe_op op_fdivX (pv 3) (pv 4)) (pa_cons (pe_op op_mulW (pe_op op_fdivX (pe_ix ix_tup (pv 0) pe_int (fun _ _ => rfl)) (pv 2)) (pe_op op_fdivX (pe_ix ix_tup (pv 1) pe_int (fun _ _ => rfl)) (pv 4))) pa_nil)))))))), ?_⟩
    have g0 := sG_pos x y
    have d0 := sD_pos x y
    have gn : ((sG x y : Nat) : Int).natAbs < 2 ^ n := Nat.lt_of_le_of_lt (sG_le x y) sx.den
    have dn : ((sD x y : Nat) : Int).natAbs < 2 ^ n := Nat.lt_of_le_of_lt (sD_le x y) sx.den
    have cg : ∀ i : Int, CDivX i ((sG x y : Nat) : Int) := fun i => cdiv (by omega) gn sx.pos (by omega)
    have cd : ∀ i : Int, CDivX i ((sD x y : Nat) : Int) := fun i => cdiv (by omega) dn sx.pos (by omega)
    have m1 : CMulW x.num (((y.den : Nat) : Int).fdiv ((sG x y : Nat) : Int)) := by
      rw [fdiv_nat]
      exact wide_mul sx.num (Nat.lt_of_le_of_lt (Nat.div_le_self _ _) sy.den) sx.pos sy.pos (by omega)
    have m2 : CMulW y.num (((x.den : Nat) : Int).fdiv ((sG x y : Nat) : Int)) := by
      rw [fdiv_nat]
      exact wide_mul sy.num (Nat.lt_of_le_of_lt (Nat.div_le_self _ _) sx.den) sy.pos sx.pos (by omega)
    have m3 : CMulW (((x.den : Nat) : Int).fdiv ((sG x y : Nat) : Int)) (((y.den : Nat) : Int).fdiv ((sD x y : Nat) : Int)) := by
      rw [fdiv_nat, fdiv_nat]
      exact wide_mul (Nat.lt_of_le_of_lt (Nat.div_le_self _ _) sx.den) (Nat.lt_of_le_of_lt (Nat.div_le_self _ _) sy.den) sx.pos sy.pos (by omega)
    refine ⟨_, rfl, _, _, _, _, rfl, rfl, h0, atI_nat (j := 1) rfl, _, rfl, _, _, _, _, rfl, rfl, h1, atI_nat (j := 1) rfl, _, _, rfl, ?_⟩
    refine ⟨_, rfl, _, _, _, _, rfl, rfl, h0, atI_nat (j := 0) rfl, _, rfl, _, _, _, _, rfl, rfl, h1, atI_nat (j := 1) rfl, _, rfl, _, _, rfl, rfl, cg _, _, _, rfl, rfl, m1, _, rfl, _, _, _, _, rfl, rfl, h1, atI_nat (j := 0) rfl, _, rfl, _, _, _, _, rfl, rfl, h0, atI_nat (j := 1) rfl, _, rfl, _, _, rfl, rfl, cg _, _, _, rfl, rfl, m2, _, _, rfl, rfl, ?_⟩
    have e : x.num * ((y.den : Int).fdiv ((sG x y : Nat) : Int)) + y.num * ((x.den : Int).fdiv ((sG x y : Nat) : Int)) = sT x y := by
      rw [fdiv_nat, fdiv_nat]
      rfl
    refine ⟨.int (sT x y), ?_, .int ((sG x y : Nat) : Int), rfl, _, _, rfl, ?_⟩
    · exact congrArg (fun z => some (some (V.int z))) e
    refine ⟨.int (sT x y), congrArg (fun z => some (some (V.int z))) e, .int ((sD x y : Nat) : Int), rfl, _, _, rfl, rfl, cd _, _, rfl, _, _, _, _, rfl, rfl, h0, atI_nat (j := 1) rfl, .int ((sG x y : Nat) : Int), rfl, _, _, rfl, rfl, cg _, _, rfl, _, _, _, _, rfl, rfl, h1, atI_nat (j := 1) rfl, .int ((sD x y : Nat) : Int), rfl, _, _, rfl, rfl, cd _, _, _, rfl, rfl, m3, (show 2 ≤ sizeLine by decide), fun p hp => ?_⟩
    refine q _ _ (Same.new hp) (dF_mk ?_)
    rw [← sum_num, ← sum_den, ← fdiv_nat, ← fdiv_nat]
    exact .inl (.inl upd_same)
theorem cl_less (T : Txt K mg) : Cl P w K mg base CX0 3 "less" (spF2 K (fun x y => x - y) (fun x y => True)) := by
  have c_added := cl_added (P := P) (w := w) (base := base) T
  refine T.d_less.cl sc_less (fun vs H Q E h => ?_) (fun f cdv A outer s H vs Q E hr h => ?_)
  · obtain ⟨u, v, x, y, n, m, rfl, _⟩ := h
    rfl
  · obtain ⟨u, v, x, y, n, m, rfl, hu, hv, sx, sy, hnm, hc, q⟩ := h
    obtain ⟨b, rfl, h1⟩ := dF_at hv
    refine ⟨_, (pss_one (ps_ret (pe_cl c_added hr (by decide) (by rfl) (pa_cons (pv 0) (pa_cons (pe_tup (pa_cons (pe_un un_neg (pe_ix ix_tup (pv 1) pe_int (fun _ _ => rfl))) (pa_cons (pe_ix ix_tup (pv 1) pe_int (fun _ _ => rfl)) pa_nil))) pa_nil))))), ?_⟩
    refine ⟨_, rfl, _, rfl, _, _, _, _, rfl, rfl, h1, atI_nat (j := 0) rfl, _, rfl, _, rfl, _, _, _, _, rfl, rfl, h1, atI_nat (j := 1) rfl, (show 2 ≤ sizeLine by decide), fun p hp => ?_⟩
    have s1 := Same.new (o := .tup [.int (-y.num), .int (y.den : Int)]) hp
    refine ⟨_, _, x, -y, n, m, rfl, dp_mono s1 _ _ hu, dF_mk (.inl (.inl upd_same)), sx, ⟨by show (-y.num).natAbs < 2 ^ m; rw [Int.natAbs_neg]; exact sy.num, sy.den⟩, hnm, trivial, fun H2 z s2 r2 => ?_⟩
    refine q _ _ (s1.trans s2) ?_
    show Dp K H2 z (dF (x - y))
    rw [Rat.sub_eq_add_neg]
    exact r2
theorem cl_timed (T : Txt K mg) : Cl P w K mg base CX0 3 "timed" (spF2 K (fun x y => x * y) (fun x y => True)) := by
  have c_made := cl_made (P := P) (w := w) (base := base) T
  refine T.d_timed.cl sc_timed (fun vs H Q E h => ?_) (fun f cdv A outer s H vs Q E hr h => ?_)
  · obtain ⟨u, v, x, y, n, m, rfl, _⟩ := h
    rfl
  · obtain ⟨u, v, x, y, n, m, rfl, hu, hv, sx, sy, hnm, hc, q⟩ := h
    obtain ⟨a, rfl, h0⟩ := dF_at hu
    obtain ⟨b, rfl, h1⟩ := dF_at hv
    refine ⟨_, (pss_one (ps_ret (pe_cl c_made hr (by decide) (by rfl) (pa_cons (pe_op op_mulW (pe_ix ix_tup (pv 0) pe_int (fun _ _ => rfl)) (pe_ix ix_tup (pv 1) pe_int (fun _ _ => rfl))) (pa_cons (pe_op op_mulW (pe_ix ix_tup (pv 0) pe_int (fun _ _ => rfl)) (pe_ix ix_tup (pv 1) pe_int (fun _ _ => rfl))) pa_nil))))), ?_⟩
    refine ⟨_, rfl, _, _, _, _, rfl, rfl, h0, atI_nat (j := 0) rfl, _, rfl, _, _, _, _, rfl, rfl, h1, atI_nat (j := 0) rfl, _, _, rfl, rfl, mnn sx sy hnm, _, rfl, _, _, _, _, rfl, rfl, h0, atI_nat (j := 1) rfl, _, rfl, _, _, _, _, rfl, rfl, h1, atI_nat (j := 1) rfl, _, _, rfl, rfl, mdd sx sy hnm, _, _, rfl, ?_, ?_, fun H2 z s2 r2 => ?_⟩
    · exact den_mul_ne x y
    · exact up9 (mul_bits sx.den' sy.den') hnm
    · change Dp K H2 z (dF (Rat.divInt (x.num * y.num) ((x.den : Int) * (y.den : Int)))) at r2
      rw [mul_parts] at r2
      exact q _ _ s2 r2
theorem cl_over (T : Txt K mg) : Cl P w K mg base CX0 3 "over" (spF2 K (fun x y => x / y) (fun x y => y ≠ 0)) := by
  have c_made := cl_made (P := P) (w := w) (base := base) T
  refine T.d_over.cl sc_over (fun vs H Q E h => ?_) (fun f cdv A outer s H vs Q E hr h => ?_)
  · obtain ⟨u, v, x, y, n, m, rfl, _⟩ := h
    rfl
  · obtain ⟨u, v, x, y, n, m, rfl, hu, hv, sx, sy, hnm, hc, q⟩ := h
    obtain ⟨a, rfl, h0⟩ := dF_at hu
    obtain ⟨b, rfl, h1⟩ := dF_at hv
    refine ⟨_, (pss_one (ps_ret (pe_cl c_made hr (by decide) (by rfl) (pa_cons (pe_op op_mulW (pe_ix ix_tup (pv 0) pe_int (fun _ _ => rfl)) (pe_ix ix_tup (pv 1) pe_int (fun _ _ => rfl))) (pa_cons (pe_op op_mulW (pe_ix ix_tup (pv 0) pe_int (fun _ _ => rfl)) (pe_ix ix_tup (pv 1) pe_int (fun _ _ => rfl))) pa_nil))))), ?_⟩
    refine ⟨_, rfl, _, _, _, _, rfl, rfl, h0, atI_nat (j := 0) rfl, _, rfl, _, _, _, _, rfl, rfl, h1, atI_nat (j := 1) rfl, _, _, rfl, rfl, mnd sx sy hnm, _, rfl, _, _, _, _, rfl, rfl, h0, atI_nat (j := 1) rfl, _, rfl, _, _, _, _, rfl, rfl, h1, atI_nat (j := 0) rfl, _, _, rfl, rfl, mdn sx sy hnm, _, _, rfl, ?_, ?_, fun H2 z s2 r2 => ?_⟩
    · exact Int.mul_ne_zero (den_ne x) (num_ne hc)
    · exact up9 (mul_bits sx.den' sy.num) hnm
    · change Dp K H2 z (dF (Rat.divInt (x.num * (y.den : Int)) ((x.den : Int) * y.num))) at r2
      rw [div_parts] at r2
      exact q _ _ s2 r2
theorem cl_is_below (T : Txt K mg) : Cl P w K mg base CX0 1 "is_below" (spLow K) := by
  refine T.d_is_below.cl sc_is_below (fun vs H Q E h => ?_) (fun f cdv A outer s H vs Q E hr h => ?_)
  · obtain ⟨u, v, x, y, n, m, rfl, _⟩ := h
    rfl
  · obtain ⟨u, v, x, y, n, m, rfl, hu, hv, sx, sy, hnm, q⟩ := h
    obtain ⟨a, rfl, h0⟩ := dF_at hu
    obtain ⟨b, rfl, h1⟩ := dF_at hv
    refine ⟨_, (pss_one (ps_ret (pe_cmpR op_lt (pe_op op_mulW (pe_ix ix_tup (pv 0) pe_int (fun _ _ => rfl)) (pe_ix ix_tup (pv 1) pe_int (fun _ _ => rfl))) (pe_op op_mulW (pe_ix ix_tup (pv 1) pe_int (fun _ _ => rfl)) (pe_ix ix_tup (pv 0) pe_int (fun _ _ => rfl))) (nomark _)))), ?_⟩
    refine ⟨_, rfl, _, _, _, _, rfl, rfl, h0, atI_nat (j := 0) rfl, _, rfl, _, _, _, _, rfl, rfl, h1, atI_nat (j := 1) rfl, _, _, rfl, rfl, mnd sx sy hnm, _, rfl, _, _, _, _, rfl, rfl, h1, atI_nat (j := 0) rfl, _, rfl, _, _, _, _, rfl, rfl, h0, atI_nat (j := 1) rfl, _, _, rfl, rfl, mnd' sx sy hnm, _, _, rfl, rfl, ?_⟩
    show Q (.bl (decide (x.num * (y.den : Int) < y.num * (x.den : Int)))) H
    rw [lt_parts]
    exact q
theorem cl_Lbegun (T : Txt K mg) : Cl P w K mg base CX0 1 "_law_begun" (spBegun K) := by
  refine T.d_Lbegun.cl sc_Lbegun (fun vs H Q E h => ?_) (fun f cdv A outer s H vs Q E hr h => ?_)
  · obtain ⟨i, j, rfl, _⟩ := h
    rfl
  · obtain ⟨a, ns, rfl, hS, q⟩ := h
    refine ⟨_, (pss_cons (ps_set (i := 1) sc_Lbegun.nd rfl (.inl rfl) pe_int)
      (pss_cons (ps_for PassesOwn.never rfl (pi_list (pv 0)) (pg_name (i := 2) sc_Lbegun.nd rfl (.inl rfl))
        (pss_one (ps_set (i := 1) sc_Lbegun.nd rfl (.inl rfl) (pe_op op_mod (pe_op op_add (pe_op op_add (pe_op op_mul (pv 1) pe_int) (pe_op op_mul (pv 2) pe_int)) pe_int) pe_int))))
      (pss_one (ps_ret (pe_lst (pa_cons (pe_callTy call_list_of (by rfl) T.m_list (by decide +kernel) (pa_cons (pv 0) pa_nil)) (pa_cons (pe_op op_mul (pv 1) (pe_callTy call_int1 (by rfl) T.m_int (by decide +kernel) (pa_cons (pe_cmpR op_gt (pe_callB call_len_seq (by rfl) T.m_len (by decide +kernel) (pa_cons (pv 0) pa_nil)) pe_int (nomark _)) pa_nil))) pa_nil))))))), ?_⟩
    refine ⟨_, rfl, a, rfl, ⟨_, hS⟩, for_list (K := K) (a := a) (xs := ns.map V.int) (fun i σ H' => ∃ (x : Int) (c : Option V), σ = [some (.ref a), some (.int x), c] ∧ H' = H) ⟨0, none, rfl, rfl⟩ (fun i σ H' _ h => ?_) (fun i x σ H' hx h => ?_) (fun σ H' h => ?_)⟩
    · obtain ⟨x, c, rfl, rfl⟩ := h
      exact hS
    · obtain ⟨y, c, rfl, rfl⟩ := h
      obtain ⟨z, hz, rfl⟩ : ∃ z : Int, z ∈ ns ∧ V.int z = x := by
        have := List.mem_of_getElem? hx
        exact List.mem_map.mp this
      refine ⟨_, rfl, _, _, rfl, rfl, .inr ⟨by decide, by decide⟩, _, rfl, _, _, rfl, rfl, .inr ⟨by decide, by decide⟩, _, _, rfl, rfl, _, _, rfl, rfl, _, _, rfl, rfl, (show (0 : Int) < 2147483647 by decide), _, _, rfl, rfl⟩
    · obtain ⟨y, c, rfl, rfl⟩ := h
      refine ⟨_, rfl, a, _, rfl, .inl hS, fun l hl => ?_⟩
      have hS2 : SqL K (upd H' l (.lst (ns.map V.int))) a (ns.map V.int) := (Same.new hl).seq hS
      refine ⟨_, rfl, _, rfl, a, _, rfl, .inl hS2, _, _, rfl, rfl, .inr ⟨_, rfl, _, _, rfl, rfl, .inr ?_, (show 2 ≤ sizeLine by decide), fun b hb => ?_⟩⟩
      · split <;> exact ⟨by decide, by decide⟩
      · refine q _ b l ((Same.new hl).trans (Same.new hb)) ((Same.new hl).free hb) hl ⟨fun e => ?_, ns, _, upd_same, ?_⟩
        · rw [e, upd_same] at hb
          cases hb
        · rw [upd_ne (fun e => ?_), upd_same]
          rw [← e, upd_same] at hb
          cases hb
theorem cl_Ltake (T : Txt K mg) : Cl P w K mg base CX0 1 "_law_take" (spTake K) := by
  refine T.d_Ltake.cl sc_Ltake (fun vs H Q E h => ?_) (fun f cdv A outer s H vs Q E hr h => ?_)
  · obtain ⟨b, l, m, rfl, _⟩ := h
    rfl
  · obtain ⟨b, l, m, rfl, B, m0, m1, q⟩ := h
    obtain ⟨xs, st, hb, hl⟩ := B.ex
    have ne := B.ne
    refine ⟨_, (pss_cons (ps_if (pt_cmpR (op_eqD hr.units) (pe_ix ix_list (pv 0) pe_int (fun _ _ => rfl)) (pe_lst pa_nil) (nomark _))
        (pss_cons (ps_asg (pe_op op_mod (pe_op op_mul (pe_ix ix_list (pv 0) pe_int (fun _ _ => rfl)) pe_int) pe_int) (pg_sub (pv 0) pe_int set_list))
      (pss_one (ps_ret (pe_op op_modN (pe_op op_fdiv (pe_ix ix_list (pv 0) pe_int (fun _ _ => rfl)) pe_int) (pv 1)))))
        pss_nil)
      (pss_cons (ps_set (i := 2) sc_Ltake.nd rfl (.inl rfl) (pe_ix ix_list (pe_ix ix_list (pv 0) pe_int (fun _ _ => rfl)) pe_int (fun _ _ => rfl)))
      (pss_cons (ps_asg (pe_op op_fdivX (pv 2) (pv 1)) (pg_sub (pe_ix ix_list (pv 0) pe_int (fun _ _ => rfl)) pe_int set_list))
      (pss_cons (ps_if (PW.pt (pw_or (pt_cmpR op_eq (pe_ix ix_list (pe_ix ix_list (pv 0) pe_int (fun _ _ => rfl)) pe_int (fun _ _ => rfl)) pe_int (nomark _)) (pw_or1 (pt_cmpR op_eq (pe_ix ix_list (pe_ix ix_list (pv 0) pe_int (fun _ _ => rfl)) pe_int (fun _ _ => rfl)) (pe_un un_neg pe_int) (nomark _)))))
        (pss_one (ps_expr (pe_bm PySem.F.plainAttrs_list PySem.F.slot_list_pop PySem.F.type_list_pop mt_popAt (pe_ix ix_list (pv 0) pe_int (fun _ _ => rfl)) (pa_cons pe_int pa_nil))))
        pss_nil)
      (pss_one (ps_ret (pe_op op_modN (pv 2) (pv 1)))))))), ?_⟩
    refine ⟨_, rfl, _, _, _, _, rfl, rfl, .inl (.inl hb), atI_nat (j := 0) rfl, Nat.zero_le _, fun o no => ?_⟩
    have sH : Same H (upd H o (.lst [])) := Same.new no
    have hb1 := sH _ _ hb
    have hl1 := sH _ _ hl
    have s0 : Same (hid b l H) (hid b l (upd H o (.lst []))) := Same.hid sH
    have he : SqL K (upd H o (.lst [])) o [] := .inl (.inl upd_same)
    generalize upd H o (.lst []) = H1 at hb1 hl1 s0 he ⊢
    refine ⟨.list (xs.map PyData.int), .list [], .lst (.inl (.inl hl1)) (dpa_ints xs), .lst he .nil, shaped_ints xs, rfl, _, rfl, ite2 (fun z => ?_) (fun z => ?_)⟩
    · refine ⟨_, rfl, _, _, _, _, rfl, rfl, .inl (.inl hb1), atI_nat (j := 1) rfl, _, _, rfl, rfl, .inr ⟨by decide, by decide⟩, _, _, rfl, rfl, (show (0 : Int) < 2147483647 by decide), _, rfl, _, _, _, 1, rfl, rfl, hb1, rfl, ?_⟩
      refine ⟨_, rfl, _, _, _, _, rfl, rfl, .inl (.inl upd_same), atI_nat (j := 1) rfl, _, _, rfl, rfl, ⟨by decide, by decide⟩, _, rfl, _, _, rfl, rfl, (by omega), ?_⟩
      refine q _ _ ?_ ⟨ne, xs, _, upd_same, ?_⟩ (fmod_rg m0).1 (fmod_rg m0).2
      · rw [hid_b]
        exact s0
      · rw [upd_ne ne.symm]
        exact hl1
    · cases xs with
      | nil => exact absurd rfl z
      | cons x r =>
        have fin : ∀ H', Same (hid b l H) (hid b l H') → Bx H' b l → Q (.int (x.fmod m)) H' := fun H' s1 B1 => q _ _ s1 B1 (fmod_rg m0).1 (fmod_rg m0).2
        refine ⟨_, rfl, _, _, _, _, rfl, rfl, .inl (.inl hb1), atI_nat (j := 0) rfl, _, _, _, _, rfl, rfl, .inl (.inl hl1), atI_nat (j := 0) rfl, ?_⟩
        refine ⟨_, rfl, _, rfl, _, _, rfl, rfl, cdiv (b := 30) (by omega) (by omega) (by decide) (by decide), _, rfl, _, _, _, _, rfl, rfl, .inl (.inl hb1), atI_nat (j := 0) rfl, _, _, _, 0, rfl, rfl, hl1, ixN0, ?_⟩
        have hb2 : (upd H1 l (.lst ((V.int (x.fdiv m)) :: r.map V.int))) b = some (.lst [.ref l, .int st]) := by
          rw [upd_ne ne]
          exact hb1
        have hl2 : (upd H1 l (.lst ((V.int (x.fdiv m)) :: r.map V.int))) l = some (.lst ((V.int (x.fdiv m)) :: r.map V.int)) := upd_same
        have s2 : Same (hid b l H) (hid b l (upd H1 l (.lst ((V.int (x.fdiv m)) :: r.map V.int)))) := by
          rw [hid_l]
          exact s0
        change tSeq _ _ _ _ (upd H1 l (.lst ((V.int (x.fdiv m)) :: r.map V.int)))
        generalize upd H1 l (.lst ((V.int (x.fdiv m)) :: r.map V.int)) = H2 at hb2 hl2 s2 ⊢
        have pop : ∀ D : Ends, D.nx [some (.ref b), some (.int m), some (.int x)] (upd H2 l (.lst (r.map V.int))) → tDrop (tBM K "list" rPopAt (tOp (rIxL K) (tVar 0) (tC (.int 0))) (tCons (tC (.int 0)) tNil)) D [some (.ref b), some (.int m), some (.int x)] H2 := by
          intro D hD
          exact ⟨_, rfl, _, _, _, _, rfl, rfl, .inl (.inl hb2), atI_nat (j := 0) rfl, .inl ⟨rfl, _, .inl (.inl hl2)⟩, l, _, 0, 0, _, rfl, rfl, hl2, by decide, by decide, (ixN_seq ixN0).1, rfl, hD⟩
        have fin2 : Q (.int (x.fmod m)) (upd H2 l (.lst (r.map V.int))) := by
          refine fin _ ?_ ⟨ne, r, st, ?_, upd_same⟩
          · rw [hid_l]
            exact s2
          · rw [upd_ne ne]
            exact hb2
        refine ⟨_, rfl, _, _, _, _, rfl, rfl, .inl (.inl hb2), atI_nat (j := 0) rfl, _, _, _, _, rfl, rfl, .inl (.inl hl2), atI_nat (j := 0) rfl, rfl, _, rfl, ite2 (fun z => ?_) (fun z => ?_)⟩
        · refine iteT (pop _ ?_)
          exact ⟨_, rfl, _, rfl, _, _, rfl, rfl, (by omega), fin2⟩
        · refine ⟨_, rfl, _, _, _, _, rfl, rfl, .inl (.inl hb2), atI_nat (j := 0) rfl, _, _, _, _, rfl, rfl, .inl (.inl hl2), atI_nat (j := 0) rfl, _, rfl, rfl, _, rfl, ite2 (fun z => ?_) (fun z => ?_)⟩
          · refine pop _ ?_
            exact ⟨_, rfl, _, rfl, _, _, rfl, rfl, (by omega), fin2⟩
          · exact ⟨_, rfl, _, rfl, _, _, rfl, rfl, (by omega), fin _ s2 ⟨ne, x.fdiv m :: r, st, hb2, hl2⟩⟩
theorem cl_Lfr (T : Txt K mg) : Cl P w K mg base CX0 1 "_law_fr" (spMade K) := by
  refine T.d_Lfr.cl sc_Lfr (fun vs H Q E h => ?_) (fun f cdv A outer s H vs Q E hr h => ?_)
  · obtain ⟨i, j, rfl, _⟩ := h
    rfl
  · obtain ⟨t, b, rfl, hb, hs, q⟩ := h
    refine ⟨_, (pss_cons (ps_set (i := 2) sc_Lfr.nd rfl (.inl rfl) (pe_callB call_abs (by rfl) T.m_abs (by decide +kernel) (pa_cons (pv 0) pa_nil)))
      (pss_cons (ps_set (i := 3) sc_Lfr.nd rfl (.inl rfl) (pe_callB call_abs (by rfl) T.m_abs (by decide +kernel) (pa_cons (pv 1) pa_nil)))
      (pss_cons (ps_while PassesOwn.never (pt_cmpR op_gt (pv 3) pe_int (nomark _))
        (pss_cons (ps_set (i := 4) sc_Lfr.nd rfl (.inl rfl) (pe_op op_modN (pv 2) (pv 3)))
      (pss_cons (ps_set (i := 2) sc_Lfr.nd rfl (.inl rfl) (pv 3))
      (pss_one (ps_set (i := 3) sc_Lfr.nd rfl (.inl rfl) (pv 4))))))
      (pss_cons (ps_if (pt_cmpR op_lt (pv 1) pe_int (nomark _))
        (pss_one (ps_set (i := 2) sc_Lfr.nd rfl (.inl rfl) (pe_op op_sub pe_int (pv 2))))
        pss_nil)
      (pss_one (ps_ret (pe_tup (pa_cons (pe_op op_fdivX (pv 0) (pv 2)) (pa_cons (pe_op op_fdivX (pv 1) (pv 2)) pa_nil))))))))), ?_⟩
    have last : ∀ d : Int, d = frI t b → ∀ p, H p = none → Q (.ref p) (upd H p (.tup [.int (t.fdiv d), .int (b.fdiv d)])) := by
      intro d e p hp
      subst e
      refine q _ _ (Same.new hp) (dF_mk ?_)
      rw [fr_num hb, fr_den hb]
      exact .inl (.inl upd_same)
    have hd : ∀ d : Int, d = frI t b → CDivX t d ∧ CDivX b d := by
      intro d e
      subst e
      have h1 := Nat.lt_of_le_of_lt (frI_natAbs (t := t) hb) hs
      exact ⟨cdiv (frI_ne hb) h1 (by decide) (by decide), cdiv (frI_ne hb) h1 (by decide) (by decide)⟩
    refine ⟨_, rfl, _, rfl, _, rfl, _, rfl, ?_⟩
    refine while_by (fun σ H' => ∃ (a c : Nat) (o : Option V), σ = [some (.int t), some (.int b), some (.int (a : Int)), some (.int (c : Int)), o] ∧ H' = H ∧ Nat.gcd a c = Nat.gcd t.natAbs b.natAbs) (fun σ _ => match σ with | [_, _, _, some (.int b), _] => b.natAbs | _ => 0) ?_ ?_ ?_
    · refine ⟨t.natAbs, b.natAbs, none, ?_, rfl, rfl⟩
      show [some (V.int t), some (V.int b), some (V.int (if t < 0 then -t else t)), some (V.int (if b < 0 then -b else b)), none] = _
      rw [abs_nat, abs_nat]
    · intro σ H' h
      obtain ⟨a, c, o, rfl, rfl, e⟩ := h
      refine ⟨_, rfl, _, _, rfl, rfl, _, rfl, ite2 (fun z => ?_) (fun z => ?_)⟩
      · have hc : 0 < c := by
          have := of_decide_eq_true z
          omega
        refine ⟨_, rfl, _, rfl, _, _, rfl, rfl, (by omega), _, rfl, _, rfl, ⟨c, a % c, some (V.int ((a : Int).fmod (c : Int))), ?_, rfl, ?_⟩, ?_⟩
        · show [some (V.int t), some (V.int b), some (V.int (c : Int)), some (V.int ((a : Int).fmod (c : Int))), some (V.int ((a : Int).fmod (c : Int)))] = _
          rw [fmod_nat]
        · rw [gcd_turn]
          exact e
        · show Int.natAbs (Int.fmod (a : Int) (c : Int)) < Int.natAbs (c : Int)
          rw [fmod_nat]
          have := Nat.mod_lt a hc
          omega
      · have hc : c = 0 := by
          have z2 : ¬ ((0 : Int) < (c : Int)) := fun y => z (decide_eq_true y)
          omega
        subst hc
        rw [Nat.gcd_zero_right] at e
        refine ⟨_, rfl, _, _, rfl, rfl, _, rfl, ite2 (fun z => ?_) (fun z => ?_)⟩
        · have z1 : b < 0 := of_decide_eq_true z
          have e : 0 - (a : Int) = frI t b := by
            unfold frI
            rw [if_pos z1, ← e]
            omega
          refine ⟨_, rfl, _, _, rfl, rfl, _, rfl, _, rfl, _, _, rfl, rfl, (hd _ e).1, _, rfl, _, rfl, _, _, rfl, rfl, (hd _ e).2, (show 2 ≤ sizeLine by decide), fun p hp => last _ e p hp⟩
        · have z1 : ¬ b < 0 := fun y => z (decide_eq_true y)
          have e : (a : Int) = frI t b := by
            unfold frI
            rw [if_neg z1, ← e]
          refine ⟨_, rfl, _, rfl, _, _, rfl, rfl, (hd _ e).1, _, rfl, _, rfl, _, _, rfl, rfl, (hd _ e).2, (show 2 ≤ sizeLine by decide), fun p hp => last _ e p hp⟩
    · intro σ H' Q1 Q2 h12 h
      obtain ⟨v, e, i, j, e1, e2, k, e3, h⟩ := h
      exact ⟨v, e, i, j, e1, e2, k, e3, h12 _ _ h⟩
theorem cl_Lsum (T : Txt K mg) : Cl P w K mg base CX0 2 "_law_sum" (spF2 K (fun x y => x + y) (fun x y => True)) := by
  have c_Lfr := cl_Lfr (P := P) (w := w) (base := base) T
  refine T.d_Lsum.cl sc_Lsum (fun vs H Q E h => ?_) (fun f cdv A outer s H vs Q E hr h => ?_)
  · obtain ⟨u, v, x, y, n, m, rfl, _⟩ := h
    rfl
  · obtain ⟨u, v, x, y, n, m, rfl, hu, hv, sx, sy, hnm, hc, q⟩ := h
    obtain ⟨a, rfl, h0⟩ := dF_at hu
    obtain ⟨b, rfl, h1⟩ := dF_at hv
    refine ⟨_, (pss_one (ps_ret (pe_cl c_Lfr hr (by decide) (by rfl) (pa_cons (pe_op op_add (pe_op op_mulW (pe_ix ix_tup (pv 0) pe_int (fun _ _ => rfl)) (pe_ix ix_tup (pv 1) pe_int (fun _ _ => rfl))) (pe_op op_mulW (pe_ix ix_tup (pv 1) pe_int (fun _ _ => rfl)) (pe_ix ix_tup (pv 0) pe_int (fun _ _ => rfl)))) (pa_cons (pe_op op_mulW (pe_ix ix_tup (pv 0) pe_int (fun _ _ => rfl)) (pe_ix ix_tup (pv 1) pe_int (fun _ _ => rfl))) pa_nil))))), ?_⟩
    refine ⟨_, rfl, _, _, _, _, rfl, rfl, h0, atI_nat (j := 0) rfl, _, rfl, _, _, _, _, rfl, rfl, h1, atI_nat (j := 1) rfl, _, _, rfl, rfl, mnd sx sy hnm, _, rfl, _, _, _, _, rfl, rfl, h1, atI_nat (j := 0) rfl, _, rfl, _, _, _, _, rfl, rfl, h0, atI_nat (j := 1) rfl, _, _, rfl, rfl, mnd' sx sy hnm, _, _, rfl, rfl, _, rfl, _, _, _, _, rfl, rfl, h0, atI_nat (j := 1) rfl, _, rfl, _, _, _, _, rfl, rfl, h1, atI_nat (j := 1) rfl, _, _, rfl, rfl, mdd sx sy hnm, _, _, rfl, ?_, ?_, fun H2 z s2 r2 => ?_⟩
    · exact den_mul_ne x y
    · exact up9 (mul_bits sx.den' sy.den') hnm
    · change Dp K H2 z (dF (Rat.divInt (x.num * (y.den : Int) + y.num * (x.den : Int)) ((x.den : Int) * (y.den : Int)))) at r2
      rw [add_parts] at r2
      exact q _ _ s2 r2
theorem cl_Lminus (T : Txt K mg) : Cl P w K mg base CX0 2 "_law_minus" (spF2 K (fun x y => x - y) (fun x y => True)) := by
  have c_Lfr := cl_Lfr (P := P) (w := w) (base := base) T
  refine T.d_Lminus.cl sc_Lminus (fun vs H Q E h => ?_) (fun f cdv A outer s H vs Q E hr h => ?_)
  · obtain ⟨u, v, x, y, n, m, rfl, _⟩ := h
    rfl
  · obtain ⟨u, v, x, y, n, m, rfl, hu, hv, sx, sy, hnm, hc, q⟩ := h
    obtain ⟨a, rfl, h0⟩ := dF_at hu
    obtain ⟨b, rfl, h1⟩ := dF_at hv
    refine ⟨_, (pss_one (ps_ret (pe_cl c_Lfr hr (by decide) (by rfl) (pa_cons (pe_op op_sub (pe_op op_mulW (pe_ix ix_tup (pv 0) pe_int (fun _ _ => rfl)) (pe_ix ix_tup (pv 1) pe_int (fun _ _ => rfl))) (pe_op op_mulW (pe_ix ix_tup (pv 1) pe_int (fun _ _ => rfl)) (pe_ix ix_tup (pv 0) pe_int (fun _ _ => rfl)))) (pa_cons (pe_op op_mulW (pe_ix ix_tup (pv 0) pe_int (fun _ _ => rfl)) (pe_ix ix_tup (pv 1) pe_int (fun _ _ => rfl))) pa_nil))))), ?_⟩
    refine ⟨_, rfl, _, _, _, _, rfl, rfl, h0, atI_nat (j := 0) rfl, _, rfl, _, _, _, _, rfl, rfl, h1, atI_nat (j := 1) rfl, _, _, rfl, rfl, mnd sx sy hnm, _, rfl, _, _, _, _, rfl, rfl, h1, atI_nat (j := 0) rfl, _, rfl, _, _, _, _, rfl, rfl, h0, atI_nat (j := 1) rfl, _, _, rfl, rfl, mnd' sx sy hnm, _, _, rfl, rfl, _, rfl, _, _, _, _, rfl, rfl, h0, atI_nat (j := 1) rfl, _, rfl, _, _, _, _, rfl, rfl, h1, atI_nat (j := 1) rfl, _, _, rfl, rfl, mdd sx sy hnm, _, _, rfl, ?_, ?_, fun H2 z s2 r2 => ?_⟩
    · exact den_mul_ne x y
    · exact up9 (mul_bits sx.den' sy.den') hnm
    · change Dp K H2 z (dF (Rat.divInt (x.num * (y.den : Int) - y.num * (x.den : Int)) ((x.den : Int) * (y.den : Int)))) at r2
      rw [sub_parts] at r2
      exact q _ _ s2 r2
theorem cl_Ltimes (T : Txt K mg) : Cl P w K mg base CX0 2 "_law_times" (spF2 K (fun x y => x * y) (fun x y => True)) := by
  have c_Lfr := cl_Lfr (P := P) (w := w) (base := base) T
  refine T.d_Ltimes.cl sc_Ltimes (fun vs H Q E h => ?_) (fun f cdv A outer s H vs Q E hr h => ?_)
  · obtain ⟨u, v, x, y, n, m, rfl, _⟩ := h
    rfl
  · obtain ⟨u, v, x, y, n, m, rfl, hu, hv, sx, sy, hnm, hc, q⟩ := h
    obtain ⟨a, rfl, h0⟩ := dF_at hu
    obtain ⟨b, rfl, h1⟩ := dF_at hv
    refine ⟨_, (pss_one (ps_ret (pe_cl c_Lfr hr (by decide) (by rfl) (pa_cons (pe_op op_mulW (pe_ix ix_tup (pv 0) pe_int (fun _ _ => rfl)) (pe_ix ix_tup (pv 1) pe_int (fun _ _ => rfl))) (pa_cons (pe_op op_mulW (pe_ix ix_tup (pv 0) pe_int (fun _ _ => rfl)) (pe_ix ix_tup (pv 1) pe_int (fun _ _ => rfl))) pa_nil))))), ?_⟩
    refine ⟨_, rfl, _, _, _, _, rfl, rfl, h0, atI_nat (j := 0) rfl, _, rfl, _, _, _, _, rfl, rfl, h1, atI_nat (j := 0) rfl, _, _, rfl, rfl, mnn sx sy hnm, _, rfl, _, _, _, _, rfl, rfl, h0, atI_nat (j := 1) rfl, _, rfl, _, _, _, _, rfl, rfl, h1, atI_nat (j := 1) rfl, _, _, rfl, rfl, mdd sx sy hnm, _, _, rfl, ?_, ?_, fun H2 z s2 r2 => ?_⟩
    · exact den_mul_ne x y
    · exact up9 (mul_bits sx.den' sy.den') hnm
    · change Dp K H2 z (dF (Rat.divInt (x.num * y.num) ((x.den : Int) * (y.den : Int)))) at r2
      rw [mul_parts] at r2
      exact q _ _ s2 r2
theorem cl_Lby (T : Txt K mg) : Cl P w K mg base CX0 2 "_law_by" (spF2 K (fun x y => x / y) (fun x y => y ≠ 0)) := by
  have c_Lfr := cl_Lfr (P := P) (w := w) (base := base) T
  refine T.d_Lby.cl sc_Lby (fun vs H Q E h => ?_) (fun f cdv A outer s H vs Q E hr h => ?_)
  · obtain ⟨u, v, x, y, n, m, rfl, _⟩ := h
    rfl
  · obtain ⟨u, v, x, y, n, m, rfl, hu, hv, sx, sy, hnm, hc, q⟩ := h
    obtain ⟨a, rfl, h0⟩ := dF_at hu
    obtain ⟨b, rfl, h1⟩ := dF_at hv
    refine ⟨_, (pss_one (ps_ret (pe_cl c_Lfr hr (by decide) (by rfl) (pa_cons (pe_op op_mulW (pe_ix ix_tup (pv 0) pe_int (fun _ _ => rfl)) (pe_ix ix_tup (pv 1) pe_int (fun _ _ => rfl))) (pa_cons (pe_op op_mulW (pe_ix ix_tup (pv 0) pe_int (fun _ _ => rfl)) (pe_ix ix_tup (pv 1) pe_int (fun _ _ => rfl))) pa_nil))))), ?_⟩
    refine ⟨_, rfl, _, _, _, _, rfl, rfl, h0, atI_nat (j := 0) rfl, _, rfl, _, _, _, _, rfl, rfl, h1, atI_nat (j := 1) rfl, _, _, rfl, rfl, mnd sx sy hnm, _, rfl, _, _, _, _, rfl, rfl, h0, atI_nat (j := 1) rfl, _, rfl, _, _, _, _, rfl, rfl, h1, atI_nat (j := 0) rfl, _, _, rfl, rfl, mdn sx sy hnm, _, _, rfl, ?_, ?_, fun H2 z s2 r2 => ?_⟩
    · exact Int.mul_ne_zero (den_ne x) (num_ne hc)
    · exact up9 (mul_bits sx.den' sy.num) hnm
    · change Dp K H2 z (dF (Rat.divInt (x.num * (y.den : Int)) ((x.den : Int) * y.num))) at r2
      rw [div_parts] at r2
      exact q _ _ s2 r2
theorem cl_Llow (T : Txt K mg) : Cl P w K mg base CX0 1 "_law_low" (spLow K) := by
  refine T.d_Llow.cl sc_Llow (fun vs H Q E h => ?_) (fun f cdv A outer s H vs Q E hr h => ?_)
  · obtain ⟨u, v, x, y, n, m, rfl, _⟩ := h
    rfl
  · obtain ⟨u, v, x, y, n, m, rfl, hu, hv, sx, sy, hnm, q⟩ := h
    obtain ⟨a, rfl, h0⟩ := dF_at hu
    obtain ⟨b, rfl, h1⟩ := dF_at hv
    refine ⟨_, (pss_one (ps_ret (pe_cmpR op_lt (pe_op op_mulW (pe_ix ix_tup (pv 0) pe_int (fun _ _ => rfl)) (pe_ix ix_tup (pv 1) pe_int (fun _ _ => rfl))) (pe_op op_mulW (pe_ix ix_tup (pv 1) pe_int (fun _ _ => rfl)) (pe_ix ix_tup (pv 0) pe_int (fun _ _ => rfl))) (nomark _)))), ?_⟩
    refine ⟨_, rfl, _, _, _, _, rfl, rfl, h0, atI_nat (j := 0) rfl, _, rfl, _, _, _, _, rfl, rfl, h1, atI_nat (j := 1) rfl, _, _, rfl, rfl, mnd sx sy hnm, _, rfl, _, _, _, _, rfl, rfl, h1, atI_nat (j := 0) rfl, _, rfl, _, _, _, _, rfl, rfl, h0, atI_nat (j := 1) rfl, _, _, rfl, rfl, mnd' sx sy hnm, _, _, rfl, rfl, ?_⟩
    show Q (.bl (decide (x.num * (y.den : Int) < y.num * (x.den : Int)))) H
    rw [lt_parts]
    exact q
theorem cl_Lalike (T : Txt K mg) : ∀ n : Nat, Cl P w K mg base CX0 (n + 1) "_law_alike" (spAlike K n)
  | 0 => by
    refine T.d_Lalike.cl sc_Lalike (fun vs H Q E h => ?_) (fun f cdv A outer s H vs Q E hr h => ?_)
    · obtain ⟨u, v, d, rfl, _⟩ := h
      rfl
    · obtain ⟨u, v, d, rfl, _, _, h, _⟩ := h
      exact absurd h (Nat.not_lt_zero _)
  | n + 1 => by
    have c_Lalike := cl_Lalike T n
    refine T.d_Lalike.cl sc_Lalike (fun vs H Q E h => ?_) (fun f cdv A outer s H vs Q E hr h => ?_)
    · obtain ⟨u, v, d, rfl, _⟩ := h
      rfl
    · obtain ⟨u, v, d, rfl, hu, hv, hd, hz, q⟩ := h
      refine ⟨_, (pss_cons (ps_if (pt_cmpR op_isN (pv 1) pe_non (nomark _))
        (pss_one (ps_ret (pe_cmpR op_isN (pv 0) pe_non (nomark _))))
        pss_nil)
      (pss_cons (ps_if (pt_val (pe_callB call_isi (by rfl) T.m_isinstance (by decide +kernel) (pa_cons (pv 1) (pa_cons (pe_bltn (v := .ty "bool") (by rfl) T.m_bool (by decide +kernel) rfl) pa_nil))))
        (pss_one (ps_ret (pe_and (pe_callB call_isi (by rfl) T.m_isinstance (by decide +kernel) (pa_cons (pv 0) (pa_cons (pe_bltn (v := .ty "bool") (by rfl) T.m_bool (by decide +kernel) rfl) pa_nil))) (pe_one (pe_cmpR op_eq (pv 0) (pv 1) (nomark _))))))
        pss_nil)
      (pss_cons (ps_if (pt_val (pe_callB call_isi (by rfl) T.m_isinstance (by decide +kernel) (pa_cons (pv 1) (pa_cons (pe_bltn (v := .ty "int") (by rfl) T.m_int (by decide +kernel) rfl) pa_nil))))
        (pss_one (ps_ret (pe_and (pe_callB call_isi (by rfl) T.m_isinstance (by decide +kernel) (pa_cons (pv 0) (pa_cons (pe_bltn (v := .ty "int") (by rfl) T.m_int (by decide +kernel) rfl) pa_nil))) (pe_and (pe_not (pe_callB call_isi (by rfl) T.m_isinstance (by decide +kernel) (pa_cons (pv 0) (pa_cons (pe_bltn (v := .ty "bool") (by rfl) T.m_bool (by decide +kernel) rfl) pa_nil)))) (pe_one (pe_cmpR op_eq (pv 0) (pv 1) (nomark _)))))))
        pss_nil)
      (pss_cons (ps_if (pt_val (pe_callB call_isi (by rfl) T.m_isinstance (by decide +kernel) (pa_cons (pv 1) (pa_cons (pe_bltn (v := .ty "str") (by rfl) T.m_str (by decide +kernel) rfl) pa_nil))))
        (pss_one (ps_ret (pe_and (pe_callB call_isi (by rfl) T.m_isinstance (by decide +kernel) (pa_cons (pv 0) (pa_cons (pe_bltn (v := .ty "str") (by rfl) T.m_str (by decide +kernel) rfl) pa_nil))) (pe_one (pe_cmpR op_eq (pv 0) (pv 1) (nomark _))))))
        pss_nil)
      (pss_cons (ps_if (PW.pt (pw_or (pt_cmpR op_ne (pe_callB call_isi (by rfl) T.m_isinstance (by decide +kernel) (pa_cons (pv 1) (pa_cons (pe_bltn (v := .ty "tuple") (by rfl) T.m_tuple (by decide +kernel) rfl) pa_nil))) (pe_callB call_isi (by rfl) T.m_isinstance (by decide +kernel) (pa_cons (pv 0) (pa_cons (pe_bltn (v := .ty "tuple") (by rfl) T.m_tuple (by decide +kernel) rfl) pa_nil))) (nomark _)) (pw_or1 (pt_cmpR op_ne (pe_callB call_isi (by rfl) T.m_isinstance (by decide +kernel) (pa_cons (pv 1) (pa_cons (pe_bltn (v := .ty "list") (by rfl) T.m_list (by decide +kernel) rfl) pa_nil))) (pe_callB call_isi (by rfl) T.m_isinstance (by decide +kernel) (pa_cons (pv 0) (pa_cons (pe_bltn (v := .ty "list") (by rfl) T.m_list (by decide +kernel) rfl) pa_nil))) (nomark _)))))
        (pss_one (ps_ret pe_bl))
        pss_nil)
      (pss_cons (ps_if (pt_cmpR op_ne (pe_callB call_len_seq (by rfl) T.m_len (by decide +kernel) (pa_cons (pv 0) pa_nil)) (pe_callB call_len_seq (by rfl) T.m_len (by decide +kernel) (pa_cons (pv 1) pa_nil)) (nomark _))
        (pss_one (ps_ret pe_bl))
        pss_nil)
      (pss_cons (ps_for PassesOwn.never rfl (pi_range1 (by rfl) T.m_range (pa_cons (pe_callB call_len_seq (by rfl) T.m_len (by decide +kernel) (pa_cons (pv 1) pa_nil)) pa_nil)) (pg_name (i := 2) sc_Lalike.nd rfl (.inl rfl))
        (pss_one (ps_if (pt_not (pt_val (pe_cl c_Lalike hr (Nat.le_refl _) (by rfl) (pa_cons (pe_ix ix_seq (pv 0) (pv 2) (fun _ _ => rfl)) (pa_cons (pe_ix ix_seq (pv 1) (pv 2) (fun _ _ => rfl)) pa_nil)))))
        (pss_one (ps_ret pe_bl))
        pss_nil)))
      (pss_one (ps_ret pe_bl))))))))), ?_⟩
      cases d with
      | none =>
        cases hu
        cases hv
        exact ⟨_, rfl, rfl, _, rfl, iteY rfl ⟨_, rfl, rfl, q⟩⟩
      | bool b =>
        cases hu
        cases hv
        refine ⟨_, rfl, rfl, _, rfl, iteN rfl ?_⟩
        refine ⟨_, rfl, _, _, _, _, _, rfl, .ty _, .base (.bl b), kit_ty (r := true) (by decide +kernel), _, rfl, iteY rfl ?_⟩
        exact ⟨_, rfl, _, _, _, _, _, rfl, .ty _, .base (.bl b), kit_ty (r := true) (by decide +kernel), _, rfl, iteY rfl ⟨_, rfl, _, rfl, rfl, by rw [decide_eq_true rfl]; exact q⟩⟩
      | int i =>
        cases hu
        cases hv
        refine ⟨_, rfl, rfl, _, rfl, iteN rfl ?_⟩
        refine ⟨_, rfl, _, _, _, _, _, rfl, .ty _, .base (.int i), kit_ty (r := false) (by decide +kernel), _, rfl, iteN rfl ?_⟩
        refine ⟨_, rfl, _, _, _, _, _, rfl, .ty _, .base (.int i), kit_ty (r := true) (by decide +kernel), _, rfl, iteY rfl ?_⟩
        refine ⟨_, rfl, _, _, _, _, _, rfl, .ty _, .base (.int i), kit_ty (r := true) (by decide +kernel), _, rfl, iteY rfl ?_⟩
        exact ⟨_, rfl, _, _, _, _, _, rfl, .ty _, .base (.int i), kit_ty (r := false) (by decide +kernel), _, rfl, _, rfl, iteY rfl ⟨_, rfl, _, rfl, rfl, by rw [decide_eq_true rfl]; exact q⟩⟩
      | str x =>
        cases hu
        cases hv
        refine ⟨_, rfl, rfl, _, rfl, iteN rfl ?_⟩
        refine ⟨_, rfl, _, _, _, _, _, rfl, .ty _, .base (.str x), kit_ty (r := false) (by decide +kernel), _, rfl, iteN rfl ?_⟩
        refine ⟨_, rfl, _, _, _, _, _, rfl, .ty _, .base (.str x), kit_ty (r := false) (by decide +kernel), _, rfl, iteN rfl ?_⟩
        refine ⟨_, rfl, _, _, _, _, _, rfl, .ty _, .base (.str x), kit_ty (r := true) (by decide +kernel), _, rfl, iteY rfl ?_⟩
        exact ⟨_, rfl, _, _, _, _, _, rfl, .ty _, .base (.str x), kit_ty (r := true) (by decide +kernel), _, rfl, iteY rfl ⟨_, rfl, _, rfl, rfl, by rw [decide_eq_true rfl]; exact q⟩⟩
      | list ds =>
        cases hu with
        | lst s1 a1 =>
          rename_i a xs
          cases hv with
          | lst s2 a2 =>
            rename_i b ys
            have t1 := tyL s1
            have t2 := tyL s2
            have w1 : SqL K H a xs ∨ SqT K H a xs := .inl s1
            have w2 : SqL K H b ys ∨ SqT K H b ys := .inl s2
            have e1 := dpa_len a1
            have e2 := dpa_len a2
            have hl : ds.length < 2 ^ 62 := of_decide_eq_true (Bool.and_eq_true_iff.mp (show (decide (ds.length < 2 ^ 62) && szAll ds) = true from hz)).1
            have hz2 : szAll ds = true := (Bool.and_eq_true_iff.mp (show (decide (ds.length < 2 ^ 62) && szAll ds) = true from hz)).2
            have hd2 : PyData.depthAll ds < n := Nat.lt_of_succ_lt_succ (show PyData.depthAll ds + 1 < n + 1 from hd)
            refine ⟨_, rfl, rfl, _, rfl, iteN rfl ?_⟩
            refine ⟨_, rfl, _, _, _, _, _, rfl, .ty _, t2, kit_ty (r := false) (by decide +kernel), _, rfl, iteN rfl ?_⟩
            refine ⟨_, rfl, _, _, _, _, _, rfl, .ty _, t2, kit_ty (r := false) (by decide +kernel), _, rfl, iteN rfl ?_⟩
            refine ⟨_, rfl, _, _, _, _, _, rfl, .ty _, t2, kit_ty (r := false) (by decide +kernel), _, rfl, iteN rfl ?_⟩
            refine ⟨_, rfl, _, _, _, _, _, rfl, .ty _, t2, kit_ty (r := false) (by decide +kernel), _, rfl, _, _, _, _, _, rfl, .ty _, t1, kit_ty (r := false) (by decide +kernel), rfl, _, rfl, iteN rfl ?_⟩
            refine ⟨_, rfl, _, _, _, _, _, rfl, .ty _, t2, kit_ty (r := true) (by decide +kernel), _, rfl, _, _, _, _, _, rfl, .ty _, t1, kit_ty (r := true) (by decide +kernel), rfl, _, rfl, iteN rfl ?_⟩
            refine ⟨_, rfl, _, _, rfl, w1, _, rfl, _, _, rfl, w2, rfl, _, rfl, iteN (by rw [e1, e2, decide_eq_true rfl]; rfl) ?_⟩
            refine ⟨_, rfl, _, _, rfl, w2, (ys.length : Int), rfl, (by omega), (by omega), for_range (lo := 0) (n := ys.length) (fun i σ H' => H' = H ∧ ∃ o, σ = [some (.ref a), some (.ref b), o]) ⟨rfl, none, rfl⟩ (fun i σ H' hi h => ?_) (fun σ H' h => ?_)⟩
            · obtain ⟨rfl, o, rfl⟩ := h
              obtain ⟨v1, g1⟩ : ∃ v1, xs[i]? = some v1 := ⟨_, List.getElem?_eq_getElem (show i < xs.length by omega)⟩
              obtain ⟨v2, g2⟩ : ∃ v2, ys[i]? = some v2 := ⟨_, List.getElem?_eq_getElem hi⟩
              obtain ⟨d1, k1, p1⟩ := dpa_at a1 g1
              obtain ⟨d2, k2, p2⟩ := dpa_at a2 g2
              have ed : d1 = d2 := Option.some.inj (k1.symm.trans k2)
              subst ed
              have ei : (0 : Int) + (i : Int) = (i : Int) := Int.zero_add _
              rw [ei]
              refine ⟨_, rfl, _, rfl, rIx_of w1 g1 ?_⟩
              refine ⟨_, rfl, _, rfl, rIx_of w2 g2 ?_⟩
              refine ⟨_, _, d1, rfl, p1, p2, Nat.lt_of_le_of_lt (depth_at k1) hd2, szAll_at hz2 k1, _, rfl, iteN rfl ⟨rfl, _, rfl⟩⟩
            · obtain ⟨rfl, o, rfl⟩ := h
              exact q
      | tuple ds =>
        cases hu with
        | tup s1 a1 =>
          rename_i a xs
          cases hv with
          | tup s2 a2 =>
            rename_i b ys
            have t1 := tyT s1
            have t2 := tyT s2
            have w1 : SqL K H a xs ∨ SqT K H a xs := .inr s1
            have w2 : SqL K H b ys ∨ SqT K H b ys := .inr s2
            have e1 := dpa_len a1
            have e2 := dpa_len a2
            have hl : ds.length < 2 ^ 62 := of_decide_eq_true (Bool.and_eq_true_iff.mp (show (decide (ds.length < 2 ^ 62) && szAll ds) = true from hz)).1
            have hz2 : szAll ds = true := (Bool.and_eq_true_iff.mp (show (decide (ds.length < 2 ^ 62) && szAll ds) = true from hz)).2
            have hd2 : PyData.depthAll ds < n := Nat.lt_of_succ_lt_succ (show PyData.depthAll ds + 1 < n + 1 from hd)
            refine ⟨_, rfl, rfl, _, rfl, iteN rfl ?_⟩
            refine ⟨_, rfl, _, _, _, _, _, rfl, .ty _, t2, kit_ty (r := false) (by decide +kernel), _, rfl, iteN rfl ?_⟩
            refine ⟨_, rfl, _, _, _, _, _, rfl, .ty _, t2, kit_ty (r := false) (by decide +kernel), _, rfl, iteN rfl ?_⟩
            refine ⟨_, rfl, _, _, _, _, _, rfl, .ty _, t2, kit_ty (r := false) (by decide +kernel), _, rfl, iteN rfl ?_⟩
            refine ⟨_, rfl, _, _, _, _, _, rfl, .ty _, t2, kit_ty (r := true) (by decide +kernel), _, rfl, _, _, _, _, _, rfl, .ty _, t1, kit_ty (r := true) (by decide +kernel), rfl, _, rfl, iteN rfl ?_⟩
            refine ⟨_, rfl, _, _, _, _, _, rfl, .ty _, t2, kit_ty (r := false) (by decide +kernel), _, rfl, _, _, _, _, _, rfl, .ty _, t1, kit_ty (r := false) (by decide +kernel), rfl, _, rfl, iteN rfl ?_⟩
            refine ⟨_, rfl, _, _, rfl, w1, _, rfl, _, _, rfl, w2, rfl, _, rfl, iteN (by rw [e1, e2, decide_eq_true rfl]; rfl) ?_⟩
            refine ⟨_, rfl, _, _, rfl, w2, (ys.length : Int), rfl, (by omega), (by omega), for_range (lo := 0) (n := ys.length) (fun i σ H' => H' = H ∧ ∃ o, σ = [some (.ref a), some (.ref b), o]) ⟨rfl, none, rfl⟩ (fun i σ H' hi h => ?_) (fun σ H' h => ?_)⟩
            · obtain ⟨rfl, o, rfl⟩ := h
              obtain ⟨v1, g1⟩ : ∃ v1, xs[i]? = some v1 := ⟨_, List.getElem?_eq_getElem (show i < xs.length by omega)⟩
              obtain ⟨v2, g2⟩ : ∃ v2, ys[i]? = some v2 := ⟨_, List.getElem?_eq_getElem hi⟩
              obtain ⟨d1, k1, p1⟩ := dpa_at a1 g1
              obtain ⟨d2, k2, p2⟩ := dpa_at a2 g2
              have ed : d1 = d2 := Option.some.inj (k1.symm.trans k2)
              subst ed
              have ei : (0 : Int) + (i : Int) = (i : Int) := Int.zero_add _
              rw [ei]
              refine ⟨_, rfl, _, rfl, rIx_of w1 g1 ?_⟩
              refine ⟨_, rfl, _, rfl, rIx_of w2 g2 ?_⟩
              refine ⟨_, _, d1, rfl, p1, p2, Nat.lt_of_le_of_lt (depth_at k1) hd2, szAll_at hz2 k1, _, rfl, iteN rfl ⟨rfl, _, rfl⟩⟩
            · obtain ⟨rfl, o, rfl⟩ := h
              exact q
      | dict _ => cases hu
def spPair (K : PySem.W.Frag) : Sp := fun vs H Q _ => ∃ (b l : Addr), vs = [.ref b] ∧ Bx H b l ∧ ∀ H' p (t bt : Int), Same (hid b l H) (hid b l H') → Bx H' b l → hid b l H' p = some (.tup [.int t, .int bt]) → t.natAbs < 2 ^ 20 → 0 < bt → bt < 2 ^ 20 → Q (.ref p) H'
theorem cl_Lpair (T : Txt K mg) : Cl P w K mg base CX0 2 "_law_pair" (spPair K) := by
  have c_Ltake := cl_Ltake (P := P) (w := w) (base := base) T
  refine T.d_Lpair.cl sc_Lpair (fun vs H Q E h => ?_) (fun f cdv A outer s H vs Q E hr h => ?_)
  · obtain ⟨b, l, rfl, _⟩ := h
    rfl
  · obtain ⟨b, l, rfl, B, q⟩ := h
    refine ⟨_, (pss_cons (ps_if (pt_cmpR op_eq (pe_cl c_Ltake hr (by decide) (by rfl) (pa_cons (pv 0) (pa_cons pe_int pa_nil))) pe_int (nomark _))
        (pss_one (ps_ret (pe_tup (pa_cons (pe_op op_sub (pe_cl c_Ltake hr (by decide) (by rfl) (pa_cons (pv 0) (pa_cons pe_int pa_nil))) pe_int) (pa_cons (pe_op op_add pe_int (pe_cl c_Ltake hr (by decide) (by rfl) (pa_cons (pv 0) (pa_cons pe_int pa_nil)))) pa_nil)))))
        pss_nil)
      (pss_one (ps_ret (pe_tup (pa_cons (pe_op op_sub (pe_cl c_Ltake hr (by decide) (by rfl) (pa_cons (pv 0) (pa_cons pe_int pa_nil))) pe_int) (pa_cons (pe_op op_add pe_int (pe_cl c_Ltake hr (by decide) (by rfl) (pa_cons (pv 0) (pa_cons pe_int pa_nil)))) pa_nil)))))), ?_⟩
    refine ⟨_, rfl, _, l, _, rfl, B, by decide, by decide, fun H1 r1 s1 B1 a1 b1 => ?_⟩
    refine ⟨rfl, _, rfl, ite2 (fun z => ?_) (fun z => ?_)⟩
    · refine ⟨_, rfl, _, l, _, rfl, B1, by decide, by decide, fun H2 r2 s2 B2 a2 b2 => ?_⟩
      refine ⟨_, _, rfl, rfl, _, rfl, _, l, _, rfl, B2, by decide, by decide, fun H3 r3 s3 B3 a3 b3 => ?_⟩
      refine ⟨_, _, rfl, rfl, (show 2 ≤ sizeLine by decide), fun p hp => ?_⟩
      exact q _ p (r2 - 11) (1 + r3) (((s1.trans s2).trans s3).trans (Same.hid (Same.new hp))) (B3.mono (Same.new hp)) (hid_at B3 hp) (by omega) (by omega) (by omega)
    · refine ⟨_, rfl, _, l, _, rfl, B1, by decide, by decide, fun H2 r2 s2 B2 a2 b2 => ?_⟩
      refine ⟨_, _, rfl, rfl, _, rfl, _, l, _, rfl, B2, by decide, by decide, fun H3 r3 s3 B3 a3 b3 => ?_⟩
      refine ⟨_, _, rfl, rfl, (show 2 ≤ sizeLine by decide), fun p hp => ?_⟩
      exact q _ p (r2 - 999999) (1 + r3) (((s1.trans s2).trans s3).trans (Same.hid (Same.new hp))) (B3.mono (Same.new hp)) (hid_at B3 hp) (by omega) (by omega) (by omega)
def spLaw (K : PySem.W.Frag) : Sp := fun vs H Q _ => ∃ (a : Addr) (ns : List Int), vs = [.ref a] ∧ SqL K H a (ns.map V.int) ∧ ns.length ≤ 63 ∧ ∀ H', Q (.bl true) H'
theorem ok_law {f : Addr} {fd : FuncData} (F : Fun K "law" "law" s_law f fd) (T : Txt K mg) : FnOk P w K mg base CX0 4 f fd ["_law_script"] (spLaw K) := by
  have c_Lbegun := cl_Lbegun (P := P) (w := w) (base := base) T
  have c_Lpair := cl_Lpair (P := P) (w := w) (base := base) T
  have c_Ltake := cl_Ltake (P := P) (w := w) (base := base) T
  have c_Lfr := cl_Lfr (P := P) (w := w) (base := base) T
  have c_made := cl_made (P := P) (w := w) (base := base) T
  have c_added := cl_added (P := P) (w := w) (base := base) T
  have c_less := cl_less (P := P) (w := w) (base := base) T
  have c_timed := cl_timed (P := P) (w := w) (base := base) T
  have c_over := cl_over (P := P) (w := w) (base := base) T
  have c_is_below := cl_is_below (P := P) (w := w) (base := base) T
  have c_Lsum := cl_Lsum (P := P) (w := w) (base := base) T
  have c_Lminus := cl_Lminus (P := P) (w := w) (base := base) T
  have c_Ltimes := cl_Ltimes (P := P) (w := w) (base := base) T
  have c_Lby := cl_Lby (P := P) (w := w) (base := base) T
  have c_Llow := cl_Llow (P := P) (w := w) (base := base) T
  have c_Lalike := cl_Lalike (P := P) (w := w) (base := base) T 2
  refine F.ok sc_law (fun vs H Q E h => ?_) (fun cdv A outer s H vs Q E hr h => ?_)
  · obtain ⟨a, ns, rfl, _⟩ := h
    rfl
  · obtain ⟨a, ns, rfl, hS, hlen, q⟩ := h
    refine ⟨_, (pss_cons (ps_set (i := 1) sc_law.nd rfl (.inl rfl) (pe_cl c_Lbegun hr (by decide) (by rfl) (pa_cons (pv 0) pa_nil)))
      (pss_cons (ps_set (i := 2) sc_law.nd rfl (.inl rfl) (pe_cl c_Lpair hr (by decide) (by rfl) (pa_cons (pv 1) pa_nil)))
      (Evl.pss_cut (ps_if (pt_cmpR op_eq (pe_cl c_Ltake hr (by decide) (by rfl) (pa_cons (pv 1) (pa_cons pe_int pa_nil))) pe_int (nomark _))
        (pss_one (ps_set (i := 2) sc_law.nd rfl (.inl rfl) (pe_tup (pa_cons (pe_ix ix_tup (pv 2) pe_int (fun _ _ => rfl)) (pa_cons (pe_op op_sub pe_int (pe_ix ix_tup (pv 2) pe_int (fun _ _ => rfl))) pa_nil)))))
        pss_nil)
      (pss_cons (ps_set (i := 3) sc_law.nd rfl (.inl rfl) (pe_cl c_Lfr hr (by decide) (by rfl) (pa_cons (pe_ix ix_tup (pv 2) pe_int (fun _ _ => rfl)) (pa_cons (pe_ix ix_tup (pv 2) pe_int (fun _ _ => rfl)) pa_nil))))
      (pss_cons (ps_set (i := 4) sc_law.nd rfl (.inl rfl) (pe_cl c_Lpair hr (by decide) (by rfl) (pa_cons (pv 1) pa_nil)))
      (pss_cons (ps_set (i := 5) sc_law.nd rfl (.inl rfl) (pe_cl c_Lfr hr (by decide) (by rfl) (pa_cons (pe_ix ix_tup (pv 4) pe_int (fun _ _ => rfl)) (pa_cons (pe_ix ix_tup (pv 4) pe_int (fun _ _ => rfl)) pa_nil))))
      (pss_cons (ps_if (PW.pt (pw_or (pt_not (pt_val (pe_cl c_Lalike hr (by decide) (by rfl) (pa_cons (pe_cl c_made hr (by decide) (by rfl) (pa_cons (pe_ix ix_tup (pv 2) pe_int (fun _ _ => rfl)) (pa_cons (pe_ix ix_tup (pv 2) pe_int (fun _ _ => rfl)) pa_nil))) (pa_cons (pv 3) pa_nil))))) (pw_or1 (pt_not (pt_val (pe_cl c_Lalike hr (by decide) (by rfl) (pa_cons (pe_cl c_added hr (by decide) (by rfl) (pa_cons (pv 3) (pa_cons (pv 5) pa_nil))) (pa_cons (pe_cl c_Lsum hr (by decide) (by rfl) (pa_cons (pv 3) (pa_cons (pv 5) pa_nil))) pa_nil))))))))
        (pss_one (ps_ret pe_bl))
        pss_nil)
      (pss_cons (ps_if (PW.pt (pw_or (pt_not (pt_val (pe_cl c_Lalike hr (by decide) (by rfl) (pa_cons (pe_cl c_less hr (by decide) (by rfl) (pa_cons (pv 3) (pa_cons (pv 5) pa_nil))) (pa_cons (pe_cl c_Lminus hr (by decide) (by rfl) (pa_cons (pv 3) (pa_cons (pv 5) pa_nil))) pa_nil))))) (pw_or1 (pt_not (pt_val (pe_cl c_Lalike hr (by decide) (by rfl) (pa_cons (pe_cl c_timed hr (by decide) (by rfl) (pa_cons (pv 3) (pa_cons (pv 5) pa_nil))) (pa_cons (pe_cl c_Ltimes hr (by decide) (by rfl) (pa_cons (pv 3) (pa_cons (pv 5) pa_nil))) pa_nil))))))))
        (pss_one (ps_ret pe_bl))
        pss_nil)
      (pss_cons (ps_if (PW.pt (pw_and (pt_cmpR op_ne (pe_ix ix_tup (pv 5) pe_int (fun _ _ => rfl)) pe_int (nomark _)) (pw_and1 (pt_not (pt_val (pe_cl c_Lalike hr (by decide) (by rfl) (pa_cons (pe_cl c_over hr (by decide) (by rfl) (pa_cons (pv 3) (pa_cons (pv 5) pa_nil))) (pa_cons (pe_cl c_Lby hr (by decide) (by rfl) (pa_cons (pv 3) (pa_cons (pv 5) pa_nil))) pa_nil))))))))
        (pss_one (ps_ret pe_bl))
        pss_nil)
      (pss_cons (ps_set (i := 6) sc_law.nd rfl (.inl rfl) (pe_cl c_is_below hr (by decide) (by rfl) (pa_cons (pv 3) (pa_cons (pv 5) pa_nil))))
      (pss_one (ps_ret (pe_and (pe_callB call_isi (by rfl) T.m_isinstance (by decide +kernel) (pa_cons (pv 6) (pa_cons (pe_bltn (v := .ty "bool") (by rfl) T.m_bool (by decide +kernel) rfl) pa_nil))) (pe_one (pe_cmpR op_eq (pv 6) (pe_cl c_Llow hr (by decide) (by rfl) (pa_cons (pv 3) (pa_cons (pv 5) pa_nil))) (nomark _)))))))))))))))), ?_⟩
    -- the draws
    refine ⟨_, rfl, a, ns, rfl, hS, fun H1 b l s1 nb nl B1 => ?_⟩
    refine ⟨_, rfl, b, l, rfl, B1, fun H2 p t bt s2 B2 hp ht b0 b1 => ?_⟩
    refine ⟨fun σ' H' => ∃ (p : Addr) (t bt : Int), σ' = [some (.ref a), some (.ref b), some (.ref p), none, none, none, none] ∧ Bx H' b l ∧ hid b l H' p = some (.tup [.int t, .int bt]) ∧ t.natAbs < 2 ^ 20 ∧ bt.natAbs < 2 ^ 20 ∧ bt ≠ 0, ?_, fun σ' Hx hM => ?_⟩
    · refine ⟨_, rfl, _, l, _, rfl, B2, by decide, by decide, fun H3 r3 s3 B3 a3 b3 => ?_⟩
      have hp3 : SqT K H3 p [.int t, .int bt] := .inl (.inl (hid_same _ _ (s3 _ _ hp)))
      refine ⟨rfl, _, rfl, ite2 (fun z => ?_) (fun z => ?_)⟩
      · refine ⟨_, rfl, _, _, _, _, rfl, rfl, hp3, atI_nat (j := 0) rfl, _, rfl, _, _, _, _, rfl, rfl, hp3, atI_nat (j := 1) rfl, _, _, rfl, rfl, (show 2 ≤ sizeLine by decide), fun p' hp' => ?_⟩
        exact ⟨p', t, 0 - bt, rfl, B3.mono (Same.new hp'), hid_at B3 hp', ht, by omega, by omega⟩
      · exact ⟨p, t, bt, rfl, B3, s3 _ _ hp, ht, by omega, by omega⟩
    clear s2 B2 hp ht b0 b1 t bt p H2
    obtain ⟨p, t, bt, rfl, B2, hp, ht, hb, hne⟩ := hM
    have hp2 : SqT K Hx p [.int t, .int bt] := .inl (.inl (hid_same _ _ hp))
    refine ⟨_, rfl, _, _, _, _, rfl, rfl, hp2, atI_nat (j := 0) rfl, _, rfl, _, _, _, _, rfl, rfl, hp2, atI_nat (j := 1) rfl, t, bt, rfl, hne, p20 hb, fun H3 v3 s3 r3 => ?_⟩
    have zx : Sz 20 (Rat.divInt t bt) := sz_divInt ht hb hne
    have B3 := B2.mono s3
    have hp3 := Same.hid (b := b) (l := l) s3 _ _ hp
    refine ⟨_, rfl, b, l, rfl, B3, fun H4 p' t' bt' s4 B4 hp' ht' b0' b1' => ?_⟩
    have hp4 : SqT K H4 p [.int t, .int bt] := .inl (.inl (hid_same _ _ (s4 _ _ hp3)))
    have r4 := frac_keep r3 B3 s4
    have hp4' : SqT K H4 p' [.int t', .int bt'] := .inl (.inl (hid_same _ _ hp'))
    refine ⟨_, rfl, _, _, _, _, rfl, rfl, hp4', atI_nat (j := 0) rfl, _, rfl, _, _, _, _, rfl, rfl, hp4', atI_nat (j := 1) rfl, t', bt', rfl, by omega, p20 (by omega), fun H5 v5 s5 y5 => ?_⟩
    have zy : Sz 20 (Rat.divInt t' bt') := sz_divInt ht' (by omega) (by omega)
    have r5 := dp_mono s5 _ _ r4
    have hp5 := Same.tup s5 hp4
    generalize ey : Rat.divInt t' bt' = y at y5 zy
    generalize ex : Rat.divInt t bt = x at r5 zx
    -- made, added
    refine ⟨_, rfl, _, _, _, _, rfl, rfl, hp5, atI_nat (j := 0) rfl, _, rfl, _, _, _, _, rfl, rfl, hp5, atI_nat (j := 1) rfl, t, bt, rfl, hne, p20 hb, fun H6 v6 s6 m6 => ?_⟩
    rw [ex] at m6
    have r6 := dp_mono s6 _ _ r5
    have y6 := dp_mono s6 _ _ y5
    refine ⟨_, rfl, _, _, _, rfl, m6, r6, (show 1 < 2 by decide), rfl, _, rfl, iteN rfl ?_⟩
    refine ⟨_, rfl, _, rfl, _, _, x, y, 20, 20, rfl, r6, y6, zx, zy, by decide, trivial, fun H7 v7 s7 m7 => ?_⟩
    have r7 := dp_mono s7 _ _ r6
    have y7 := dp_mono s7 _ _ y6
    refine ⟨_, rfl, _, rfl, _, _, x, y, 20, 20, rfl, r7, y7, zx, zy, by decide, trivial, fun H8 v8 s8 m8 => ?_⟩
    have r8 := dp_mono s8 _ _ r7
    have y8 := dp_mono s8 _ _ y7
    refine ⟨_, _, _, rfl, dp_mono s8 _ _ m7, m8, (show 1 < 2 by decide), rfl, _, rfl, iteN rfl ?_⟩
    -- less, timed
    refine ⟨_, rfl, _, rfl, _, _, x, y, 20, 20, rfl, r8, y8, zx, zy, by decide, trivial, fun H9 v9 s9 m9 => ?_⟩
    have r9 := dp_mono s9 _ _ r8
    have y9 := dp_mono s9 _ _ y8
    refine ⟨_, rfl, _, rfl, _, _, x, y, 20, 20, rfl, r9, y9, zx, zy, by decide, trivial, fun Ha va sa ma => ?_⟩
    have ra := dp_mono sa _ _ r9
    have ya := dp_mono sa _ _ y9
    refine ⟨_, _, _, rfl, dp_mono sa _ _ m9, ma, (show 1 < 2 by decide), rfl, _, rfl, iteN rfl ?_⟩
    refine ⟨_, rfl, _, rfl, _, _, x, y, 20, 20, rfl, ra, ya, zx, zy, by decide, trivial, fun Hb vb sb mb => ?_⟩
    have rb := dp_mono sb _ _ ra
    have yb := dp_mono sb _ _ ya
    refine ⟨_, rfl, _, rfl, _, _, x, y, 20, 20, rfl, rb, yb, zx, zy, by decide, trivial, fun Hc vc sc mc => ?_⟩
    have rc := dp_mono sc _ _ rb
    have yc := dp_mono sc _ _ yb
    refine ⟨_, _, _, rfl, dp_mono sc _ _ mb, mc, (show 1 < 2 by decide), rfl, _, rfl, iteN rfl ?_⟩
    -- over
    obtain ⟨ay, ey2, hy⟩ := dF_at yc
    subst ey2
    have low : ∀ Hd, Same Hc Hd → Q (.bl true) Hd → True := fun _ _ _ => trivial
    refine ⟨_, rfl, _, _, _, _, rfl, rfl, hy, atI_nat (j := 0) rfl, rfl, _, rfl, ite2 (fun z => ?_) (fun z => ?_)⟩
    · have nz : y ≠ 0 := num_zero fun e => by
        rw [e] at z
        exact absurd z (by decide)
      refine ⟨_, rfl, _, rfl, _, _, x, y, 20, 20, rfl, rc, yc, zx, zy, by decide, nz, fun Hd vd sd md => ?_⟩
      have rd := dp_mono sd _ _ rc
      have yd := dp_mono sd _ _ yc
      refine ⟨_, rfl, _, rfl, _, _, x, y, 20, 20, rfl, rd, yd, zx, zy, by decide, nz, fun He ve se me => ?_⟩
      have re := dp_mono se _ _ rd
      have ye := dp_mono se _ _ yd
      refine ⟨_, _, _, rfl, dp_mono se _ _ md, me, (show 1 < 2 by decide), rfl, _, rfl, iteN rfl ?_⟩
      refine ⟨_, rfl, _, rfl, _, _, x, y, 20, 20, rfl, re, ye, zx, zy, by decide, ?_⟩
      refine ⟨_, rfl, _, _, _, _, _, rfl, .ty _, .base (.bl _), kit_ty (r := true) (by decide +kernel), _, rfl, iteY rfl ?_⟩
      refine ⟨_, rfl, _, rfl, _, rfl, _, _, x, y, 20, 20, rfl, re, ye, zx, zy, by decide, rfl, ?_⟩
      rw [decide_eq_true rfl]
      exact q _
    · refine iteN rfl ?_
      refine ⟨_, rfl, _, rfl, _, _, x, y, 20, 20, rfl, rc, yc, zx, zy, by decide, ?_⟩
      refine ⟨_, rfl, _, _, _, _, _, rfl, .ty _, .base (.bl _), kit_ty (r := true) (by decide +kernel), _, rfl, iteY rfl ?_⟩
      refine ⟨_, rfl, _, rfl, _, rfl, _, _, x, y, 20, 20, rfl, rc, yc, zx, zy, by decide, rfl, ?_⟩
      rw [decide_eq_true rfl]
      exact q _
end
theorem txt_mk {K : PySem.W.Frag} {h : Heap} {mg : Str → Option Value} (X : K.In h) (G : h.Ns mainGlobals mg)
    {f0 : Addr} {od0 an0 : Option Addr} {sl0 : Array (Option Value)} {oc0 kV0 dc0 pm0 cd0 ct0 : Value}
    (a0 : PySem.W.nsIn K mainGlobals "common_divisor" = some (some (.ref f0))) (l0 : K.lookup f0 = some ⟨oc0, od0, .func (PySem.W.fnOf "common_divisor" "common_divisor" (defArgs s_common_divisor) (defBody s_common_divisor) (defScope s_common_divisor) .none kV0 dc0 pm0 an0 cd0 ct0), sl0⟩) (c0 : PySem.W.codeIn K cd0 "common_divisor" = true) (k0 : PySem.W.keepIn K (.ref f0) = true)
    {f1 : Addr} {od1 an1 : Option Addr} {sl1 : Array (Option Value)} {oc1 kV1 dc1 pm1 cd1 ct1 : Value}
    (a1 : PySem.W.nsIn K mainGlobals "made" = some (some (.ref f1))) (l1 : K.lookup f1 = some ⟨oc1, od1, .func (PySem.W.fnOf "made" "made" (defArgs s_made) (defBody s_made) (defScope s_made) .none kV1 dc1 pm1 an1 cd1 ct1), sl1⟩) (c1 : PySem.W.codeIn K cd1 "made" = true) (k1 : PySem.W.keepIn K (.ref f1) = true)
    {f2 : Addr} {od2 an2 : Option Addr} {sl2 : Array (Option Value)} {oc2 kV2 dc2 pm2 cd2 ct2 : Value}
    (a2 : PySem.W.nsIn K mainGlobals "added" = some (some (.ref f2))) (l2 : K.lookup f2 = some ⟨oc2, od2, .func (PySem.W.fnOf "added" "added" (defArgs s_added) (defBody s_added) (defScope s_added) .none kV2 dc2 pm2 an2 cd2 ct2), sl2⟩) (c2 : PySem.W.codeIn K cd2 "added" = true) (k2 : PySem.W.keepIn K (.ref f2) = true)
    {f3 : Addr} {od3 an3 : Option Addr} {sl3 : Array (Option Value)} {oc3 kV3 dc3 pm3 cd3 ct3 : Value}
    (a3 : PySem.W.nsIn K mainGlobals "less" = some (some (.ref f3))) (l3 : K.lookup f3 = some ⟨oc3, od3, .func (PySem.W.fnOf "less" "less" (defArgs s_less) (defBody s_less) (defScope s_less) .none kV3 dc3 pm3 an3 cd3 ct3), sl3⟩) (c3 : PySem.W.codeIn K cd3 "less" = true) (k3 : PySem.W.keepIn K (.ref f3) = true)
    {f4 : Addr} {od4 an4 : Option Addr} {sl4 : Array (Option Value)} {oc4 kV4 dc4 pm4 cd4 ct4 : Value}
    (a4 : PySem.W.nsIn K mainGlobals "timed" = some (some (.ref f4))) (l4 : K.lookup f4 = some ⟨oc4, od4, .func (PySem.W.fnOf "timed" "timed" (defArgs s_timed) (defBody s_timed) (defScope s_timed) .none kV4 dc4 pm4 an4 cd4 ct4), sl4⟩) (c4 : PySem.W.codeIn K cd4 "timed" = true) (k4 : PySem.W.keepIn K (.ref f4) = true)
    {f5 : Addr} {od5 an5 : Option Addr} {sl5 : Array (Option Value)} {oc5 kV5 dc5 pm5 cd5 ct5 : Value}
    (a5 : PySem.W.nsIn K mainGlobals "over" = some (some (.ref f5))) (l5 : K.lookup f5 = some ⟨oc5, od5, .func (PySem.W.fnOf "over" "over" (defArgs s_over) (defBody s_over) (defScope s_over) .none kV5 dc5 pm5 an5 cd5 ct5), sl5⟩) (c5 : PySem.W.codeIn K cd5 "over" = true) (k5 : PySem.W.keepIn K (.ref f5) = true)
    {f6 : Addr} {od6 an6 : Option Addr} {sl6 : Array (Option Value)} {oc6 kV6 dc6 pm6 cd6 ct6 : Value}
    (a6 : PySem.W.nsIn K mainGlobals "is_below" = some (some (.ref f6))) (l6 : K.lookup f6 = some ⟨oc6, od6, .func (PySem.W.fnOf "is_below" "is_below" (defArgs s_is_below) (defBody s_is_below) (defScope s_is_below) .none kV6 dc6 pm6 an6 cd6 ct6), sl6⟩) (c6 : PySem.W.codeIn K cd6 "is_below" = true) (k6 : PySem.W.keepIn K (.ref f6) = true)
    {f7 : Addr} {od7 an7 : Option Addr} {sl7 : Array (Option Value)} {oc7 kV7 dc7 pm7 cd7 ct7 : Value}
    (a7 : PySem.W.nsIn K mainGlobals "_law_begun" = some (some (.ref f7))) (l7 : K.lookup f7 = some ⟨oc7, od7, .func (PySem.W.fnOf "_law_begun" "_law_begun" (defArgs s_Lbegun) (defBody s_Lbegun) (defScope s_Lbegun) .none kV7 dc7 pm7 an7 cd7 ct7), sl7⟩) (c7 : PySem.W.codeIn K cd7 "_law_begun" = true) (k7 : PySem.W.keepIn K (.ref f7) = true)
    {f8 : Addr} {od8 an8 : Option Addr} {sl8 : Array (Option Value)} {oc8 kV8 dc8 pm8 cd8 ct8 : Value}
    (a8 : PySem.W.nsIn K mainGlobals "_law_take" = some (some (.ref f8))) (l8 : K.lookup f8 = some ⟨oc8, od8, .func (PySem.W.fnOf "_law_take" "_law_take" (defArgs s_Ltake) (defBody s_Ltake) (defScope s_Ltake) .none kV8 dc8 pm8 an8 cd8 ct8), sl8⟩) (c8 : PySem.W.codeIn K cd8 "_law_take" = true) (k8 : PySem.W.keepIn K (.ref f8) = true)
    {f9 : Addr} {od9 an9 : Option Addr} {sl9 : Array (Option Value)} {oc9 kV9 dc9 pm9 cd9 ct9 : Value}
    (a9 : PySem.W.nsIn K mainGlobals "_law_alike" = some (some (.ref f9))) (l9 : K.lookup f9 = some ⟨oc9, od9, .func (PySem.W.fnOf "_law_alike" "_law_alike" (defArgs s_Lalike) (defBody s_Lalike) (defScope s_Lalike) .none kV9 dc9 pm9 an9 cd9 ct9), sl9⟩) (c9 : PySem.W.codeIn K cd9 "_law_alike" = true) (k9 : PySem.W.keepIn K (.ref f9) = true)
    {f10 : Addr} {od10 an10 : Option Addr} {sl10 : Array (Option Value)} {oc10 kV10 dc10 pm10 cd10 ct10 : Value}
    (a10 : PySem.W.nsIn K mainGlobals "_law_fr" = some (some (.ref f10))) (l10 : K.lookup f10 = some ⟨oc10, od10, .func (PySem.W.fnOf "_law_fr" "_law_fr" (defArgs s_Lfr) (defBody s_Lfr) (defScope s_Lfr) .none kV10 dc10 pm10 an10 cd10 ct10), sl10⟩) (c10 : PySem.W.codeIn K cd10 "_law_fr" = true) (k10 : PySem.W.keepIn K (.ref f10) = true)
    {f11 : Addr} {od11 an11 : Option Addr} {sl11 : Array (Option Value)} {oc11 kV11 dc11 pm11 cd11 ct11 : Value}
    (a11 : PySem.W.nsIn K mainGlobals "_law_sum" = some (some (.ref f11))) (l11 : K.lookup f11 = some ⟨oc11, od11, .func (PySem.W.fnOf "_law_sum" "_law_sum" (defArgs s_Lsum) (defBody s_Lsum) (defScope s_Lsum) .none kV11 dc11 pm11 an11 cd11 ct11), sl11⟩) (c11 : PySem.W.codeIn K cd11 "_law_sum" = true) (k11 : PySem.W.keepIn K (.ref f11) = true)
    {f12 : Addr} {od12 an12 : Option Addr} {sl12 : Array (Option Value)} {oc12 kV12 dc12 pm12 cd12 ct12 : Value}
    (a12 : PySem.W.nsIn K mainGlobals "_law_minus" = some (some (.ref f12))) (l12 : K.lookup f12 = some ⟨oc12, od12, .func (PySem.W.fnOf "_law_minus" "_law_minus" (defArgs s_Lminus) (defBody s_Lminus) (defScope s_Lminus) .none kV12 dc12 pm12 an12 cd12 ct12), sl12⟩) (c12 : PySem.W.codeIn K cd12 "_law_minus" = true) (k12 : PySem.W.keepIn K (.ref f12) = true)
    {f13 : Addr} {od13 an13 : Option Addr} {sl13 : Array (Option Value)} {oc13 kV13 dc13 pm13 cd13 ct13 : Value}
    (a13 : PySem.W.nsIn K mainGlobals "_law_times" = some (some (.ref f13))) (l13 : K.lookup f13 = some ⟨oc13, od13, .func (PySem.W.fnOf "_law_times" "_law_times" (defArgs s_Ltimes) (defBody s_Ltimes) (defScope s_Ltimes) .none kV13 dc13 pm13 an13 cd13 ct13), sl13⟩) (c13 : PySem.W.codeIn K cd13 "_law_times" = true) (k13 : PySem.W.keepIn K (.ref f13) = true)
    {f14 : Addr} {od14 an14 : Option Addr} {sl14 : Array (Option Value)} {oc14 kV14 dc14 pm14 cd14 ct14 : Value}
    (a14 : PySem.W.nsIn K mainGlobals "_law_by" = some (some (.ref f14))) (l14 : K.lookup f14 = some ⟨oc14, od14, .func (PySem.W.fnOf "_law_by" "_law_by" (defArgs s_Lby) (defBody s_Lby) (defScope s_Lby) .none kV14 dc14 pm14 an14 cd14 ct14), sl14⟩) (c14 : PySem.W.codeIn K cd14 "_law_by" = true) (k14 : PySem.W.keepIn K (.ref f14) = true)
    {f15 : Addr} {od15 an15 : Option Addr} {sl15 : Array (Option Value)} {oc15 kV15 dc15 pm15 cd15 ct15 : Value}
    (a15 : PySem.W.nsIn K mainGlobals "_law_low" = some (some (.ref f15))) (l15 : K.lookup f15 = some ⟨oc15, od15, .func (PySem.W.fnOf "_law_low" "_law_low" (defArgs s_Llow) (defBody s_Llow) (defScope s_Llow) .none kV15 dc15 pm15 an15 cd15 ct15), sl15⟩) (c15 : PySem.W.codeIn K cd15 "_law_low" = true) (k15 : PySem.W.keepIn K (.ref f15) = true)
    {f16 : Addr} {od16 an16 : Option Addr} {sl16 : Array (Option Value)} {oc16 kV16 dc16 pm16 cd16 ct16 : Value}
    (a16 : PySem.W.nsIn K mainGlobals "_law_pair" = some (some (.ref f16))) (l16 : K.lookup f16 = some ⟨oc16, od16, .func (PySem.W.fnOf "_law_pair" "_law_pair" (defArgs s_Lpair) (defBody s_Lpair) (defScope s_Lpair) .none kV16 dc16 pm16 an16 cd16 ct16), sl16⟩) (c16 : PySem.W.codeIn K cd16 "_law_pair" = true) (k16 : PySem.W.keepIn K (.ref f16) = true)
    {f17 : Addr} {od17 an17 : Option Addr} {sl17 : Array (Option Value)} {oc17 kV17 dc17 pm17 cd17 ct17 : Value}
    (a17 : PySem.W.nsIn K mainGlobals "law" = some (some (.ref f17))) (l17 : K.lookup f17 = some ⟨oc17, od17, .func (PySem.W.fnOf "law" "law" (defArgs s_law) (defBody s_law) (defScope s_law) .none kV17 dc17 pm17 an17 cd17 ct17), sl17⟩) (c17 : PySem.W.codeIn K cd17 "law" = true) (k17 : PySem.W.keepIn K (.ref f17) = true)
    (z_abs : PySem.W.nsIn K mainGlobals "abs" = some none)
    (z_list : PySem.W.nsIn K mainGlobals "list" = some none)
    (z_int : PySem.W.nsIn K mainGlobals "int" = some none)
    (z_len : PySem.W.nsIn K mainGlobals "len" = some none)
    (z_isinstance : PySem.W.nsIn K mainGlobals "isinstance" = some none)
    (z_bool : PySem.W.nsIn K mainGlobals "bool" = some none)
    (z_str : PySem.W.nsIn K mainGlobals "str" = some none)
    (z_tuple : PySem.W.nsIn K mainGlobals "tuple" = some none)
    (z_range : PySem.W.nsIn K mainGlobals "range" = some none) : Txt K mg := by
  constructor
  · exact ⟨_, _, fun_mk (st := s_common_divisor) l0 c0 k0, PySem.W.mg_of X G a0, (fun_mk (st := s_common_divisor) l0 c0 k0).binds (ps := ["one", "two"]) fun _ _ _ _ _ _ us hl => match us, hl with | [_, _], _ => rfl⟩
  · exact ⟨_, _, fun_mk (st := s_made) l1 c1 k1, PySem.W.mg_of X G a1, (fun_mk (st := s_made) l1 c1 k1).binds (ps := ["top", "bottom"]) fun _ _ _ _ _ _ us hl => match us, hl with | [_, _], _ => rfl⟩
  · exact ⟨_, _, fun_mk (st := s_added) l2 c2 k2, PySem.W.mg_of X G a2, (fun_mk (st := s_added) l2 c2 k2).binds (ps := ["one", "two"]) fun _ _ _ _ _ _ us hl => match us, hl with | [_, _], _ => rfl⟩
  · exact ⟨_, _, fun_mk (st := s_less) l3 c3 k3, PySem.W.mg_of X G a3, (fun_mk (st := s_less) l3 c3 k3).binds (ps := ["one", "two"]) fun _ _ _ _ _ _ us hl => match us, hl with | [_, _], _ => rfl⟩
  · exact ⟨_, _, fun_mk (st := s_timed) l4 c4 k4, PySem.W.mg_of X G a4, (fun_mk (st := s_timed) l4 c4 k4).binds (ps := ["one", "two"]) fun _ _ _ _ _ _ us hl => match us, hl with | [_, _], _ => rfl⟩
  · exact ⟨_, _, fun_mk (st := s_over) l5 c5 k5, PySem.W.mg_of X G a5, (fun_mk (st := s_over) l5 c5 k5).binds (ps := ["one", "two"]) fun _ _ _ _ _ _ us hl => match us, hl with | [_, _], _ => rfl⟩
  · exact ⟨_, _, fun_mk (st := s_is_below) l6 c6 k6, PySem.W.mg_of X G a6, (fun_mk (st := s_is_below) l6 c6 k6).binds (ps := ["one", "two"]) fun _ _ _ _ _ _ us hl => match us, hl with | [_, _], _ => rfl⟩
  · exact ⟨_, _, fun_mk (st := s_Lbegun) l7 c7 k7, PySem.W.mg_of X G a7, (fun_mk (st := s_Lbegun) l7 c7 k7).binds (ps := ["_law_script"]) fun _ _ _ _ _ _ us hl => match us, hl with | [_], _ => rfl⟩
  · exact ⟨_, _, fun_mk (st := s_Ltake) l8 c8 k8, PySem.W.mg_of X G a8, (fun_mk (st := s_Ltake) l8 c8 k8).binds (ps := ["_law_box", "_law_many"]) fun _ _ _ _ _ _ us hl => match us, hl with | [_, _], _ => rfl⟩
  · exact ⟨_, _, fun_mk (st := s_Lalike) l9 c9 k9, PySem.W.mg_of X G a9, (fun_mk (st := s_Lalike) l9 c9 k9).binds (ps := ["_law_found", "_law_due"]) fun _ _ _ _ _ _ us hl => match us, hl with | [_, _], _ => rfl⟩
  · exact ⟨_, _, fun_mk (st := s_Lfr) l10 c10 k10, PySem.W.mg_of X G a10, (fun_mk (st := s_Lfr) l10 c10 k10).binds (ps := ["_law_top", "_law_bottom"]) fun _ _ _ _ _ _ us hl => match us, hl with | [_, _], _ => rfl⟩
  · exact ⟨_, _, fun_mk (st := s_Lsum) l11 c11 k11, PySem.W.mg_of X G a11, (fun_mk (st := s_Lsum) l11 c11 k11).binds (ps := ["_law_one", "_law_two"]) fun _ _ _ _ _ _ us hl => match us, hl with | [_, _], _ => rfl⟩
  · exact ⟨_, _, fun_mk (st := s_Lminus) l12 c12 k12, PySem.W.mg_of X G a12, (fun_mk (st := s_Lminus) l12 c12 k12).binds (ps := ["_law_one", "_law_two"]) fun _ _ _ _ _ _ us hl => match us, hl with | [_, _], _ => rfl⟩
  · exact ⟨_, _, fun_mk (st := s_Ltimes) l13 c13 k13, PySem.W.mg_of X G a13, (fun_mk (st := s_Ltimes) l13 c13 k13).binds (ps := ["_law_one", "_law_two"]) fun _ _ _ _ _ _ us hl => match us, hl with | [_, _], _ => rfl⟩
  · exact ⟨_, _, fun_mk (st := s_Lby) l14 c14 k14, PySem.W.mg_of X G a14, (fun_mk (st := s_Lby) l14 c14 k14).binds (ps := ["_law_one", "_law_two"]) fun _ _ _ _ _ _ us hl => match us, hl with | [_, _], _ => rfl⟩
  · exact ⟨_, _, fun_mk (st := s_Llow) l15 c15 k15, PySem.W.mg_of X G a15, (fun_mk (st := s_Llow) l15 c15 k15).binds (ps := ["_law_one", "_law_two"]) fun _ _ _ _ _ _ us hl => match us, hl with | [_, _], _ => rfl⟩
  · exact ⟨_, _, fun_mk (st := s_Lpair) l16 c16 k16, PySem.W.mg_of X G a16, (fun_mk (st := s_Lpair) l16 c16 k16).binds (ps := ["_law_box"]) fun _ _ _ _ _ _ us hl => match us, hl with | [_], _ => rfl⟩
  · exact ⟨_, _, fun_mk (st := s_law) l17 c17 k17, PySem.W.mg_of X G a17, (fun_mk (st := s_law) l17 c17 k17).binds (ps := ["_law_script"]) fun _ _ _ _ _ _ us hl => match us, hl with | [_], _ => rfl⟩
  · exact PySem.W.mg_none_of X G z_abs
  · exact PySem.W.mg_none_of X G z_list
  · exact PySem.W.mg_none_of X G z_int
  · exact PySem.W.mg_none_of X G z_len
  · exact PySem.W.mg_none_of X G z_isinstance
  · exact PySem.W.mg_none_of X G z_bool
  · exact PySem.W.mg_none_of X G z_str
  · exact PySem.W.mg_none_of X G z_tuple
  · exact PySem.W.mg_none_of X G z_range
theorem law_mk {l : PySem.W.OpenLaw} {w : World} {K : PySem.W.Frag} {h : Heap} {mg : Str → Option Value} {fa f2 : Addr} (X : K.In h) (G : h.Ns mainGlobals mg) (hfa : mg "law" = some (.ref fa)) (T : Txt K mg)
    {od2 an2 : Option Addr} {sl2 : Array (Option Value)} {oc2 kV2 dc2 pm2 cd2 ct2 : Value}
    (a2 : PySem.W.nsIn K mainGlobals "law" = some (some (.ref f2))) (l2 : K.lookup f2 = some ⟨oc2, od2, .func (PySem.W.fnOf "law" "law" (defArgs s_law) (defBody s_law) (defScope s_law) .none kV2 dc2 pm2 an2 cd2 ct2), sl2⟩) (c2 : PySem.W.codeIn K cd2 "law" = true) (k2 : PySem.W.keepIn K (.ref f2) = true) :
    ∃ fd : FuncData, (∀ (s : Shared) (v : Value), BindsTo s fd ⟨[v], []⟩ [("_law_script", v)]) ∧ ∀ base : Heap, K.In base → base.Ns mainGlobals mg → FnOk l.prog w K mg base CX0 4 fa fd ["_law_script"] (spLaw K) := by
  have e := hfa.symm.trans (PySem.W.mg_of X G a2)
  cases e
  exact ⟨PySem.W.fnOf "law" "law" (defArgs s_law) (defBody s_law) (defScope s_law) .none kV2 dc2 pm2 an2 cd2 ct2, fun s v => .of_eq rfl, fun base _ _ => ok_law (fun_mk (st := s_law) l2 c2 k2) T⟩
end R
open PySem PySem.W PyProof.Rows
set_option maxHeartbeats 0 in
theorem PySem.Challenge.cw_reels_k01_fractions_holds : PySem.Challenge.rw_reels_k01_fractions.Holds := by
  w_on; o_law; k_head; (case hw => w_witness2)
  k_fill
  refine L2.walk_of (l := PySem.Challenge.rw_reels_k01_fractions) (n := 63) (k := 4) (x := "_law_script") (CX := fun _ => L2.CX0) (sp := fun w => R.spLaw _) rfl (by decide) rfl ⟨rfl, by decide, by decide⟩ (fun w h Y => PySem.W.kIn_of Y) ?F (fun _ _ a ns hl _ hS => ⟨a, ns, rfl, hS, hl, fun _ => rfl⟩) (fun _ _ _ _ _ h => h)
  case F =>
    intro w mg fa h KX G hmg
    refine' R.law_mk KX G hmg (R.txt_mk KX G ?a0 ?l0 ?c0 ?k0 ?a1 ?l1 ?c1 ?k1 ?a2 ?l2 ?c2 ?k2 ?a3 ?l3 ?c3 ?k3 ?a4 ?l4 ?c4 ?k4 ?a5 ?l5 ?c5 ?k5 ?a6 ?l6 ?c6 ?k6 ?a7 ?l7 ?c7 ?k7 ?a8 ?l8 ?c8 ?k8 ?a9 ?l9 ?c9 ?k9 ?a10 ?l10 ?c10 ?k10 ?a11 ?l11 ?c11 ?k11 ?a12 ?l12 ?c12 ?k12 ?a13 ?l13 ?c13 ?k13 ?a14 ?l14 ?c14 ?k14 ?a15 ?l15 ?c15 ?k15 ?a16 ?l16 ?c16 ?k16 ?a17 ?l17 ?c17 ?k17 ?z_abs ?z_list ?z_int ?z_len ?z_isinstance ?z_bool ?z_str ?z_tuple ?z_range   ) ?a17 ?l17 ?c17 ?k17
    (case a0 => k_is); (case l0 => k_is); (case c0 => k_is); (case k0 => k_is); (case a1 => k_is); (case l1 => k_is); (case c1 => k_is); (case k1 => k_is); (case a2 => k_is); (case l2 => k_is); (case c2 => k_is); (case k2 => k_is); (case a3 => k_is); (case l3 => k_is); (case c3 => k_is); (case k3 => k_is); (case a4 => k_is); (case l4 => k_is); (case c4 => k_is); (case k4 => k_is); (case a5 => k_is); (case l5 => k_is); (case c5 => k_is); (case k5 => k_is); (case a6 => k_is); (case l6 => k_is); (case c6 => k_is); (case k6 => k_is); (case a7 => k_is); (case l7 => k_is); (case c7 => k_is); (case k7 => k_is); (case a8 => k_is); (case l8 => k_is); (case c8 => k_is); (case k8 => k_is); (case a9 => k_is); (case l9 => k_is); (case c9 => k_is); (case k9 => k_is); (case a10 => k_is); (case l10 => k_is); (case c10 => k_is); (case k10 => k_is); (case a11 => k_is); (case l11 => k_is); (case c11 => k_is); (case k11 => k_is); (case a12 => k_is); (case l12 => k_is); (case c12 => k_is); (case k12 => k_is); (case a13 => k_is); (case l13 => k_is); (case c13 => k_is); (case k13 => k_is); (case a14 => k_is); (case l14 => k_is); (case c14 => k_is); (case k14 => k_is); (case a15 => k_is); (case l15 => k_is); (case c15 => k_is); (case k15 => k_is); (case a16 => k_is); (case l16 => k_is); (case c16 => k_is); (case k16 => k_is); (case a17 => k_is); (case l17 => k_is); (case c17 => k_is); (case k17 => k_is)
    (case z_abs => k_is); (case z_list => k_is); (case z_int => k_is); (case z_len => k_is); (case z_isinstance => k_is); (case z_bool => k_is); (case z_str => k_is); (case z_tuple => k_is); (case z_range => k_is)
