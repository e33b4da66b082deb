import PyProof.Rows.All
import Wide.All
import OpenK.AllK
import Wide.FinOn
import HandS.ForMost
import HandS.IsInst
import HandS.Wide
import HandS.FStr
import PyProof.FString3
import PyProof.Rows.StrIntSpec
import HandS.Evl
import PySem.Challenge.RW_reels_k02_times_written
set_option Elab.async false
set_option linter.all false
set_option maxRecDepth 100000
set_option maxHeartbeats 4000000
namespace R
/-! the greatest common divisor as the loops reckon it, and fractions as Rat -/
theorem fmod_nat (a b : Nat) : ((a : Int).fmod (b : Int)) = ((a % b : Nat) : Int) := by
  rw [Int.fmod_eq_emod_of_nonneg _ (by omega)]
  rfl
theorem gcd_turn (a b : Nat) : Nat.gcd b (a % b) = Nat.gcd a b := by
  rw [Nat.gcd_comm a b, Nat.gcd_rec b a, Nat.gcd_comm]
theorem gcd_pos {t b : Int} (h : b ≠ 0) : 0 < Nat.gcd t.natAbs b.natAbs := Nat.gcd_pos_of_pos_right _ (by omega)
theorem abs_nat (i : Int) : (if i < 0 then -i else i) = (i.natAbs : Int) := by
  split <;> omega
def frI (t b : Int) : Int := if b < 0 then -(Nat.gcd t.natAbs b.natAbs : Int) else (Nat.gcd t.natAbs b.natAbs : Int)
theorem frI_ne {t b : Int} (h : b ≠ 0) : frI t b ≠ 0 := by
  have := gcd_pos (t := t) h
  unfold frI
  split <;> omega
theorem frI_dt (t b : Int) : frI t b ∣ t := by
  have h : ((Nat.gcd t.natAbs b.natAbs : Nat) : Int) ∣ t := Int.ofNat_dvd_left.mpr (Nat.gcd_dvd_left _ _)
  unfold frI
  split
  · exact Int.neg_dvd.mpr h
  · exact h
theorem frI_db (t b : Int) : frI t b ∣ b := by
  have h : ((Nat.gcd t.natAbs b.natAbs : Nat) : Int) ∣ b := Int.ofNat_dvd_left.mpr (Nat.gcd_dvd_right _ _)
  unfold frI
  split
  · exact Int.neg_dvd.mpr h
  · exact h
theorem gcd_eq (t b : Int) : (b.gcd t) = Nat.gcd t.natAbs b.natAbs := by
  unfold Int.gcd
  exact Nat.gcd_comm _ _
theorem fdiv_exact {t d : Int} (hd : d ≠ 0) (h : d ∣ t) : t.fdiv d = t / d := by
  obtain ⟨k, rfl⟩ := h
  rw [Int.mul_fdiv_cancel_left _ hd, Int.mul_ediv_cancel_left _ hd]
theorem fr_num {t b : Int} (h : b ≠ 0) : t.fdiv (frI t b) = (Rat.divInt t b).num := by
  rw [fdiv_exact (frI_ne h) (frI_dt t b), Rat.num_divInt, gcd_eq]
  unfold frI
  split
  · rename_i h0
    rw [Int.sign_eq_neg_one_of_neg h0, Int.ediv_neg, Int.neg_one_mul]
    have hd : ((Nat.gcd t.natAbs b.natAbs : Nat) : Int) ∣ t := Int.ofNat_dvd_left.mpr (Nat.gcd_dvd_left _ _)
    rw [Int.neg_ediv_of_dvd hd]
  · rename_i h0
    rw [Int.sign_eq_one_of_pos (by omega), Int.one_mul]
theorem fr_den {t b : Int} (h : b ≠ 0) : b.fdiv (frI t b) = ((Rat.divInt t b).den : Int) := by
  rw [fdiv_exact (frI_ne h) (frI_db t b), Rat.den_divInt, gcd_eq, if_neg h]
  unfold frI
  split
  · rename_i h0
    rw [Int.ediv_neg]
    have hd : ((Nat.gcd t.natAbs b.natAbs : Nat) : Int) ∣ b := Int.ofNat_dvd_left.mpr (Nat.gcd_dvd_right _ _)
    rw [← Int.neg_ediv_of_dvd hd, show -b = ((b.natAbs : Nat) : Int) by omega, ← Int.natCast_ediv]
  · rename_i h0
    rw [show (b / ((Nat.gcd t.natAbs b.natAbs : Nat) : Int)) = (((b.natAbs : Nat) : Int) / ((Nat.gcd t.natAbs b.natAbs : Nat) : Int)) by
      rw [show ((b.natAbs : Nat) : Int) = b by omega], ← Int.natCast_ediv]
theorem frI_natAbs {t b : Int} (h : b ≠ 0) : (frI t b).natAbs ≤ b.natAbs := by
  have h1 : Nat.gcd t.natAbs b.natAbs ≤ b.natAbs := Nat.gcd_le_right _ (by omega)
  unfold frI
  split <;> omega
/-! sums and products of fractions by their parts -/
theorem den_ne (x : Rat) : ((x.den : Nat) : Int) ≠ 0 := by
  have := x.den_nz
  omega
theorem den_pos (x : Rat) : (0 : Int) < ((x.den : Nat) : Int) := by
  have := x.den_nz
  omega
theorem add_parts (x y : Rat) : Rat.divInt (x.num * y.den + y.num * x.den) ((x.den : Int) * y.den) = x + y := by
  conv => rhs; rw [← Rat.num_divInt_den x, ← Rat.num_divInt_den y]
  rw [Rat.divInt_add_divInt _ _ (den_ne x) (den_ne y)]
theorem sub_parts (x y : Rat) : Rat.divInt (x.num * y.den - y.num * x.den) ((x.den : Int) * y.den) = x - y := by
  conv => rhs; rw [← Rat.num_divInt_den x, ← Rat.num_divInt_den y]
  rw [Rat.divInt_sub_divInt _ _ (den_ne x) (den_ne y)]
theorem mul_parts (x y : Rat) : Rat.divInt (x.num * y.num) ((x.den : Int) * y.den) = x * y := by
  conv => rhs; rw [← Rat.num_divInt_den x, ← Rat.num_divInt_den y]
  rw [Rat.divInt_mul_divInt]
theorem div_parts (x y : Rat) : Rat.divInt (x.num * y.den) ((x.den : Int) * y.num) = x / y := by
  rw [Rat.div_def, Rat.inv_def]
  conv => rhs; rw [← Rat.num_divInt_den x]
  rw [Rat.divInt_mul_divInt]
theorem lt_parts (x y : Rat) : decide (x.num * y.den < y.num * x.den) = decide (x < y) := by
  rw [decide_eq_decide, Rat.lt_iff]
/-! sizes -/
structure Sz (n : Nat) (x : Rat) : Prop where
  num : x.num.natAbs < 2 ^ n
  den : x.den < 2 ^ n
theorem Sz.mono {n m : Nat} {x : Rat} (h : Sz n x) (k : n ≤ m) : Sz m x :=
  ⟨Nat.lt_of_lt_of_le h.num (Nat.pow_le_pow_right (by decide) k), Nat.lt_of_lt_of_le h.den (Nat.pow_le_pow_right (by decide) k)⟩
theorem divInt_num_le (t b : Int) : (Rat.divInt t b).num.natAbs ≤ t.natAbs := by
  by_cases h : b = 0
  · subst h
    rw [Rat.divInt_zero]
    exact Nat.zero_le _
  · rw [← fr_num h, fdiv_exact (frI_ne h) (frI_dt t b)]
    exact Int.natAbs_ediv_le_natAbs _ _
theorem divInt_den_le {t b : Int} (h : b ≠ 0) : (Rat.divInt t b).den ≤ b.natAbs := by
  rw [Rat.den_divInt, if_neg h]
  exact Nat.div_le_self _ _
theorem sz_divInt {n : Nat} {t b : Int} (ht : t.natAbs < 2 ^ n) (hb : b.natAbs < 2 ^ n) (h : b ≠ 0) : Sz n (Rat.divInt t b) :=
  ⟨Nat.lt_of_le_of_lt (divInt_num_le t b) ht, Nat.lt_of_le_of_lt (divInt_den_le h) hb⟩
theorem mul_bits {i j : Int} {a b : Nat} (ha : i.natAbs < 2 ^ a) (hb : j.natAbs < 2 ^ b) : (i * j).natAbs < 2 ^ (a + b) := by
  rw [Int.natAbs_mul, Nat.pow_add]
  exact Nat.mul_lt_mul'' ha hb
theorem add_bits {i j : Int} {a : Nat} (ha : i.natAbs < 2 ^ a) (hb : j.natAbs < 2 ^ a) : (i + j).natAbs < 2 ^ (a + 1) := by
  have : (i + j).natAbs ≤ i.natAbs + j.natAbs := Int.natAbs_add_le _ _
  rw [Nat.pow_succ]
  omega
theorem sub_bits {i j : Int} {a : Nat} (ha : i.natAbs < 2 ^ a) (hb : j.natAbs < 2 ^ a) : (i - j).natAbs < 2 ^ (a + 1) := by
  rw [Int.sub_eq_add_neg]
  exact add_bits ha (by omega)
theorem Sz.den' {n : Nat} {x : Rat} (h : Sz n x) : ((x.den : Nat) : Int).natAbs < 2 ^ n := h.den
theorem den_mul_ne (x y : Rat) : ((x.den : Int) * y.den) ≠ 0 := Int.mul_ne_zero (den_ne x) (den_ne y)
theorem up1 {i : Int} {a : Nat} (h : i.natAbs < 2 ^ a) : i.natAbs < 2 ^ (a + 1) := Nat.lt_of_lt_of_le h (Nat.pow_le_pow_right (by decide) (by omega))
theorem sz_add {n m : Nat} {x y : Rat} (hx : Sz n x) (hy : Sz m y) : Sz (n + m + 1) (x + y) := by
  rw [← add_parts]
  refine sz_divInt (add_bits (mul_bits hx.num hy.den') ?_) (up1 (mul_bits hx.den' hy.den')) (den_mul_ne x y)
  rw [Nat.add_comm n m]
  exact mul_bits hy.num hx.den'
theorem sz_sub {n m : Nat} {x y : Rat} (hx : Sz n x) (hy : Sz m y) : Sz (n + m + 1) (x - y) := by
  rw [← sub_parts]
  refine sz_divInt (sub_bits (mul_bits hx.num hy.den') ?_) (up1 (mul_bits hx.den' hy.den')) (den_mul_ne x y)
  rw [Nat.add_comm n m]
  exact mul_bits hy.num hx.den'
theorem sz_mul {n m : Nat} {x y : Rat} (hx : Sz n x) (hy : Sz m y) : Sz (n + m) (x * y) := by
  rw [← mul_parts]
  exact sz_divInt (mul_bits hx.num hy.num) (mul_bits hx.den' hy.den') (den_mul_ne x y)
theorem num_ne {y : Rat} (h : y ≠ 0) : y.num ≠ 0 := fun e => h (Rat.num_eq_zero.mp e)
theorem sz_div {n m : Nat} {x y : Rat} (hx : Sz n x) (hy : Sz m y) (h : y ≠ 0) : Sz (n + m) (x / y) := by
  rw [← div_parts]
  exact sz_divInt (mul_bits hx.num hy.den') (mul_bits hx.den' hy.num) (Int.mul_ne_zero (den_ne x) (num_ne h))
theorem sz_int {n : Nat} {i : Int} (hn : 0 < n) (h : i.natAbs < 2 ^ n) : Sz n (i : Rat) :=
  ⟨h, by
    show 1 < 2 ^ n
    exact Nat.one_lt_two_pow (by omega)⟩
/-! the sum as it is reckoned by what the bottoms have in common -/
theorem add_split (x y : Rat) : (x + y).num = (x.num * ((y.den / (x.den.gcd y.den) : Nat) : Int) + y.num * ((x.den / (x.den.gcd y.den) : Nat) : Int)) / (((x.num * ((y.den / (x.den.gcd y.den) : Nat) : Int) + y.num * ((x.den / (x.den.gcd y.den) : Nat) : Int)).natAbs.gcd (x.den.gcd y.den) : Nat) : Int) ∧
   (x + y).den = x.den / (x.den.gcd y.den) * (y.den / ((x.num * ((y.den / (x.den.gcd y.den) : Nat) : Int) + y.num * ((x.den / (x.den.gcd y.den) : Nat) : Int)).natAbs.gcd (x.den.gcd y.den))) := by
  have e : x + y = Rat.add x y := rfl
  rw [e]
  unfold Rat.add
  dsimp only
  by_cases hg : x.den.gcd y.den = 1
  · rw [dif_pos hg]
    constructor
    · show x.num * (y.den : Int) + y.num * (x.den : Int) = _
      rw [hg, Nat.div_one, Nat.div_one, Nat.gcd_one_right]
      exact (Int.ediv_one _).symm
    · show x.den * y.den = _
      rw [hg, Nat.div_one, Nat.div_one, Nat.gcd_one_right, Nat.div_one]
  · rw [dif_neg hg]
    unfold Rat.maybeNormalize
    split
    · rename_i h1
      refine ⟨?_, ?_⟩
      · show x.num * ((y.den / (x.den.gcd y.den) : Nat) : Int) + y.num * ((x.den / (x.den.gcd y.den) : Nat) : Int) = _
        rw [h1]
        exact (Int.ediv_one _).symm
      · show x.den / (x.den.gcd y.den) * y.den = _
        rw [h1, Nat.div_one]
    · refine ⟨?_, ?_⟩
      · exact Int.divExact_eq_ediv (Int.ofNat_dvd_left.mpr (Nat.gcd_dvd_left _ _))
      · show _ / _ = _
        rw [Nat.mul_div_assoc]
        exact Nat.dvd_trans (Nat.gcd_dvd_right _ _) (Nat.gcd_dvd_right _ _)
theorem fdiv_nat (a b : Nat) : ((a : Int).fdiv (b : Int)) = ((a / b : Nat) : Int) := by
  rw [Int.fdiv_eq_ediv_of_nonneg _ (by omega)]
  rfl
theorem fdiv_natR (a : Int) (b : Nat) : (a.fdiv (b : Int)) = a / (b : Int) := Int.fdiv_eq_ediv_of_nonneg _ (by omega)
def sG (x y : Rat) : Nat := x.den.gcd y.den
def sT (x y : Rat) : Int := x.num * ((y.den / sG x y : Nat) : Int) + y.num * ((x.den / sG x y : Nat) : Int)
def sD (x y : Rat) : Nat := (sT x y).natAbs.gcd (sG x y)
theorem sum_num (x y : Rat) : (sT x y).fdiv (sD x y : Int) = (x + y).num := by
  rw [fdiv_natR]
  exact (add_split x y).1.symm
theorem sum_den (x y : Rat) : (((x.den / sG x y : Nat) : Int) * ((y.den / sD x y : Nat) : Int)) = (((x + y).den : Nat) : Int) := by
  rw [show (x + y).den = x.den / sG x y * (y.den / sD x y) from (add_split x y).2]
  rfl
theorem sG_pos (x y : Rat) : 0 < sG x y := Nat.gcd_pos_of_pos_left _ x.den_pos
theorem sD_pos (x y : Rat) : 0 < sD x y := Nat.gcd_pos_of_pos_right _ (sG_pos x y)
theorem sG_le (x y : Rat) : sG x y ≤ x.den := Nat.gcd_le_left _ x.den_pos
theorem sD_le (x y : Rat) : sD x y ≤ x.den := Nat.le_trans (Nat.gcd_le_right _ (sG_pos x y)) (sG_le x y)
end R
namespace R
open PySem PySem.Spec PyProof.Rows L2
/-! ### a def of the text, and what it promises -/
structure Df (K : PySem.W.Frag) (mg : Str → Option Value) (x : Str) (st : Stmt) (ps : List Str) : Prop where
  ex : ∃ (f : Addr) (fd : FuncData), Fun K x x st f fd ∧ mg x = some (.ref f) ∧ Binds K fd ps []
structure Cl (P : Program) (w : World) (K : PySem.W.Frag) (mg : Str → Option Value) (base : Heap) (CX : CXT) (k : Nat) (x : Str) (sp : Sp) : Prop where
  ex : ∃ (f : Addr) (fd : FuncData) (ps : List Str), FnOk P w K mg base CX k f fd ps sp ∧ mg x = some (.ref f) ∧ PySem.W.keepIn K (.ref f) = true ∧ Binds K fd ps []
section
variable {P : Program} {w : World} {K : PySem.W.Frag} {mg : Str → Option Value} {base : Heap}
theorem Df.cl {x : Str} {st : Stmt} {N ps : List Str} {k : Nat} {sp : Sp} (D : Df K mg x st ps) (S : FnScope N ps (defScope st)) (len : ∀ vs H Q E, sp vs H Q E → vs.length = ps.length)
    (hbody : ∀ (f : Addr) (cdv : Value) (A : Around) (outer : List Env) (s : Shared) (H : Hp) (vs : List V) (Q : VK) (E : XK), Room k (A.deeper (envOfC x (defScope st) s.heap.objs.size f cdv)) → sp vs H Q E →
      ∃ t, PSs (cxOf CX0 P w K mg base N x (defScope st) f cdv A outer s H E).nox (defBody st) t ∧ t { nx := fun _ H' => Q .non H', rt := Q } (start N vs) H) : Cl P w K mg base CX0 (k + 1) x sp := by
  obtain ⟨f, fd, F, g, b⟩ := D.ex
  exact ⟨f, fd, ps, F.ok S len (hbody f), g, F.kp, b⟩
end
section
variable {X : Cx}
theorem pe_cl {k j : Nat} {x : Str} {sp : Sp} {p pos : Pos} {e : Expr} {es : List Expr} {t : TA} (c : Cl X.prog X.w X.K X.mg X.base CX0 k x sp) (hr : Room j X.A) (hk : k ≤ j) (hg : Gl X x) (ha : PA X (e :: es) t)
    (hdb : (x == ("__debug__" : Str)) = false := by decide) (he : starEach (e :: es) X.env = (false, eval e X.env) :: starEach es X.env := by rfl) (hpl : (backTo pos (starEach es X.env)).any (·.1) = false := by rfl) :
    PE X (.Call (.Name x p) (e :: es) [] pos) (tCall sp [] E0 t) := by
  obtain ⟨f, fd, ps, F, hm, kp, b⟩ := c.ex
  exact pe_call F (hr.mono hk) hg hm kp b .nil pass0 ha hdb he hpl
/-- // by any divisor but 0, below 2 ^ 9000 -/
def CDivX (_ j : Int) : Prop := j ≠ 0 ∧ j.natAbs.log2 < 9000
theorem op_fdivX : OpR X (binaryOp .FloorDiv) (rI CDivX fun i j => .int (i.fdiv j)) := opI fun i j _ _ _ _ _ hc q =>
  floordiv_int hc.1 q (.inl (PyProof.noPylong_of_log2 hc.2))
end
theorem cdiv {i j : Int} {b : Nat} (h : j ≠ 0) (hb : j.natAbs < 2 ^ b) (h0 : 0 < b) (h9 : b ≤ 9000) : CDivX i j := ⟨h, Nat.lt_of_lt_of_le (PySem.Flt.log2_lt_of h0 hb) h9⟩
/-! ### data at a heap -/
theorem Same.tup {K : PySem.W.Frag} {H H' : Hp} {a : Addr} {xs : List V} (e : Same H H') (h : SqT K H a xs) : SqT K H' a xs := by
  rcases h with (h | ⟨o, h⟩) | h
  · exact .inl (.inl (e _ _ h))
  · exact .inl (.inr ⟨o, e _ _ h⟩)
  · exact .inr h
theorem Same.new {H : Hp} {p : Addr} {o : HO} (h : H p = none) : Same H (upd H p o) := fun b x e => by
  rw [upd_ne (ne_of_none e h)]
  exact e
mutual
theorem dp_mono {K : PySem.W.Frag} {H H' : Hp} (s : Same H H') : ∀ (d : PyData) (v : V), Dp K H v d → Dp K H' v d
  | .none, _, h => by cases h; exact .non
  | .bool _, _, h => by cases h; exact .bl _
  | .int _, _, h => by cases h; exact .int _
  | .str _, _, h => by cases h; exact .str _
  | .list ds, _, h => by
    cases h with
    | lst hs ha => exact .lst (s.seq hs) (dpa_mono s ds _ ha)
  | .tuple ds, _, h => by
    cases h with
    | tup hs ha => exact .tup (Same.tup s hs) (dpa_mono s ds _ ha)
  | .dict _, _, h => by cases h
theorem dpa_mono {K : PySem.W.Frag} {H H' : Hp} (s : Same H H') : ∀ (ds : List PyData) (vs : List V), DpAll K H vs ds → DpAll K H' vs ds
  | [], _, h => by cases h; exact .nil
  | d :: ds, _, h => by
    cases h with
    | cons h1 h2 => exact .cons (dp_mono s d _ h1) (dpa_mono s ds _ h2)
end
end R
namespace R
section
open PySem PySem.Spec PyProof.Rows L2 Builtin Builtin.Str Builtin.Int Builtin.Float
/-! ### the field {x:02d} of an int that is not negative -/
def f02 : FormatSpec := { fill := 48, align := 61, width := some 2, type := some 100 }
theorem p02 : parseFormatSpec [48, 50, 100] "int" 62 = .ok f02 := rfl
theorem gives_02d (a : Int) (t u : Tok) (hs : a.natAbs.log2 < 1920) : Gives («int.__format__» ⟨[.int a t, .str "02d" u], []⟩) (.str (intSpecText f02 a)) := by
  intro prog w A R s hq
  unfold Builtin.«int.__format__»
  simp only [selfAndOne, noKeywords, Int.intOfSelf, asInt?, asStr?, List.isEmpty_nil, if_true, pure_bind, bind_pure, bind_assoc]
  rw [show (Value.str (Str.ofString "02d") u == Value.none) = false from rfl]
  simp only [Bool.false_eq_true, if_false]
  refine wpAny_bind (wpAny_typeNameOf (T := "str") (typeIs_str _ _ _) (by decide) fun _ => ?_)
  rw [show ((Str.ofString "02d").length == 0) = false by decide +kernel]
  simp only [Bool.false_eq_true, if_false, pure_bind]
  rw [show (((Str.ofString "02d").cps.toList.drop 1).any (fun x => decide (x ≥ 128)) || (decide ((Str.ofString "02d").cps.getD 0 0 ≥ 128) && !([60, 62, 61, 94] : List Nat).contains ((Str.ofString "02d").cps.getD 1 0))) = false by decide +kernel]
  simp only [Bool.false_eq_true, if_false, pure_bind]
  refine wpAny_bind (wpAny_typeNameOfCut_int ?_)
  rw [show (Str.ofString "02d").cps.toList = [48, 50, 100] by decide +kernel, p02]
  dsimp only
  rw [if_pos (by decide +kernel)]
  show wpAny _ _ (do let r ← Builtin.overDigitLimit? a; _) _ _ _
  rw [PySem.overDigitLimit_small hs, pure_bind]
  show wpAny _ _ (retStr _) _ _ _
  refine Gives.of_eq (m := .str (intSpecText f02 a)) ?_ prog w A R s hq
  unfold intSpecText
  rfl
end
open PySem PySem.Spec PyProof.Rows L2
/-! ### texts of numbers -/
def sI (i : Int) : Str := Str.ofString (toString i)
def pad2 (i : Int) : Str := if i < 10 then (⟨#[48]⟩ : Str) ++ sI i else sI i
theorem sapp (a b c : Str) : (a ++ b) ++ c = a ++ (b ++ c) := by
  refine Str.ext' ?_
  rw [Str.cps_append, Str.cps_append, Str.cps_append, Str.cps_append, Array.append_assoc]
theorem sapp_nil (a : Str) : a ++ Str.empty = a := Str.append_right_empty rfl
theorem nil_sapp (a : Str) : Str.empty ++ a = a := Str.append_left_empty rfl
theorem slen (a b : Str) : (a ++ b).length = a.length + b.length := by
  unfold Str.length
  rw [Str.cps_append, Array.size_append]
theorem sI_nat (m : Nat) : sI (m : Int) = ⟨((Nat.toDigits 10 m).map Char.toNat).toArray⟩ := text_ofNat m
theorem sI_len {i : Int} (h0 : 0 ≤ i) (h : i < 10 ^ 30) : (sI i).length ≤ 30 := by
  obtain ⟨m, rfl⟩ := Int.eq_ofNat_of_zero_le h0
  rw [sI_nat]
  show ((Nat.toDigits 10 m).map Char.toNat).toArray.size ≤ 30
  rw [List.size_toArray, List.length_map]
  exact digits10_le (by decide) (by
    have : ((m : Nat) : Int) < ((10 ^ 30 : Nat) : Int) := h
    omega)
theorem lg {i : Int} (h0 : 0 ≤ i) (h : i < 10 ^ 30) : i.natAbs.log2 < 1920 :=
  PySem.Flt.log2_lt_of (by decide) (Nat.lt_of_lt_of_le (show i.natAbs < 2 ^ 128 by omega) (Nat.pow_le_pow_right (by decide) (by decide)))
theorem pad2_len {i : Int} (h0 : 0 ≤ i) (h : i < 10 ^ 30) : (pad2 i).length ≤ 31 := by
  have := sI_len h0 h
  unfold pad2
  split
  · rw [slen]
    show 1 + _ ≤ 31
    omega
  · omega
theorem f02_text {a : Int} (h0 : 0 ≤ a) : intSpecText f02 a = pad2 a := by
  rw [intSpecText_zero (f := f02) rfl rfl rfl rfl h0]
  have D := digitsFacts10 a.natAbs
  unfold pad2
  split
  · rename_i h
    rw [D.lt10 (by omega)]
    rfl
  · rename_i h
    have := D.ge10 (by omega)
    rw [show f02.width.getD 0 - (Nat.toDigits 10 a.natAbs).length = 0 by
      show 2 - _ = 0
      omega]
    exact nil_sapp _
section
variable {X : Cx}
def tFmt02 (te : TE) : TE := fun σ H Q => te σ H fun x H1 => ∃ i : Int, x = .int i ∧ 0 ≤ i ∧ i < 10 ^ 30 ∧ Q (.str (pad2 i)) H1
theorem pe_fmt02 {e : Expr} {te : TE} {k : Nat} {p1 p2 pos : Pos} (he : PE X e te) : PE X (.FormattedValue e (-1) (some (.JoinedStr [.Constant (.str "02d") k p1] p2)) pos) (tFmt02 te) := by
  refine ⟨fun pins s σ H Q I h => ?_⟩
  refine wpAny_FormattedValue_spec (thn (he.run pins s σ H _ I h) fun v s1 hv => ?_)
  obtain ⟨x, H1, I1, r1, i, rfl, h0, h1, q⟩ := hv
  obtain ⟨t, rfl⟩ := r1
  refine thn ((pe_joined1 (pe_str (x := "02d"))).run pins s1 σ H1 (fun v H' => v = .str "02d" ∧ H' = H1) I1 ⟨rfl, rfl⟩) fun u s2 hu => ?_
  obtain ⟨y, H2, I2, r2, rfl, rfl⟩ := hu
  obtain ⟨t2, rfl⟩ := r2
  refine ⟨"02d", t2, rfl, ?_⟩
  refine wpAny_formatField_spec (by decide +kernel) (fun s' => typeIs_int s' i t) F.slot_int_format F.entry_int_format F.args_int_format_2 (fun u => gives_02d i t u (lg h0 h1)) ?_ (by decide +kernel) ?_
  · rw [f02_text h0]
    exact ⟨.str (pad2 i), H2, I2.tok _, ⟨_, rfl⟩, q⟩
  · rw [f02_text h0]
    exact Nat.le_trans (pad2_len h0 h1) (by decide)
theorem pe_gl {x : Str} {pos : Pos} {v : V} (hg : Gl X x) (h : ∃ u, X.mg x = some u ∧ RelV v u) (hd : (x == ("__debug__" : Str)) = false := by decide) : PE X (.Name x pos) (tC v) := by
  obtain ⟨u, h1, h2⟩ := h
  exact pe_glob hg h1 h2 hd
end
end R
namespace R
open PySem PySem.Spec PyProof.Rows L2
def topS (i : Nat) : Stmt := PySem.Challenge.pw_reels_k02_times_written.main.body.getD i (.Pass ⟨0, 0, 0, 0⟩)
abbrev s_common_divisor : Stmt := topS 1
theorem sc_common_divisor : FnScope ["one", "two"] ["one", "two"] (defScope s_common_divisor) := ⟨rfl, rfl, rfl, by decide +kernel, rfl, by decide +kernel, by decide +kernel⟩
abbrev s_made : Stmt := topS 2
theorem sc_made : FnScope ["top", "bottom", "divisor"] ["top", "bottom"] (defScope s_made) := ⟨rfl, rfl, rfl, by decide +kernel, rfl, by decide +kernel, by decide +kernel⟩
abbrev s_over : Stmt := topS 3
theorem sc_over : FnScope ["one", "two"] ["one", "two"] (defScope s_over) := ⟨rfl, rfl, rfl, by decide +kernel, rfl, by decide +kernel, by decide +kernel⟩
abbrev s_with_rest : Stmt := topS 6
theorem sc_with_rest : FnScope ["whole", "top", "bottom"] ["whole", "top", "bottom"] (defScope s_with_rest) := ⟨rfl, rfl, rfl, by decide +kernel, rfl, by decide +kernel, by decide +kernel⟩
abbrev s_as_mixed : Stmt := topS 7
theorem sc_as_mixed : FnScope ["fraction", "top", "bottom"] ["fraction"] (defScope s_as_mixed) := ⟨rfl, rfl, rfl, by decide +kernel, rfl, by decide +kernel, by decide +kernel⟩
abbrev s_as_frames : Stmt := topS 8
theorem sc_as_frames : FnScope ["time"] ["time"] (defScope s_as_frames) := ⟨rfl, rfl, rfl, by decide +kernel, rfl, by decide +kernel, by decide +kernel⟩
abbrev s_as_seconds : Stmt := topS 9
theorem sc_as_seconds : FnScope ["time", "rate"] ["time", "rate"] (defScope s_as_seconds) := ⟨rfl, rfl, rfl, by decide +kernel, rfl, by decide +kernel, by decide +kernel⟩
abbrev s_as_clock : Stmt := topS 10
theorem sc_as_clock : FnScope ["time", "rate", "top", "bottom", "seconds", "frames", "minutes", "hours", "clock"] ["time", "rate"] (defScope s_as_clock) := ⟨rfl, rfl, rfl, by decide +kernel, rfl, by decide +kernel, by decide +kernel⟩
abbrev s_Lbegun : Stmt := topS 12
theorem sc_Lbegun : FnScope ["_law_script", "_law_stirred", "_law_cell"] ["_law_script"] (defScope s_Lbegun) := ⟨rfl, rfl, rfl, by decide +kernel, rfl, by decide +kernel, by decide +kernel⟩
abbrev s_Ltake : Stmt := topS 13
theorem sc_Ltake : FnScope ["_law_box", "_law_many", "_law_number"] ["_law_box", "_law_many"] (defScope s_Ltake) := ⟨rfl, rfl, rfl, by decide +kernel, rfl, by decide +kernel, by decide +kernel⟩
abbrev s_Lalike : Stmt := topS 14
theorem sc_Lalike : FnScope ["_law_found", "_law_due", "_law_k"] ["_law_found", "_law_due"] (defScope s_Lalike) := ⟨rfl, rfl, rfl, by decide +kernel, rfl, by decide +kernel, by decide +kernel⟩
abbrev s_Lfr : Stmt := topS 15
theorem sc_Lfr : FnScope ["_law_top", "_law_bottom", "_law_one", "_law_two", "_law_rest"] ["_law_top", "_law_bottom"] (defScope s_Lfr) := ⟨rfl, rfl, rfl, by decide +kernel, rfl, by decide +kernel, by decide +kernel⟩
abbrev s_Lmixed : Stmt := topS 21
theorem sc_Lmixed : FnScope ["_law_time", "_law_whole", "_law_rest"] ["_law_time"] (defScope s_Lmixed) := ⟨rfl, rfl, rfl, by decide +kernel, rfl, by decide +kernel, by decide +kernel⟩
abbrev s_Lframes_text : Stmt := topS 22
theorem sc_Lframes_text : FnScope ["_law_time"] ["_law_time"] (defScope s_Lframes_text) := ⟨rfl, rfl, rfl, by decide +kernel, rfl, by decide +kernel, by decide +kernel⟩
abbrev s_Lseconds_text : Stmt := topS 23
theorem sc_Lseconds_text : FnScope ["_law_time", "_law_rate_here"] ["_law_time", "_law_rate_here"] (defScope s_Lseconds_text) := ⟨rfl, rfl, rfl, by decide +kernel, rfl, by decide +kernel, by decide +kernel⟩
abbrev s_Lclock_text : Stmt := topS 24
theorem sc_Lclock_text : FnScope ["_law_time", "_law_rate_here", "_law_frames", "_law_numbers", "_law_text", "_law_number"] ["_law_time", "_law_rate_here"] (defScope s_Lclock_text) := ⟨rfl, rfl, rfl, by decide +kernel, rfl, by decide +kernel, by decide +kernel⟩
abbrev s_Lany_time : Stmt := topS 25
theorem sc_Lany_time : FnScope ["_law_box", "_law_top"] ["_law_box"] (defScope s_Lany_time) := ⟨rfl, rfl, rfl, by decide +kernel, rfl, by decide +kernel, by decide +kernel⟩
abbrev s_Lrate : Stmt := topS 26
theorem sc_Lrate : FnScope ["_law_box"] ["_law_box"] (defScope s_Lrate) := ⟨rfl, rfl, rfl, by decide +kernel, rfl, by decide +kernel, by decide +kernel⟩
abbrev s_law : Stmt := topS 27
theorem sc_law : FnScope ["_law_script", "_law_box", "_law_time", "_law_rate_here"] ["_law_script"] (defScope s_law) := ⟨rfl, rfl, rfl, by decide +kernel, rfl, by decide +kernel, by decide +kernel⟩
structure Txt (K : PySem.W.Frag) (mg : Str → Option Value) : Prop where
  d_common_divisor : Df K mg "common_divisor" s_common_divisor ["one", "two"]
  d_made : Df K mg "made" s_made ["top", "bottom"]
  d_over : Df K mg "over" s_over ["one", "two"]
  d_with_rest : Df K mg "with_rest" s_with_rest ["whole", "top", "bottom"]
  d_as_mixed : Df K mg "as_mixed" s_as_mixed ["fraction"]
  d_as_frames : Df K mg "as_frames" s_as_frames ["time"]
  d_as_seconds : Df K mg "as_seconds" s_as_seconds ["time", "rate"]
  d_as_clock : Df K mg "as_clock" s_as_clock ["time", "rate"]
  d_Lbegun : Df K mg "_law_begun" s_Lbegun ["_law_script"]
  d_Ltake : Df K mg "_law_take" s_Ltake ["_law_box", "_law_many"]
  d_Lalike : Df K mg "_law_alike" s_Lalike ["_law_found", "_law_due"]
  d_Lfr : Df K mg "_law_fr" s_Lfr ["_law_top", "_law_bottom"]
  d_Lmixed : Df K mg "_law_mixed" s_Lmixed ["_law_time"]
  d_Lframes_text : Df K mg "_law_frames_text" s_Lframes_text ["_law_time"]
  d_Lseconds_text : Df K mg "_law_seconds_text" s_Lseconds_text ["_law_time", "_law_rate_here"]
  d_Lclock_text : Df K mg "_law_clock_text" s_Lclock_text ["_law_time", "_law_rate_here"]
  d_Lany_time : Df K mg "_law_any_time" s_Lany_time ["_law_box"]
  d_Lrate : Df K mg "_law_rate" s_Lrate ["_law_box"]
  d_law : Df K mg "law" s_law ["_law_script"]
  m_abs : mg "abs" = none
  m_divmod : mg "divmod" = none
  m_list : mg "list" = none
  m_int : mg "int" = none
  m_len : mg "len" = none
  m_isinstance : mg "isinstance" = none
  m_bool : mg "bool" = none
  m_str : mg "str" = none
  m_tuple : mg "tuple" = none
  m_range : mg "range" = none
  c_SIXTY : ∃ u, mg "SIXTY" = some u ∧ RelV (.int 60) u
/-! ### fractions on the heap -/
def dF (q : Rat) : PyData := .tuple [.int q.num, .int (q.den : Int)]
theorem dF_at {K : PySem.W.Frag} {H : Hp} {v : V} {q : Rat} (h : Dp K H v (dF q)) : ∃ a, v = .ref a ∧ SqT K H a [.int q.num, .int (q.den : Int)] := by
  unfold dF at h
  cases h with
  | tup hs ha =>
    cases ha with
    | cons h1 h2 =>
      cases h1
      cases h2 with
      | cons h3 h4 =>
        cases h3
        cases h4
        exact ⟨_, rfl, hs⟩
theorem dF_mk {K : PySem.W.Frag} {H : Hp} {p : Addr} {q : Rat} (h : SqT K H p [.int q.num, .int (q.den : Int)]) : Dp K H (.ref p) (dF q) := .tup h (.cons (.int _) (.cons (.int _) .nil))
def spGcd : Sp := fun vs H Q _ => ∃ i j : Int, vs = [.int i, .int j] ∧ Q (.int (Nat.gcd i.natAbs j.natAbs : Nat)) H
def spMade (K : PySem.W.Frag) : Sp := fun vs H Q _ => ∃ t b : Int, vs = [.int t, .int b] ∧ b ≠ 0 ∧ b.natAbs < 2 ^ 9000 ∧ ∀ H' v, Same H H' → Dp K H' v (dF (Rat.divInt t b)) → Q v H'
def spF2 (K : PySem.W.Frag) (f : Rat → Rat → Rat) (C : Rat → Rat → Prop) : Sp := fun vs H Q _ => ∃ (u v : V) (x y : Rat) (n m : Nat), vs = [u, v] ∧ Dp K H u (dF x) ∧ Dp K H v (dF y) ∧ Sz n x ∧ Sz m y ∧ n + m ≤ 9000 ∧ C x y ∧
  ∀ H' z, Same H H' → Dp K H' z (dF (f x y)) → Q z H'
def spLow (K : PySem.W.Frag) : Sp := fun vs H Q _ => ∃ (u v : V) (x y : Rat) (n m : Nat), vs = [u, v] ∧ Dp K H u (dF x) ∧ Dp K H v (dF y) ∧ Sz n x ∧ Sz m y ∧ n + m ≤ 9000 ∧ Q (.bl (decide (x < y))) H
theorem Sz.pos {n : Nat} {x : Rat} (h : Sz n x) : 0 < n := by
  have h1 := h.den
  have h2 := x.den_nz
  cases n with
  | zero =>
    have : x.den < 1 := h1
    omega
  | succ n => exact Nat.succ_pos n
theorem mnd {n m : Nat} {x y : Rat} (hx : Sz n x) (hy : Sz m y) (h : n + m ≤ 9000) : CMulW x.num (y.den : Int) := wide_mul hx.num hy.den' hx.pos hy.pos (by omega)
theorem mnd' {n m : Nat} {x y : Rat} (hx : Sz n x) (hy : Sz m y) (h : n + m ≤ 9000) : CMulW y.num (x.den : Int) := wide_mul hy.num hx.den' hy.pos hx.pos (by omega)
theorem mdd {n m : Nat} {x y : Rat} (hx : Sz n x) (hy : Sz m y) (h : n + m ≤ 9000) : CMulW (x.den : Int) (y.den : Int) := wide_mul hx.den' hy.den' hx.pos hy.pos (by omega)
theorem mnn {n m : Nat} {x y : Rat} (hx : Sz n x) (hy : Sz m y) (h : n + m ≤ 9000) : CMulW x.num y.num := wide_mul hx.num hy.num hx.pos hy.pos (by omega)
theorem mdn {n m : Nat} {x y : Rat} (hx : Sz n x) (hy : Sz m y) (h : n + m ≤ 9000) : CMulW (x.den : Int) y.num := wide_mul hx.den' hy.num hx.pos hy.pos (by omega)
theorem up9 {i : Int} {n : Nat} (h : i.natAbs < 2 ^ n) (k : n ≤ 9000) : i.natAbs < 2 ^ 9000 := Nat.lt_of_lt_of_le h (Nat.pow_le_pow_right (by decide) k)
theorem num_zero {y : Rat} (h : y.num ≠ 0) : y ≠ 0 := fun e => h (by rw [e]; rfl)
theorem p20 {i : Int} (h : i.natAbs < 2 ^ 20) : i.natAbs < 2 ^ 9000 := Nat.lt_of_lt_of_le h (Nat.pow_le_pow_right (by decide) (by decide))
/-! ### the box of draws: a list of ints and a number, at b and l -/
def hid (b l : Addr) (H : Hp) : Hp := fun a => if a = b ∨ a = l then none else H a
structure Bx (H : Hp) (b l : Addr) : Prop where
  ne : b ≠ l
  ex : ∃ (xs : List Int) (st : Int), H b = some (.lst [.ref l, .int st]) ∧ H l = some (.lst (xs.map V.int))
theorem hid_b {b l : Addr} {H : Hp} {o : HO} : hid b l (upd H b o) = hid b l H := by
  funext a
  unfold hid upd
  split
  · rfl
  · rename_i h
    rw [if_neg (fun e => h (.inl e))]
theorem hid_l {b l : Addr} {H : Hp} {o : HO} : hid b l (upd H l o) = hid b l H := by
  funext a
  unfold hid upd
  split
  · rfl
  · rename_i h
    rw [if_neg (fun e => h (.inr e))]
theorem Same.hid {b l : Addr} {H H' : Hp} (s : Same H H') : Same (hid b l H) (hid b l H') := fun a o h => by
  unfold R.hid at h ⊢
  split at h
  · cases h
  · rename_i k
    rw [if_neg k]
    exact s _ _ h
theorem hid_same {b l : Addr} {H : Hp} : Same (hid b l H) H := fun a o h => by
  unfold hid at h
  split at h
  · cases h
  · exact h
theorem Bx.mono {b l : Addr} {H H' : Hp} (B : Bx H b l) (s : Same H H') : Bx H' b l := by
  obtain ⟨xs, st, h1, h2⟩ := B.ex
  exact ⟨B.ne, xs, st, s _ _ h1, s _ _ h2⟩
theorem dpa_ints {K : PySem.W.Frag} {H : Hp} : ∀ xs : List Int, DpAll K H (xs.map V.int) (xs.map PyData.int)
  | [] => .nil
  | _ :: r => .cons (.int _) (dpa_ints r)
theorem lay_ints : ∀ xs : List Int, PyData.canLayAll0 (xs.map PyData.int) = true
  | [] => rfl
  | _ :: r => by
    show (PyData.canLay0 _ && PyData.canLayAll0 (r.map PyData.int)) = true
    rw [lay_ints r]
    rfl
theorem depth_ints : ∀ xs : List Int, PyData.depthAll (xs.map PyData.int) = 0
  | [] => rfl
  | _ :: r => by
    show max (PyData.depth _) (PyData.depthAll (r.map PyData.int)) = 0
    rw [depth_ints r]
    rfl
theorem shaped_ints (xs : List Int) : SeqAt.shaped (.list (xs.map PyData.int)) = true := by
  unfold SeqAt.shaped
  rw [show PyData.canLay0 (.list (xs.map PyData.int)) = true from lay_ints xs, show PyData.depth (.list (xs.map PyData.int)) = 1 by
    show PyData.depthAll (xs.map PyData.int) + 1 = 1
    rw [depth_ints]]
  rfl
theorem fmod_rg {x m : Int} (h : 0 < m) : 0 ≤ x.fmod m ∧ x.fmod m < m := by
  rw [Int.fmod_eq_emod_of_nonneg _ (by omega)]
  exact ⟨Int.emod_nonneg _ (by omega), Int.emod_lt_of_pos _ h⟩
def spBegun (K : PySem.W.Frag) : Sp := fun vs H Q _ => ∃ (a : Addr) (ns : List Int), vs = [.ref a] ∧ SqL K H a (ns.map V.int) ∧ ∀ H' b l, Same H H' → H b = none → H l = none → Bx H' b l → Q (.ref b) H'
def spTake (K : PySem.W.Frag) : Sp := fun vs H Q _ => ∃ (b l : Addr) (m : Int), vs = [.ref b, .int m] ∧ Bx H b l ∧ 0 < m ∧ m < 1073741824 ∧ ∀ H' (r : Int), Same (hid b l H) (hid b l H') → Bx H' b l → 0 ≤ r → r < m → Q (.int r) H'
theorem ixN0 {n : Nat} : ixN (n + 1) 0 = some 0 := by
  unfold ixN
  rw [if_pos (by decide), if_pos (by omega)]
  rfl
theorem hid_at {b l p : Addr} {H : Hp} {o : HO} (B : Bx H b l) (hp : H p = none) : hid b l (upd H p o) p = some o := by
  obtain ⟨xs, st, h1, h2⟩ := B.ex
  unfold hid
  rw [if_neg, upd_same]
  rintro (e | e)
  · rw [e, h1] at hp
    cases hp
  · rw [e, h2] at hp
    cases hp
theorem hid_tup {K : PySem.W.Frag} {b l a : Addr} {H : Hp} {xs : List V} (B : Bx H b l) (h : SqT K H a xs) : SqT K (hid b l H) a xs := by
  obtain ⟨ys, st, h1, h2⟩ := B.ex
  have key : ∀ u : HO, H a = some u → (∀ zs, u ≠ .lst zs) → hid b l H a = some u := by
    intro u hu hn
    unfold hid
    rw [if_neg, hu]
    rintro (e | e)
    · rw [e, h1] at hu
      exact hn _ (Option.some.inj hu).symm
    · rw [e, h2] at hu
      exact hn _ (Option.some.inj hu).symm
  rcases h with (h | ⟨o, h⟩) | h
  · exact .inl (.inl (key _ h (fun _ z => nomatch z)))
  · exact .inl (.inr ⟨o, key _ h (fun _ z => nomatch z)⟩)
  · exact .inr h
theorem frac_hid {K : PySem.W.Frag} {b l : Addr} {H : Hp} {v : V} {q : Rat} (B : Bx H b l) (h : Dp K H v (dF q)) : Dp K (hid b l H) v (dF q) := by
  obtain ⟨a, rfl, h2⟩ := dF_at h
  exact dF_mk (hid_tup B h2)
theorem frac_keep {K : PySem.W.Frag} {b l : Addr} {H H' : Hp} {v : V} {q : Rat} (h : Dp K H v (dF q)) (B : Bx H b l) (s : Same (hid b l H) (hid b l H')) : Dp K H' v (dF q) := dp_mono hid_same _ _ (dp_mono s _ _ (frac_hid B h))
/-! ### alike: the same data -/
theorem iteY {c : Bool} {A B : Prop} (h : c = true) (a : A) : if c = true then A else B := by
  rw [if_pos h]
  exact a
theorem iteN {c : Bool} {A B : Prop} (h : c = false) (b : B) : if c = true then A else B := by
  rw [if_neg (by rw [h]; exact Bool.false_ne_true)]
  exact b
theorem tyL {K : PySem.W.Frag} {H : Hp} {a : Addr} {xs : List V} (h : SqL K H a xs) : TyX K H (.ref a) (.type "list") := by
  rcases h with (h | ⟨o, h⟩) | ⟨o, its, n, h1, h2, _⟩
  · exact .base (.lst h)
  · exact .base (.frz h)
  · exact .kList h1 h2
theorem tyT {K : PySem.W.Frag} {H : Hp} {a : Addr} {xs : List V} (h : SqT K H a xs) : TyX K H (.ref a) (.type "tuple") := by
  rcases h with (h | ⟨o, h⟩) | ⟨o, its, n, h1, h2, _⟩
  · exact .base (.tup h)
  · exact .fTuple h
  · exact .kTuple h1 h2
theorem rIx_of {K : PySem.W.Frag} {H : Hp} {a : Addr} {xs : List V} {j : Nat} {v : V} {Q : VK} (h : SqL K H a xs ∨ SqT K H a xs) (hv : xs[j]? = some v) (q : Q v H) : rIx K (.ref a) (.int (j : Int)) H Q := by
  rcases h with h | h
  · exact .inl ⟨_, _, _, _, rfl, rfl, h, atI_nat hv, q⟩
  · exact .inr (.inl ⟨_, _, _, _, rfl, rfl, h, atI_nat hv, q⟩)
mutual
def szOk : PyData → Bool
  | .list xs | .tuple xs => decide (xs.length < 2 ^ 62) && szAll xs
  | _ => true
def szAll : List PyData → Bool
  | [] => true
  | x :: xs => szOk x && szAll xs
end
theorem szAll_at : ∀ {ds : List PyData} {i : Nat} {d : PyData}, szAll ds = true → ds[i]? = some d → szOk d = true
  | [], _, _, _, h => by simp at h
  | x :: r, 0, d, a, h => by
    have e : x = d := Option.some.inj h
    have := Bool.and_eq_true_iff.mp (show (szOk x && szAll r) = true from a)
    rw [← e]
    exact this.1
  | x :: r, i + 1, d, a, h => szAll_at (ds := r) (i := i) (Bool.and_eq_true_iff.mp (show (szOk x && szAll r) = true from a)).2 h
theorem depth_at : ∀ {ds : List PyData} {i : Nat} {d : PyData}, ds[i]? = some d → d.depth ≤ PyData.depthAll ds
  | [], _, _, h => by simp at h
  | x :: r, 0, d, h => by
    have e : x = d := Option.some.inj h
    rw [← e]
    exact Nat.le_max_left _ _
  | x :: r, i + 1, d, h => Nat.le_trans (depth_at (ds := r) (i := i) h) (Nat.le_max_right _ _)
theorem dpa_at {K : PySem.W.Frag} {H : Hp} : ∀ {vs : List V} {ds : List PyData} {i : Nat} {v : V}, DpAll K H vs ds → vs[i]? = some v → ∃ d, ds[i]? = some d ∧ Dp K H v d
  | [], _, _, _, _, h => by simp at h
  | x :: r, _, 0, v, .cons h1 h2, h => by
    have e : x = v := Option.some.inj h
    rw [← e]
    exact ⟨_, rfl, h1⟩
  | x :: r, _, i + 1, v, .cons h1 h2, h => dpa_at (vs := r) (i := i) h2 h
theorem dpa_len {K : PySem.W.Frag} {H : Hp} : ∀ {vs : List V} {ds : List PyData}, DpAll K H vs ds → vs.length = ds.length
  | _, _, .nil => rfl
  | _, _, .cons _ h => by rw [List.length_cons, List.length_cons, dpa_len h]
def spAlike (K : PySem.W.Frag) (n : Nat) : Sp := fun vs H Q _ => ∃ (u v : V) (d : PyData), vs = [u, v] ∧ Dp K H u d ∧ Dp K H v d ∧ d.depth < n ∧ szOk d = true ∧ Q (.bl true) H
/-! ### the texts of times -/
def qw (q : Rat) : Int := q.num / (q.den : Int)
def qr (q : Rat) : Int := q.num % (q.den : Int)
structure Bd (n : Int) (q : Rat) : Prop where
  pos : 0 ≤ q.num
  num : q.num < n
  den : (q.den : Int) < n
def rs (t b : Int) : Str := if t = 0 then Str.empty else (" " : Str) ++ (sI t ++ (("/" : Str) ++ sI b))
def mixT (q : Rat) : Str := sI (qw q) ++ rs (qr q) (q.den : Int)
def framesT (q : Rat) : Str := mixT q ++ ("f" : Str)
def secondsT (q : Rat) (r : Int) : Str := mixT (q / (r : Rat)) ++ ("s" : Str)
def clockT (q : Rat) (r : Int) : Str := (sI (qw q / r / 3600) ++ ((":" : Str) ++ (pad2 (qw q / r / 60 % 60) ++ ((":" : Str) ++ (pad2 (qw q / r % 60) ++ ((":" : Str) ++ pad2 (qw q % r))))))) ++ rs (qr q) (q.den : Int)
theorem qf {q : Rat} : q.num.fdiv (q.den : Int) = qw q := Int.fdiv_eq_ediv_of_nonneg _ (by omega)
theorem qm {q : Rat} : q.num.fmod (q.den : Int) = qr q := Int.fmod_eq_emod_of_nonneg _ (by omega)
theorem qw_rg {q : Rat} {n : Int} (h : Bd n q) : 0 ≤ qw q ∧ qw q < n := by
  have h1 := den_pos q
  have h2 := h.pos
  have h3 := h.num
  have h4 : q.num / (q.den : Int) ≤ q.num := Int.ediv_le_self _ h2
  exact ⟨Int.ediv_nonneg h2 (by omega), by unfold qw; omega⟩
theorem qr_rg {q : Rat} {n : Int} (h : Bd n q) : 0 ≤ qr q ∧ qr q < n := by
  have h1 := den_pos q
  have h3 := h.den
  have := Int.emod_lt_of_pos q.num h1
  exact ⟨Int.emod_nonneg _ (by omega), by unfold qr; omega⟩
theorem cdq {q : Rat} {i : Int} (h : Bd (10 ^ 30) q) : CDivX i (q.den : Int) := cdiv (b := 100) (den_ne q) (by have := h.den; omega) (by decide) (by decide)
theorem rs_len {t b : Int} (t0 : 0 ≤ t) (t1 : t < 10 ^ 30) (b0 : 0 ≤ b) (b1 : b < 10 ^ 30) : (rs t b).length ≤ 62 := by
  unfold rs
  split
  · exact Nat.zero_le _
  · have := sI_len t0 t1
    have := sI_len b0 b1
    rw [slen, slen, slen]
    show 1 + (_ + (1 + _)) ≤ 62
    omega
theorem mix_len {q : Rat} (h : Bd (10 ^ 30) q) : (mixT q).length ≤ 92 := by
  have := sI_len (qw_rg h).1 (qw_rg h).2
  have := rs_len (qr_rg h).1 (qr_rg h).2 (show 0 ≤ (q.den : Int) by omega) h.den
  unfold mixT
  rw [slen]
  omega
theorem Bd.mono {n m : Int} {q : Rat} (h : Bd n q) (k : n ≤ m) : Bd m q := ⟨h.pos, by have := h.num; omega, by have := h.den; omega⟩
theorem div_rate (q : Rat) (r : Int) : Rat.divInt q.num ((q.den : Int) * r) = q / (r : Rat) := by
  rw [← div_parts q (r : Rat)]
  show _ = Rat.divInt (q.num * ((1 : Nat) : Int)) ((q.den : Int) * r)
  rw [show ((1 : Nat) : Int) = 1 from rfl, Int.mul_one]
theorem bd_rate {q : Rat} {r : Int} (h : Bd (10 ^ 27) q) (r0 : 0 < r) (r1 : r ≤ 120) : Bd (10 ^ 30) (q / (r : Rat)) := by
  have hd := den_pos q
  have hne : (q.den : Int) * r ≠ 0 := Int.mul_ne_zero (den_ne q) (by omega)
  rw [← div_rate]
  have h1 := divInt_num_le q.num ((q.den : Int) * r)
  have h2 := divInt_den_le (t := q.num) hne
  have h3 := h.num
  have h4 := h.den
  have h5 := h.pos
  have h7 : (q.den : Int) * r ≤ (q.den : Int) * 120 := Int.mul_le_mul_of_nonneg_left r1 (by omega)
  have h8 : 0 < (q.den : Int) * r := Int.mul_pos hd r0
  refine ⟨?_, by omega, by omega⟩
  rw [← fr_num hne]
  unfold frI
  rw [if_neg (by omega), Int.fdiv_eq_ediv_of_nonneg _ (by omega)]
  exact Int.ediv_nonneg h5 (by omega)
theorem sz_of_bd {n : Nat} {q : Rat} (h : Bd (2 ^ n : Nat) q) : Sz n q := ⟨by have := h.pos; have := h.num; omega, by have := h.den; omega⟩
theorem bd100 {q : Rat} (h : Bd (10 ^ 30) q) : Sz 100 q := ⟨by have := h.pos; have := h.num; omega, by have := h.den; omega⟩
theorem sz60 {n : Nat} (h : n ≤ 1000) : n ≤ sizeLine := Nat.le_trans h (by decide)
def spRest : Sp := fun vs H Q _ => ∃ (x : Str) (t b : Int), vs = [.str x, .int t, .int b] ∧ x.length ≤ 500 ∧ 0 ≤ t ∧ t < 10 ^ 30 ∧ 0 ≤ b ∧ b < 10 ^ 30 ∧ Q (.str (x ++ rs t b)) H
def spMix (K : PySem.W.Frag) (n : Int) (g : Rat → Str) : Sp := fun vs H Q _ => ∃ (v : V) (q : Rat), vs = [v] ∧ Dp K H v (dF q) ∧ Bd n q ∧ Q (.str (g q)) H
def spTxt2 (K : PySem.W.Frag) (g : Rat → Int → Str) : Sp := fun vs H Q _ => ∃ (v : V) (q : Rat) (r : Int), vs = [v, .int r] ∧ Dp K H v (dF q) ∧ Bd (10 ^ 27) q ∧ 0 < r ∧ r ≤ 120 ∧ ∀ H', Same H H' → Q (.str (g q r)) H'
section
variable {P : Program} {w : World} {K : PySem.W.Frag} {mg : Str → Option Value} {base : Heap}
theorem cl_common_divisor (T : Txt K mg) : Cl P w K mg base CX0 1 "common_divisor" spGcd := by
  refine T.d_common_divisor.cl sc_common_divisor (fun vs H Q E h => ?_) (fun f cdv A outer s H vs Q E hr h => ?_)
  · obtain ⟨i, j, rfl, _⟩ := h
    rfl
  · obtain ⟨i, j, rfl, q⟩ := h
    refine ⟨_, (pss_cons (ps_set (i := 0) sc_common_divisor.nd rfl (.inl rfl) (pe_callB call_abs (by rfl) T.m_abs (by decide +kernel) (pa_cons (pv 0) pa_nil)))
      (pss_cons (ps_set (i := 1) sc_common_divisor.nd rfl (.inl rfl) (pe_callB call_abs (by rfl) T.m_abs (by decide +kernel) (pa_cons (pv 1) pa_nil)))
      (pss_cons (ps_while PassesOwn.never (pt_cmpR op_gt (pv 1) pe_int (nomark _))
        (pss_one (ps_par (i := 0) (j := 1) (by rfl) sc_common_divisor.nd rfl rfl (by decide) rfl rfl (pa_cons (pv 1) (pa_cons (pe_op op_modN (pv 0) (pv 1)) pa_nil)) (by rfl))))
      (pss_one (ps_ret (pv 0)))))), ?_⟩
    refine ⟨_, rfl, _, rfl, _, rfl, _, rfl, ?_⟩
    refine while_by (fun σ H' => ∃ a b : Nat, σ = [some (.int (a : Int)), some (.int (b : Int))] ∧ H' = H ∧ Nat.gcd a b = Nat.gcd i.natAbs j.natAbs) (fun σ _ => match σ with | [_, some (.int b)] => b.natAbs | _ => 0) ?_ ?_ ?_
    · refine ⟨i.natAbs, j.natAbs, ?_, rfl, rfl⟩
      show [some (V.int (if i < 0 then -i else i)), some (V.int (if j < 0 then -j else j))] = _
      rw [abs_nat, abs_nat]
    · intro σ H' h
      obtain ⟨a, b, rfl, rfl, e⟩ := h
      refine ⟨_, rfl, _, _, rfl, rfl, _, rfl, ite2 (fun z => ?_) (fun z => ?_)⟩
      · have hb : 0 < b := by
          have := of_decide_eq_true z
          omega
        refine ⟨_, rfl, _, rfl, _, rfl, _, _, rfl, rfl, (by omega), _, _, rfl, ⟨b, a % b, ?_, rfl, ?_⟩, ?_⟩
        · show [some (V.int (b : Int)), some (V.int ((a : Int).fmod (b : Int)))] = _
          rw [fmod_nat]
        · rw [gcd_turn]
          exact e
        · show Int.natAbs (Int.fmod (a : Int) (b : Int)) < Int.natAbs (b : Int)
          rw [fmod_nat]
          have := Nat.mod_lt a hb
          omega
      · have hb : b = 0 := by
          have z2 : ¬ ((0 : Int) < (b : Int)) := fun y => z (decide_eq_true y)
          omega
        subst hb
        refine ⟨_, rfl, ?_⟩
        rw [Nat.gcd_zero_right] at e
        rw [← e] at q
        exact q
    · intro σ H' Q1 Q2 h12 h
      obtain ⟨v, e, i, j, e1, e2, k, e3, h⟩ := h
      exact ⟨v, e, i, j, e1, e2, k, e3, h12 _ _ h⟩
theorem cl_made (T : Txt K mg) : Cl P w K mg base CX0 2 "made" (spMade K) := by
  have c_common_divisor := cl_common_divisor (P := P) (w := w) (base := base) T
  refine T.d_made.cl sc_made (fun vs H Q E h => ?_) (fun f cdv A outer s H vs Q E hr h => ?_)
  · obtain ⟨i, j, rfl, _⟩ := h
    rfl
  · obtain ⟨t, b, rfl, hb, hs, q⟩ := h
    refine ⟨_, (pss_cons (ps_set (i := 2) sc_made.nd rfl (.inl rfl) (pe_cl c_common_divisor hr (by decide) (by rfl) (pa_cons (pv 0) (pa_cons (pv 1) pa_nil))))
      (pss_cons (ps_if (pt_cmpR op_lt (pv 1) pe_int (nomark _))
        (pss_one (ps_set (i := 2) sc_made.nd rfl (.inl rfl) (pe_un un_neg (pv 2))))
        pss_nil)
      (pss_one (ps_ret (pe_tup (pa_cons (pe_op op_fdivX (pv 0) (pv 2)) (pa_cons (pe_op op_fdivX (pv 1) (pv 2)) pa_nil))))))), ?_⟩
    have last : ∀ d : Int, d = frI t b → ∀ p, H p = none → Q (.ref p) (upd H p (.tup [.int (t.fdiv d), .int (b.fdiv d)])) := by
      intro d e p hp
      subst e
      refine q _ _ (Same.new hp) (dF_mk ?_)
      rw [fr_num hb, fr_den hb]
      exact .inl (.inl upd_same)
    have hd : ∀ d : Int, d = frI t b → CDivX t d ∧ CDivX b d := by
      intro d e
      subst e
      have h1 := Nat.lt_of_le_of_lt (frI_natAbs (t := t) hb) hs
      exact ⟨cdiv (frI_ne hb) h1 (by decide) (by decide), cdiv (frI_ne hb) h1 (by decide) (by decide)⟩
    refine ⟨_, rfl, _, rfl, _, _, rfl, _, rfl, _, _, rfl, rfl, _, rfl, ite2 (fun z => ?_) (fun z => ?_)⟩
    · have z1 : b < 0 := of_decide_eq_true z
      have e : -((Nat.gcd t.natAbs b.natAbs : Nat) : Int) = frI t b := by
        unfold frI
        rw [if_pos z1]
      refine ⟨_, rfl, _, rfl, _, rfl, _, rfl, _, _, rfl, rfl, (hd _ e).1, _, rfl, _, rfl, _, _, rfl, rfl, (hd _ e).2, (show 2 ≤ sizeLine by decide), fun p hp => last _ e p hp⟩
    · have z1 : ¬ b < 0 := fun y => z (decide_eq_true y)
      have e : ((Nat.gcd t.natAbs b.natAbs : Nat) : Int) = frI t b := by
        unfold frI
        rw [if_neg z1]
      refine ⟨_, rfl, _, rfl, _, _, rfl, rfl, (hd _ e).1, _, rfl, _, rfl, _, _, rfl, rfl, (hd _ e).2, (show 2 ≤ sizeLine by decide), fun p hp => last _ e p hp⟩
theorem cl_over (T : Txt K mg) : Cl P w K mg base CX0 3 "over" (spF2 K (fun x y => x / y) (fun x y => y ≠ 0)) := by
  have c_made := cl_made (P := P) (w := w) (base := base) T
  refine T.d_over.cl sc_over (fun vs H Q E h => ?_) (fun f cdv A outer s H vs Q E hr h => ?_)
  · obtain ⟨u, v, x, y, n, m, rfl, _⟩ := h
    rfl
  · obtain ⟨u, v, x, y, n, m, rfl, hu, hv, sx, sy, hnm, hc, q⟩ := h
    obtain ⟨a, rfl, h0⟩ := dF_at hu
    obtain ⟨b, rfl, h1⟩ := dF_at hv
    refine ⟨_, (pss_one (ps_ret (pe_cl c_made hr (by decide) (by rfl) (pa_cons (pe_op op_mulW (pe_ix ix_tup (pv 0) pe_int (fun _ _ => rfl)) (pe_ix ix_tup (pv 1) pe_int (fun _ _ => rfl))) (pa_cons (pe_op op_mulW (pe_ix ix_tup (pv 0) pe_int (fun _ _ => rfl)) (pe_ix ix_tup (pv 1) pe_int (fun _ _ => rfl))) pa_nil))))), ?_⟩
    refine ⟨_, rfl, _, _, _, _, rfl, rfl, h0, atI_nat (j := 0) rfl, _, rfl, _, _, _, _, rfl, rfl, h1, atI_nat (j := 1) rfl, _, _, rfl, rfl, mnd sx sy hnm, _, rfl, _, _, _, _, rfl, rfl, h0, atI_nat (j := 1) rfl, _, rfl, _, _, _, _, rfl, rfl, h1, atI_nat (j := 0) rfl, _, _, rfl, rfl, mdn sx sy hnm, _, _, rfl, ?_, ?_, fun H2 z s2 r2 => ?_⟩
    · exact Int.mul_ne_zero (den_ne x) (num_ne hc)
    · exact up9 (mul_bits sx.den' sy.num) hnm
    · change Dp K H2 z (dF (Rat.divInt (x.num * (y.den : Int)) ((x.den : Int) * y.num))) at r2
      rw [div_parts] at r2
      exact q _ _ s2 r2
theorem cl_with_rest (T : Txt K mg) : Cl P w K mg base CX0 1 "with_rest" spRest := by
  refine T.d_with_rest.cl sc_with_rest (fun vs H Q E h => ?_) (fun f cdv A outer s H vs Q E hr h => ?_)
  · obtain ⟨x, t, b, rfl, _⟩ := h
    rfl
  · obtain ⟨x, t, b, rfl, hx, t0, t1, b0, b1, q⟩ := h
    refine ⟨_, (pss_cons (ps_if (pt_cmpR op_eq (pv 1) pe_int (nomark _))
        (pss_one (ps_ret (pv 0)))
        pss_nil)
      (pss_one (ps_ret (pe_joined (.cons (pe_fmt (pv 0)) (.cons pe_str (.cons (pe_fmt (pv 1)) (.cons pe_str (.cons (pe_fmt (pv 2)) .nil))))))))), ?_⟩
    refine ⟨_, rfl, rfl, _, rfl, ite2 (fun z => ?_) (fun z => ?_)⟩
    · have e : t = 0 := V.int.inj (of_decide_eq_true z)
      refine ⟨_, rfl, ?_⟩
      unfold rs at q
      rw [if_pos e, sapp_nil] at q
      exact q
    · have e : t ≠ 0 := fun e => z (by rw [e]; rfl)
      have l1 := sI_len t0 t1
      have l2 := sI_len b0 b1
      unfold rs at q
      rw [if_neg e] at q
      refine ⟨_, rfl, .inl ⟨_, rfl, sz60 (by omega), _, rfl, sz60 (by rw [nil_sapp]; omega), ?_⟩⟩
      rw [nil_sapp]
      refine ⟨_, rfl, sz60 (by rw [slen]; show x.length + 1 ≤ 1000; omega), ?_⟩
      refine ⟨_, rfl, .inr ⟨_, rfl, lg t0 t1, _, rfl, ?_, ?_⟩⟩
      · refine sz60 ?_
        rw [slen, slen]
        show x.length + 1 + (sI t).length ≤ 1000
        omega
      refine ⟨_, rfl, ?_, ?_⟩
      · refine sz60 ?_
        rw [slen, slen, slen]
        show x.length + 1 + (sI t).length + 1 ≤ 1000
        omega
      refine ⟨_, rfl, .inr ⟨_, rfl, lg b0 b1, _, rfl, ?_, ?_⟩⟩
      · refine sz60 ?_
        rw [slen, slen, slen, slen]
        show x.length + 1 + (sI t).length + 1 + (sI b).length ≤ 1000
        omega
      show Q (.str ((((x ++ (" " : Str)) ++ sI t) ++ ("/" : Str)) ++ sI b)) H
      rw [sapp, sapp, sapp]
      exact q
theorem cl_as_mixed (T : Txt K mg) : Cl P w K mg base CX0 2 "as_mixed" (spMix K (10 ^ 30) mixT) := by
  have c_with_rest := cl_with_rest (P := P) (w := w) (base := base) T
  refine T.d_as_mixed.cl sc_as_mixed (fun vs H Q E h => ?_) (fun f cdv A outer s H vs Q E hr h => ?_)
  · obtain ⟨v, q, rfl, _⟩ := h
    rfl
  · obtain ⟨v, x, rfl, hv, bd, q⟩ := h
    obtain ⟨a, rfl, h0⟩ := dF_at hv
    refine ⟨_, (pss_cons (ps_asg (pv 0) (pg_tup rfl (pgs_cons (pg_name (i := 1) sc_as_mixed.nd rfl (.inl rfl)) (pgs_cons (pg_name (i := 2) sc_as_mixed.nd rfl (.inl rfl)) pgs_nil))))
      (pss_one (ps_ret (pe_cl c_with_rest hr (by decide) (by rfl) (pa_cons (pe_joined1 (pe_fmt (pe_op op_fdivX (pv 1) (pv 2)))) (pa_cons (pe_op op_modN (pv 1) (pv 2)) (pa_cons (pv 2) pa_nil))))))), ?_⟩
    refine ⟨_, rfl, a, _, rfl, h0, rfl, _, _, rfl, _, _, rfl, rfl, ?_⟩
    refine ⟨_, rfl, _, rfl, _, _, rfl, rfl, cdq bd, ?_⟩
    have e1 : (fun i j : Int => V.int (i.fdiv j)) x.num (x.den : Int) = .int (qw x) := by
      show V.int (x.num.fdiv (x.den : Int)) = _
      rw [qf]
    rw [e1]
    refine .inr ⟨_, rfl, lg (qw_rg bd).1 (qw_rg bd).2, _, rfl, _, rfl, _, _, rfl, rfl, den_ne x, _, rfl, ?_⟩
    have e2 : (fun i j : Int => V.int (i.fmod j)) x.num (x.den : Int) = .int (qr x) := by
      show V.int (x.num.fmod (x.den : Int)) = _
      rw [qm]
    rw [e2]
    refine ⟨_, _, _, rfl, ?_, (qr_rg bd).1, (qr_rg bd).2, (by omega), bd.den, q⟩
    have := sI_len (qw_rg bd).1 (qw_rg bd).2
    show (sI (qw x)).length ≤ 500
    omega
theorem cl_as_frames (T : Txt K mg) : Cl P w K mg base CX0 3 "as_frames" (spMix K (10 ^ 30) framesT) := by
  have c_as_mixed := cl_as_mixed (P := P) (w := w) (base := base) T
  refine T.d_as_frames.cl sc_as_frames (fun vs H Q E h => ?_) (fun f cdv A outer s H vs Q E hr h => ?_)
  · obtain ⟨v, q, rfl, _⟩ := h
    rfl
  · obtain ⟨v, x, rfl, hv, bd, q⟩ := h
    refine ⟨_, (pss_one (ps_ret (pe_op op_add_str (pe_cl c_as_mixed hr (by decide) (by rfl) (pa_cons (pv 0) pa_nil)) pe_str))), ?_⟩
    refine ⟨_, rfl, _, x, rfl, hv, bd, _, _, rfl, rfl, ?_, q⟩
    have := mix_len bd
    exact sz60 (show (mixT x).length + 1 ≤ 1000 by omega)
theorem cl_as_seconds (T : Txt K mg) : Cl P w K mg base CX0 4 "as_seconds" (spTxt2 K secondsT) := by
  have c_as_mixed := cl_as_mixed (P := P) (w := w) (base := base) T
  have c_over := cl_over (P := P) (w := w) (base := base) T
  refine T.d_as_seconds.cl sc_as_seconds (fun vs H Q E h => ?_) (fun f cdv A outer s H vs Q E hr h => ?_)
  · obtain ⟨v, q, r, rfl, _⟩ := h
    rfl
  · obtain ⟨v, x, r, rfl, hv, bd, r0, r1, q⟩ := h
    refine ⟨_, (pss_one (ps_ret (pe_op op_add_str (pe_cl c_as_mixed hr (by decide) (by rfl) (pa_cons (pe_cl c_over hr (by decide) (by rfl) (pa_cons (pv 0) (pa_cons (pe_tup (pa_cons (pv 1) (pa_cons pe_int pa_nil))) pa_nil))) pa_nil)) pe_str))), ?_⟩
    refine ⟨_, rfl, _, rfl, (show 2 ≤ sizeLine by decide), fun p hp => ?_⟩
    have s1 : Same H (upd H p (.tup [.int r, .int 1])) := Same.new hp
    have hr1 : Dp K (upd H p (.tup [.int r, .int 1])) (.ref p) (dF (r : Rat)) := dF_mk (.inl (.inl upd_same))
    refine ⟨_, _, x, (r : Rat), 100, 100, rfl, dp_mono s1 _ _ hv, hr1, bd100 (bd.mono (by decide)), sz_int (by decide) (by omega), by decide, ?_, fun H2 z s2 z2 => ?_⟩
    · exact num_zero (show r ≠ 0 by omega)
    refine ⟨_, _, rfl, z2, bd_rate bd r0 r1, _, _, rfl, rfl, ?_, q _ (s1.trans s2)⟩
    have := mix_len (bd_rate bd r0 r1)
    exact sz60 (show (mixT (x / (r : Rat))).length + 1 ≤ 1000 by omega)
theorem cl_as_clock (T : Txt K mg) : Cl P w K mg base CX0 2 "as_clock" (spTxt2 K clockT) := by
  have c_with_rest := cl_with_rest (P := P) (w := w) (base := base) T
  refine T.d_as_clock.cl sc_as_clock (fun vs H Q E h => ?_) (fun f cdv A outer s H vs Q E hr h => ?_)
  · obtain ⟨v, q, r, rfl, _⟩ := h
    rfl
  · obtain ⟨v, x, r, rfl, hv, bd, r0, r1, q⟩ := h
    obtain ⟨a, rfl, h0⟩ := dF_at hv
    have bd2 : Bd (10 ^ 30) x := bd.mono (by decide)
    refine ⟨_, (pss_cons (ps_asg (pv 0) (pg_tup rfl (pgs_cons (pg_name (i := 2) sc_as_clock.nd rfl (.inl rfl)) (pgs_cons (pg_name (i := 3) sc_as_clock.nd rfl (.inl rfl)) pgs_nil))))
      (pss_cons (ps_asg (pe_callB call_divmod (by rfl) T.m_divmod (by decide +kernel) (pa_cons (pe_op op_fdivX (pv 2) (pv 3)) (pa_cons (pv 1) pa_nil))) (pg_tup rfl (pgs_cons (pg_name (i := 4) sc_as_clock.nd rfl (.inl rfl)) (pgs_cons (pg_name (i := 5) sc_as_clock.nd rfl (.inl rfl)) pgs_nil))))
      (pss_cons (ps_asg (pe_callB call_divmod (by rfl) T.m_divmod (by decide +kernel) (pa_cons (pv 4) (pa_cons (pe_gl (by rfl) T.c_SIXTY) pa_nil))) (pg_tup rfl (pgs_cons (pg_name (i := 6) sc_as_clock.nd rfl (.inl rfl)) (pgs_cons (pg_name (i := 4) sc_as_clock.nd rfl (.inl rfl)) pgs_nil))))
      (pss_cons (ps_asg (pe_callB call_divmod (by rfl) T.m_divmod (by decide +kernel) (pa_cons (pv 6) (pa_cons (pe_gl (by rfl) T.c_SIXTY) pa_nil))) (pg_tup rfl (pgs_cons (pg_name (i := 7) sc_as_clock.nd rfl (.inl rfl)) (pgs_cons (pg_name (i := 6) sc_as_clock.nd rfl (.inl rfl)) pgs_nil))))
      (pss_cons (ps_set (i := 8) sc_as_clock.nd rfl (.inl rfl) (pe_joined (.cons (pe_fmt (pv 7)) (.cons pe_str (.cons (pe_fmt02 (pv 6)) (.cons pe_str (.cons (pe_fmt02 (pv 4)) (.cons pe_str (.cons (pe_fmt02 (pv 5)) .nil)))))))))
      (pss_one (ps_ret (pe_cl c_with_rest hr (by decide) (by rfl) (pa_cons (pv 8) (pa_cons (pe_op op_modN (pv 2) (pv 3)) (pa_cons (pv 3) pa_nil))))))))))), ?_⟩
    refine ⟨_, rfl, a, _, rfl, h0, rfl, _, _, rfl, _, _, rfl, rfl, ?_⟩
    refine ⟨_, rfl, _, rfl, _, _, rfl, rfl, cdq bd2, _, rfl, ?_⟩
    have e1 : (fun i j : Int => V.int (i.fdiv j)) x.num (x.den : Int) = .int (qw x) := by
      show V.int (x.num.fdiv (x.den : Int)) = _
      rw [qf]
    rw [e1]
    refine ⟨_, _, rfl, ⟨r0, by omega⟩, fun p1 hp1 => ?_⟩
    refine ⟨p1, _, rfl, .inl (.inl upd_same), rfl, _, _, rfl, _, _, rfl, rfl, ?_⟩
    refine ⟨_, rfl, _, _, rfl, ⟨by decide, by decide⟩, fun p2 hp2 => ?_⟩
    refine ⟨p2, _, rfl, .inl (.inl upd_same), rfl, _, _, rfl, _, _, rfl, rfl, ?_⟩
    refine ⟨_, rfl, _, _, rfl, ⟨by decide, by decide⟩, fun p3 hp3 => ?_⟩
    refine ⟨p3, _, rfl, .inl (.inl upd_same), rfl, _, _, rfl, _, _, rfl, rfl, ?_⟩
    have s3 := ((Same.new (o := .tup [.int (qw x / r), .int (qw x % r)]) hp1).trans (Same.new hp2)).trans (Same.new (o := .tup [.int (qw x / r / 60 / 60), .int (qw x / r / 60 % 60)]) hp3)
    generalize upd (upd (upd H p1 (HO.tup [V.int (qw x / r), V.int (qw x % r)])) p2 (HO.tup [V.int (qw x / r / 60), V.int (qw x / r % 60)])) p3 (.tup [.int (qw x / r / 60 / 60), .int (qw x / r / 60 % 60)]) = H3 at s3 ⊢
    have g := qw_rg bd
    have hwn : 0 ≤ qw x / r := Int.ediv_nonneg g.1 (by omega)
    have hwl : qw x / r ≤ qw x := Int.ediv_le_self _ g.1
    have hm0 : 0 ≤ qw x % r := Int.emod_nonneg _ (by omega)
    have hm1 : qw x % r < r := Int.emod_lt_of_pos _ r0
    generalize eS : qw x / r = S at hwn hwl s3 ⊢
    generalize eF : qw x % r = Fr at hm0 hm1 s3 ⊢
    have a0 : 0 ≤ S / 60 / 60 := by omega
    have a1 : S / 60 / 60 < 10 ^ 30 := by omega
    have b0 : 0 ≤ S / 60 % 60 := by omega
    have b1 : S / 60 % 60 < 10 ^ 30 := by omega
    have c0 : 0 ≤ S % 60 := by omega
    have c1 : S % 60 < 10 ^ 30 := by omega
    have d1 : Fr < 10 ^ 30 := by omega
    have lA := sI_len a0 a1
    have lB := pad2_len b0 b1
    have lC := pad2_len c0 c1
    have lD := pad2_len hm0 d1
    refine ⟨_, rfl, .inr ⟨_, rfl, lg a0 a1, _, rfl, sz60 (by rw [nil_sapp]; show (sI (S / 60 / 60)).length ≤ 1000; omega), ?_⟩⟩
    rw [nil_sapp]
    refine ⟨_, rfl, sz60 (by rw [slen]; show (sI (S / 60 / 60)).length + 1 ≤ 1000; omega), ?_⟩
    refine ⟨_, rfl, _, rfl, b0, b1, _, rfl, sz60 (by rw [slen, slen]; show (sI (S / 60 / 60)).length + 1 + (pad2 (S / 60 % 60)).length ≤ 1000; omega), ?_⟩
    refine ⟨_, rfl, sz60 (by rw [slen, slen, slen]; show (sI (S / 60 / 60)).length + 1 + (pad2 (S / 60 % 60)).length + 1 ≤ 1000; omega), ?_⟩
    refine ⟨_, rfl, _, rfl, c0, c1, _, rfl, sz60 (by rw [slen, slen, slen, slen]; show (sI (S / 60 / 60)).length + 1 + (pad2 (S / 60 % 60)).length + 1 + (pad2 (S % 60)).length ≤ 1000; omega), ?_⟩
    refine ⟨_, rfl, sz60 (by rw [slen, slen, slen, slen, slen]; show (sI (S / 60 / 60)).length + 1 + (pad2 (S / 60 % 60)).length + 1 + (pad2 (S % 60)).length + 1 ≤ 1000; omega), ?_⟩
    refine ⟨_, rfl, _, rfl, hm0, d1, _, rfl, sz60 (by rw [slen, slen, slen, slen, slen, slen]; show (sI (S / 60 / 60)).length + 1 + (pad2 (S / 60 % 60)).length + 1 + (pad2 (S % 60)).length + 1 + (pad2 Fr).length ≤ 1000; omega), ?_⟩
    refine ⟨_, rfl, _, rfl, _, rfl, _, _, rfl, rfl, den_ne x, _, rfl, ?_⟩
    have e2 : (fun i j : Int => V.int (i.fmod j)) x.num (x.den : Int) = .int (qr x) := by
      show V.int (x.num.fmod (x.den : Int)) = _
      rw [qm]
    rw [e2]
    refine ⟨_, _, _, rfl, ?_, (qr_rg bd2).1, (qr_rg bd2).2, (by omega), bd2.den, ?_⟩
    · rw [slen, slen, slen, slen, slen, slen]
      show (sI (S / 60 / 60)).length + 1 + (pad2 (S / 60 % 60)).length + 1 + (pad2 (S % 60)).length + 1 + (pad2 Fr).length ≤ 500
      omega
    · have q2 := q _ s3
      unfold clockT at q2
      rw [eS, eF, show S / 3600 = S / 60 / 60 by omega] at q2
      show Q (.str ((((((((sI (S / 60 / 60)) ++ (":" : Str)) ++ pad2 (S / 60 % 60)) ++ (":" : Str)) ++ pad2 (S % 60)) ++ (":" : Str)) ++ pad2 Fr) ++ rs (qr x) (x.den : Int))) H3
      rw [sapp (sI (S / 60 / 60)), sapp (sI (S / 60 / 60)), sapp (sI (S / 60 / 60)), sapp (sI (S / 60 / 60)), sapp (sI (S / 60 / 60))]
      rw [sapp (":" : Str), sapp (":" : Str), sapp (":" : Str), sapp (":" : Str)]
      rw [sapp (pad2 (S / 60 % 60)), sapp (pad2 (S / 60 % 60)), sapp (pad2 (S / 60 % 60)), sapp (":" : Str), sapp (":" : Str), sapp (pad2 (S % 60))]
      exact q2
theorem cl_Lbegun (T : Txt K mg) : Cl P w K mg base CX0 1 "_law_begun" (spBegun K) := by
  refine T.d_Lbegun.cl sc_Lbegun (fun vs H Q E h => ?_) (fun f cdv A outer s H vs Q E hr h => ?_)
  · obtain ⟨i, j, rfl, _⟩ := h
    rfl
  · obtain ⟨a, ns, rfl, hS, q⟩ := h
    refine ⟨_, (pss_cons (ps_set (i := 1) sc_Lbegun.nd rfl (.inl rfl) pe_int)
      (pss_cons (ps_for PassesOwn.never rfl (pi_list (pv 0)) (pg_name (i := 2) sc_Lbegun.nd rfl (.inl rfl))
        (pss_one (ps_set (i := 1) sc_Lbegun.nd rfl (.inl rfl) (pe_op op_mod (pe_op op_add (pe_op op_add (pe_op op_mul (pv 1) pe_int) (pe_op op_mul (pv 2) pe_int)) pe_int) pe_int))))
      (pss_one (ps_ret (pe_lst (pa_cons (pe_callTy call_list_of (by rfl) T.m_list (by decide +kernel) (pa_cons (pv 0) pa_nil)) (pa_cons (pe_op op_mul (pv 1) (pe_callTy call_int1 (by rfl) T.m_int (by decide +kernel) (pa_cons (pe_cmpR op_gt (pe_callB call_len_seq (by rfl) T.m_len (by decide +kernel) (pa_cons (pv 0) pa_nil)) pe_int (nomark _)) pa_nil))) pa_nil))))))), ?_⟩
    refine ⟨_, rfl, a, rfl, ⟨_, hS⟩, for_list (K := K) (a := a) (xs := ns.map V.int) (fun i σ H' => ∃ (x : Int) (c : Option V), σ = [some (.ref a), some (.int x), c] ∧ H' = H) ⟨0, none, rfl, rfl⟩ (fun i σ H' _ h => ?_) (fun i x σ H' hx h => ?_) (fun σ H' h => ?_)⟩
    · obtain ⟨x, c, rfl, rfl⟩ := h
      exact hS
    · obtain ⟨y, c, rfl, rfl⟩ := h
      obtain ⟨z, hz, rfl⟩ : ∃ z : Int, z ∈ ns ∧ V.int z = x := by
        have := List.mem_of_getElem? hx
        exact List.mem_map.mp this
      refine ⟨_, rfl, _, _, rfl, rfl, .inr ⟨by decide, by decide⟩, _, rfl, _, _, rfl, rfl, .inr ⟨by decide, by decide⟩, _, _, rfl, rfl, _, _, rfl, rfl, _, _, rfl, rfl, (show (0 : Int) < 2147483647 by decide), _, _, rfl, rfl⟩
    · obtain ⟨y, c, rfl, rfl⟩ := h
      refine ⟨_, rfl, a, _, rfl, .inl hS, fun l hl => ?_⟩
      have hS2 : SqL K (upd H' l (.lst (ns.map V.int))) a (ns.map V.int) := (Same.new hl).seq hS
      refine ⟨_, rfl, _, rfl, a, _, rfl, .inl hS2, _, _, rfl, rfl, .inr ⟨_, rfl, _, _, rfl, rfl, .inr ?_, (show 2 ≤ sizeLine by decide), fun b hb => ?_⟩⟩
      · split <;> exact ⟨by decide, by decide⟩
      · refine q _ b l ((Same.new hl).trans (Same.new hb)) ((Same.new hl).free hb) hl ⟨fun e => ?_, ns, _, upd_same, ?_⟩
        · rw [e, upd_same] at hb
          cases hb
        · rw [upd_ne (fun e => ?_), upd_same]
          rw [← e, upd_same] at hb
          cases hb
theorem cl_Ltake (T : Txt K mg) : Cl P w K mg base CX0 1 "_law_take" (spTake K) := by
  refine T.d_Ltake.cl sc_Ltake (fun vs H Q E h => ?_) (fun f cdv A outer s H vs Q E hr h => ?_)
  · obtain ⟨b, l, m, rfl, _⟩ := h
    rfl
  · obtain ⟨b, l, m, rfl, B, m0, m1, q⟩ := h
    obtain ⟨xs, st, hb, hl⟩ := B.ex
    have ne := B.ne
    refine ⟨_, (pss_cons (ps_if (pt_cmpR (op_eqD hr.units) (pe_ix ix_list (pv 0) pe_int (fun _ _ => rfl)) (pe_lst pa_nil) (nomark _))
        (pss_cons (ps_asg (pe_op op_mod (pe_op op_mul (pe_ix ix_list (pv 0) pe_int (fun _ _ => rfl)) pe_int) pe_int) (pg_sub (pv 0) pe_int set_list))
      (pss_one (ps_ret (pe_op op_modN (pe_op op_fdiv (pe_ix ix_list (pv 0) pe_int (fun _ _ => rfl)) pe_int) (pv 1)))))
        pss_nil)
      (pss_cons (ps_set (i := 2) sc_Ltake.nd rfl (.inl rfl) (pe_ix ix_list (pe_ix ix_list (pv 0) pe_int (fun _ _ => rfl)) pe_int (fun _ _ => rfl)))
      (pss_cons (ps_asg (pe_op op_fdivX (pv 2) (pv 1)) (pg_sub (pe_ix ix_list (pv 0) pe_int (fun _ _ => rfl)) pe_int set_list))
      (pss_cons (ps_if (PW.pt (pw_or (pt_cmpR op_eq (pe_ix ix_list (pe_ix ix_list (pv 0) pe_int (fun _ _ => rfl)) pe_int (fun _ _ => rfl)) pe_int (nomark _)) (pw_or1 (pt_cmpR op_eq (pe_ix ix_list (pe_ix ix_list (pv 0) pe_int (fun _ _ => rfl)) pe_int (fun _ _ => rfl)) (pe_un un_neg pe_int) (nomark _)))))
        (pss_one (ps_expr (pe_bm PySem.F.plainAttrs_list PySem.F.slot_list_pop PySem.F.type_list_pop mt_popAt (pe_ix ix_list (pv 0) pe_int (fun _ _ => rfl)) (pa_cons pe_int pa_nil))))
        pss_nil)
      (pss_one (ps_ret (pe_op op_modN (pv 2) (pv 1)))))))), ?_⟩
    refine ⟨_, rfl, _, _, _, _, rfl, rfl, .inl (.inl hb), atI_nat (j := 0) rfl, Nat.zero_le _, fun o no => ?_⟩
    have sH : Same H (upd H o (.lst [])) := Same.new no
    have hb1 := sH _ _ hb
    have hl1 := sH _ _ hl
    have s0 : Same (hid b l H) (hid b l (upd H o (.lst []))) := Same.hid sH
    have he : SqL K (upd H o (.lst [])) o [] := .inl (.inl upd_same)
    generalize upd H o (.lst []) = H1 at hb1 hl1 s0 he ⊢
    refine ⟨.list (xs.map PyData.int), .list [], .lst (.inl (.inl hl1)) (dpa_ints xs), .lst he .nil, shaped_ints xs, rfl, _, rfl, ite2 (fun z => ?_) (fun z => ?_)⟩
    · refine ⟨_, rfl, _, _, _, _, rfl, rfl, .inl (.inl hb1), atI_nat (j := 1) rfl, _, _, rfl, rfl, .inr ⟨by decide, by decide⟩, _, _, rfl, rfl, (show (0 : Int) < 2147483647 by decide), _, rfl, _, _, _, 1, rfl, rfl, hb1, rfl, ?_⟩
      refine ⟨_, rfl, _, _, _, _, rfl, rfl, .inl (.inl upd_same), atI_nat (j := 1) rfl, _, _, rfl, rfl, ⟨by decide, by decide⟩, _, rfl, _, _, rfl, rfl, (by omega), ?_⟩
      refine q _ _ ?_ ⟨ne, xs, _, upd_same, ?_⟩ (fmod_rg m0).1 (fmod_rg m0).2
      · rw [hid_b]
        exact s0
      · rw [upd_ne ne.symm]
        exact hl1
    · cases xs with
      | nil => exact absurd rfl z
      | cons x r =>
        have fin : ∀ H', Same (hid b l H) (hid b l H') → Bx H' b l → Q (.int (x.fmod m)) H' := fun H' s1 B1 => q _ _ s1 B1 (fmod_rg m0).1 (fmod_rg m0).2
        refine ⟨_, rfl, _, _, _, _, rfl, rfl, .inl (.inl hb1), atI_nat (j := 0) rfl, _, _, _, _, rfl, rfl, .inl (.inl hl1), atI_nat (j := 0) rfl, ?_⟩
        refine ⟨_, rfl, _, rfl, _, _, rfl, rfl, cdiv (b := 30) (by omega) (by omega) (by decide) (by decide), _, rfl, _, _, _, _, rfl, rfl, .inl (.inl hb1), atI_nat (j := 0) rfl, _, _, _, 0, rfl, rfl, hl1, ixN0, ?_⟩
        have hb2 : (upd H1 l (.lst ((V.int (x.fdiv m)) :: r.map V.int))) b = some (.lst [.ref l, .int st]) := by
          rw [upd_ne ne]
          exact hb1
        have hl2 : (upd H1 l (.lst ((V.int (x.fdiv m)) :: r.map V.int))) l = some (.lst ((V.int (x.fdiv m)) :: r.map V.int)) := upd_same
        have s2 : Same (hid b l H) (hid b l (upd H1 l (.lst ((V.int (x.fdiv m)) :: r.map V.int)))) := by
          rw [hid_l]
          exact s0
        change tSeq _ _ _ _ (upd H1 l (.lst ((V.int (x.fdiv m)) :: r.map V.int)))
        generalize upd H1 l (.lst ((V.int (x.fdiv m)) :: r.map V.int)) = H2 at hb2 hl2 s2 ⊢
        have pop : ∀ D : Ends, D.nx [some (.ref b), some (.int m), some (.int x)] (upd H2 l (.lst (r.map V.int))) → tDrop (tBM K "list" rPopAt (tOp (rIxL K) (tVar 0) (tC (.int 0))) (tCons (tC (.int 0)) tNil)) D [some (.ref b), some (.int m), some (.int x)] H2 := by
          intro D hD
          exact ⟨_, rfl, _, _, _, _, rfl, rfl, .inl (.inl hb2), atI_nat (j := 0) rfl, .inl ⟨rfl, _, .inl (.inl hl2)⟩, l, _, 0, 0, _, rfl, rfl, hl2, by decide, by decide, (ixN_seq ixN0).1, rfl, hD⟩
        have fin2 : Q (.int (x.fmod m)) (upd H2 l (.lst (r.map V.int))) := by
          refine fin _ ?_ ⟨ne, r, st, ?_, upd_same⟩
          · rw [hid_l]
            exact s2
          · rw [upd_ne ne]
            exact hb2
        refine ⟨_, rfl, _, _, _, _, rfl, rfl, .inl (.inl hb2), atI_nat (j := 0) rfl, _, _, _, _, rfl, rfl, .inl (.inl hl2), atI_nat (j := 0) rfl, rfl, _, rfl, ite2 (fun z => ?_) (fun z => ?_)⟩
        · refine iteT (pop _ ?_)
          exact ⟨_, rfl, _, rfl, _, _, rfl, rfl, (by omega), fin2⟩
        · refine ⟨_, rfl, _, _, _, _, rfl, rfl, .inl (.inl hb2), atI_nat (j := 0) rfl, _, _, _, _, rfl, rfl, .inl (.inl hl2), atI_nat (j := 0) rfl, _, rfl, rfl, _, rfl, ite2 (fun z => ?_) (fun z => ?_)⟩
          · refine pop _ ?_
            exact ⟨_, rfl, _, rfl, _, _, rfl, rfl, (by omega), fin2⟩
          · exact ⟨_, rfl, _, rfl, _, _, rfl, rfl, (by omega), fin _ s2 ⟨ne, x.fdiv m :: r, st, hb2, hl2⟩⟩
theorem cl_Lalike (T : Txt K mg) : ∀ n : Nat, Cl P w K mg base CX0 (n + 1) "_law_alike" (spAlike K n)
  | 0 => by
    refine T.d_Lalike.cl sc_Lalike (fun vs H Q E h => ?_) (fun f cdv A outer s H vs Q E hr h => ?_)
    · obtain ⟨u, v, d, rfl, _⟩ := h
      rfl
    · obtain ⟨u, v, d, rfl, _, _, h, _⟩ := h
      exact absurd h (Nat.not_lt_zero _)
  | n + 1 => by
    have c_Lalike := cl_Lalike T n
    refine T.d_Lalike.cl sc_Lalike (fun vs H Q E h => ?_) (fun f cdv A outer s H vs Q E hr h => ?_)
    · obtain ⟨u, v, d, rfl, _⟩ := h
      rfl
    · obtain ⟨u, v, d, rfl, hu, hv, hd, hz, q⟩ := h
      refine ⟨_, (pss_cons (ps_if (pt_cmpR op_isN (pv 1) pe_non (nomark _))
        (pss_one (ps_ret (pe_cmpR op_isN (pv 0) pe_non (nomark _))))
        pss_nil)
      (pss_cons (ps_if (pt_val (pe_callB call_isi (by rfl) T.m_isinstance (by decide +kernel) (pa_cons (pv 1) (pa_cons (pe_bltn (v := .ty "bool") (by rfl) T.m_bool (by decide +kernel) rfl) pa_nil))))
        (pss_one (ps_ret (pe_and (pe_callB call_isi (by rfl) T.m_isinstance (by decide +kernel) (pa_cons (pv 0) (pa_cons (pe_bltn (v := .ty "bool") (by rfl) T.m_bool (by decide +kernel) rfl) pa_nil))) (pe_one (pe_cmpR op_eq (pv 0) (pv 1) (nomark _))))))
        pss_nil)
      (pss_cons (ps_if (pt_val (pe_callB call_isi (by rfl) T.m_isinstance (by decide +kernel) (pa_cons (pv 1) (pa_cons (pe_bltn (v := .ty "int") (by rfl) T.m_int (by decide +kernel) rfl) pa_nil))))
        (pss_one (ps_ret (pe_and (pe_callB call_isi (by rfl) T.m_isinstance (by decide +kernel) (pa_cons (pv 0) (pa_cons (pe_bltn (v := .ty "int") (by rfl) T.m_int (by decide +kernel) rfl) pa_nil))) (pe_and (pe_not (pe_callB call_isi (by rfl) T.m_isinstance (by decide +kernel) (pa_cons (pv 0) (pa_cons (pe_bltn (v := .ty "bool") (by rfl) T.m_bool (by decide +kernel) rfl) pa_nil)))) (pe_one (pe_cmpR op_eq (pv 0) (pv 1) (nomark _)))))))
        pss_nil)
      (pss_cons (ps_if (pt_val (pe_callB call_isi (by rfl) T.m_isinstance (by decide +kernel) (pa_cons (pv 1) (pa_cons (pe_bltn (v := .ty "str") (by rfl) T.m_str (by decide +kernel) rfl) pa_nil))))
        (pss_one (ps_ret (pe_and (pe_callB call_isi (by rfl) T.m_isinstance (by decide +kernel) (pa_cons (pv 0) (pa_cons (pe_bltn (v := .ty "str") (by rfl) T.m_str (by decide +kernel) rfl) pa_nil))) (pe_one (pe_cmpR op_eq (pv 0) (pv 1) (nomark _))))))
        pss_nil)
      (pss_cons (ps_if (PW.pt (pw_or (pt_cmpR op_ne (pe_callB call_isi (by rfl) T.m_isinstance (by decide +kernel) (pa_cons (pv 1) (pa_cons (pe_bltn (v := .ty "tuple") (by rfl) T.m_tuple (by decide +kernel) rfl) pa_nil))) (pe_callB call_isi (by rfl) T.m_isinstance (by decide +kernel) (pa_cons (pv 0) (pa_cons (pe_bltn (v := .ty "tuple") (by rfl) T.m_tuple (by decide +kernel) rfl) pa_nil))) (nomark _)) (pw_or1 (pt_cmpR op_ne (pe_callB call_isi (by rfl) T.m_isinstance (by decide +kernel) (pa_cons (pv 1) (pa_cons (pe_bltn (v := .ty "list") (by rfl) T.m_list (by decide +kernel) rfl) pa_nil))) (pe_callB call_isi (by rfl) T.m_isinstance (by decide +kernel) (pa_cons (pv 0) (pa_cons (pe_bltn (v := .ty "list") (by rfl) T.m_list (by decide +kernel) rfl) pa_nil))) (nomark _)))))
        (pss_one (ps_ret pe_bl))
        pss_nil)
      (pss_cons (ps_if (pt_cmpR op_ne (pe_callB call_len_seq (by rfl) T.m_len (by decide +kernel) (pa_cons (pv 0) pa_nil)) (pe_callB call_len_seq (by rfl) T.m_len (by decide +kernel) (pa_cons (pv 1) pa_nil)) (nomark _))
        (pss_one (ps_ret pe_bl))
        pss_nil)
      (pss_cons (ps_for PassesOwn.never rfl (pi_range1 (by rfl) T.m_range (pa_cons (pe_callB call_len_seq (by rfl) T.m_len (by decide +kernel) (pa_cons (pv 1) pa_nil)) pa_nil)) (pg_name (i := 2) sc_Lalike.nd rfl (.inl rfl))
        (pss_one (ps_if (pt_not (pt_val (pe_cl c_Lalike hr (Nat.le_refl _) (by rfl) (pa_cons (pe_ix ix_seq (pv 0) (pv 2) (fun _ _ => rfl)) (pa_cons (pe_ix ix_seq (pv 1) (pv 2) (fun _ _ => rfl)) pa_nil)))))
        (pss_one (ps_ret pe_bl))
        pss_nil)))
      (pss_one (ps_ret pe_bl))))))))), ?_⟩
      cases d with
      | none =>
        cases hu
        cases hv
        exact ⟨_, rfl, rfl, _, rfl, iteY rfl ⟨_, rfl, rfl, q⟩⟩
      | bool b =>
        cases hu
        cases hv
        refine ⟨_, rfl, rfl, _, rfl, iteN rfl ?_⟩
        refine ⟨_, rfl, _, _, _, _, _, rfl, .ty _, .base (.bl b), kit_ty (r := true) (by decide +kernel), _, rfl, iteY rfl ?_⟩
        exact ⟨_, rfl, _, _, _, _, _, rfl, .ty _, .base (.bl b), kit_ty (r := true) (by decide +kernel), _, rfl, iteY rfl ⟨_, rfl, _, rfl, rfl, by rw [decide_eq_true rfl]; exact q⟩⟩
      | int i =>
        cases hu
        cases hv
        refine ⟨_, rfl, rfl, _, rfl, iteN rfl ?_⟩
        refine ⟨_, rfl, _, _, _, _, _, rfl, .ty _, .base (.int i), kit_ty (r := false) (by decide +kernel), _, rfl, iteN rfl ?_⟩
        refine ⟨_, rfl, _, _, _, _, _, rfl, .ty _, .base (.int i), kit_ty (r := true) (by decide +kernel), _, rfl, iteY rfl ?_⟩
        refine ⟨_, rfl, _, _, _, _, _, rfl, .ty _, .base (.int i), kit_ty (r := true) (by decide +kernel), _, rfl, iteY rfl ?_⟩
        exact ⟨_, rfl, _, _, _, _, _, rfl, .ty _, .base (.int i), kit_ty (r := false) (by decide +kernel), _, rfl, _, rfl, iteY rfl ⟨_, rfl, _, rfl, rfl, by rw [decide_eq_true rfl]; exact q⟩⟩
      | str x =>
        cases hu
        cases hv
        refine ⟨_, rfl, rfl, _, rfl, iteN rfl ?_⟩
        refine ⟨_, rfl, _, _, _, _, _, rfl, .ty _, .base (.str x), kit_ty (r := false) (by decide +kernel), _, rfl, iteN rfl ?_⟩
        refine ⟨_, rfl, _, _, _, _, _, rfl, .ty _, .base (.str x), kit_ty (r := false) (by decide +kernel), _, rfl, iteN rfl ?_⟩
        refine ⟨_, rfl, _, _, _, _, _, rfl, .ty _, .base (.str x), kit_ty (r := true) (by decide +kernel), _, rfl, iteY rfl ?_⟩
        exact ⟨_, rfl, _, _, _, _, _, rfl, .ty _, .base (.str x), kit_ty (r := true) (by decide +kernel), _, rfl, iteY rfl ⟨_, rfl, _, rfl, rfl, by rw [decide_eq_true rfl]; exact q⟩⟩
      | list ds =>
        cases hu with
        | lst s1 a1 =>
          rename_i a xs
          cases hv with
          | lst s2 a2 =>
            rename_i b ys
            have t1 := tyL s1
            have t2 := tyL s2
            have w1 : SqL K H a xs ∨ SqT K H a xs := .inl s1
            have w2 : SqL K H b ys ∨ SqT K H b ys := .inl s2
            have e1 := dpa_len a1
            have e2 := dpa_len a2
            have hl : ds.length < 2 ^ 62 := of_decide_eq_true (Bool.and_eq_true_iff.mp (show (decide (ds.length < 2 ^ 62) && szAll ds) = true from hz)).1
            have hz2 : szAll ds = true := (Bool.and_eq_true_iff.mp (show (decide (ds.length < 2 ^ 62) && szAll ds) = true from hz)).2
            have hd2 : PyData.depthAll ds < n := Nat.lt_of_succ_lt_succ (show PyData.depthAll ds + 1 < n + 1 from hd)
            refine ⟨_, rfl, rfl, _, rfl, iteN rfl ?_⟩
            refine ⟨_, rfl, _, _, _, _, _, rfl, .ty _, t2, kit_ty (r := false) (by decide +kernel), _, rfl, iteN rfl ?_⟩
            refine ⟨_, rfl, _, _, _, _, _, rfl, .ty _, t2, kit_ty (r := false) (by decide +kernel), _, rfl, iteN rfl ?_⟩
            refine ⟨_, rfl, _, _, _, _, _, rfl, .ty _, t2, kit_ty (r := false) (by decide +kernel), _, rfl, iteN rfl ?_⟩
            refine ⟨_, rfl, _, _, _, _, _, rfl, .ty _, t2, kit_ty (r := false) (by decide +kernel), _, rfl, _, _, _, _, _, rfl, .ty _, t1, kit_ty (r := false) (by decide +kernel), rfl, _, rfl, iteN rfl ?_⟩
            refine ⟨_, rfl, _, _, _, _, _, rfl, .ty _, t2, kit_ty (r := true) (by decide +kernel), _, rfl, _, _, _, _, _, rfl, .ty _, t1, kit_ty (r := true) (by decide +kernel), rfl, _, rfl, iteN rfl ?_⟩
            refine ⟨_, rfl, _, _, rfl, w1, _, rfl, _, _, rfl, w2, rfl, _, rfl, iteN (by rw [e1, e2, decide_eq_true rfl]; rfl) ?_⟩
            refine ⟨_, rfl, _, _, rfl, w2, (ys.length : Int), rfl, (by omega), (by omega), for_range (lo := 0) (n := ys.length) (fun i σ H' => H' = H ∧ ∃ o, σ = [some (.ref a), some (.ref b), o]) ⟨rfl, none, rfl⟩ (fun i σ H' hi h => ?_) (fun σ H' h => ?_)⟩
            · obtain ⟨rfl, o, rfl⟩ := h
              obtain ⟨v1, g1⟩ : ∃ v1, xs[i]? = some v1 := ⟨_, List.getElem?_eq_getElem (show i < xs.length by omega)⟩
              obtain ⟨v2, g2⟩ : ∃ v2, ys[i]? = some v2 := ⟨_, List.getElem?_eq_getElem hi⟩
              obtain ⟨d1, k1, p1⟩ := dpa_at a1 g1
              obtain ⟨d2, k2, p2⟩ := dpa_at a2 g2
              have ed : d1 = d2 := Option.some.inj (k1.symm.trans k2)
              subst ed
              have ei : (0 : Int) + (i : Int) = (i : Int) := Int.zero_add _
              rw [ei]
              refine ⟨_, rfl, _, rfl, rIx_of w1 g1 ?_⟩
              refine ⟨_, rfl, _, rfl, rIx_of w2 g2 ?_⟩
              refine ⟨_, _, d1, rfl, p1, p2, Nat.lt_of_le_of_lt (depth_at k1) hd2, szAll_at hz2 k1, _, rfl, iteN rfl ⟨rfl, _, rfl⟩⟩
            · obtain ⟨rfl, o, rfl⟩ := h
              exact q
      | tuple ds =>
        cases hu with
        | tup s1 a1 =>
          rename_i a xs
          cases hv with
          | tup s2 a2 =>
            rename_i b ys
            have t1 := tyT s1
            have t2 := tyT s2
            have w1 : SqL K H a xs ∨ SqT K H a xs := .inr s1
            have w2 : SqL K H b ys ∨ SqT K H b ys := .inr s2
            have e1 := dpa_len a1
            have e2 := dpa_len a2
            have hl : ds.length < 2 ^ 62 := of_decide_eq_true (Bool.and_eq_true_iff.mp (show (decide (ds.length < 2 ^ 62) && szAll ds) = true from hz)).1
            have hz2 : szAll ds = true := (Bool.and_eq_true_iff.mp (show (decide (ds.length < 2 ^ 62) && szAll ds) = true from hz)).2
            have hd2 : PyData.depthAll ds < n := Nat.lt_of_succ_lt_succ (show PyData.depthAll ds + 1 < n + 1 from hd)
            refine ⟨_, rfl, rfl, _, rfl, iteN rfl ?_⟩
            refine ⟨_, rfl, _, _, _, _, _, rfl, .ty _, t2, kit_ty (r := false) (by decide +kernel), _, rfl, iteN rfl ?_⟩
            refine ⟨_, rfl, _, _, _, _, _, rfl, .ty _, t2, kit_ty (r := false) (by decide +kernel), _, rfl, iteN rfl ?_⟩
            refine ⟨_, rfl, _, _, _, _, _, rfl, .ty _, t2, kit_ty (r := false) (by decide +kernel), _, rfl, iteN rfl ?_⟩
            refine ⟨_, rfl, _, _, _, _, _, rfl, .ty _, t2, kit_ty (r := true) (by decide +kernel), _, rfl, _, _, _, _, _, rfl, .ty _, t1, kit_ty (r := true) (by decide +kernel), rfl, _, rfl, iteN rfl ?_⟩
            refine ⟨_, rfl, _, _, _, _, _, rfl, .ty _, t2, kit_ty (r := false) (by decide +kernel), _, rfl, _, _, _, _, _, rfl, .ty _, t1, kit_ty (r := false) (by decide +kernel), rfl, _, rfl, iteN rfl ?_⟩
            refine ⟨_, rfl, _, _, rfl, w1, _, rfl, _, _, rfl, w2, rfl, _, rfl, iteN (by rw [e1, e2, decide_eq_true rfl]; rfl) ?_⟩
            refine ⟨_, rfl, _, _, rfl, w2, (ys.length : Int), rfl, (by omega), (by omega), for_range (lo := 0) (n := ys.length) (fun i σ H' => H' = H ∧ ∃ o, σ = [some (.ref a), some (.ref b), o]) ⟨rfl, none, rfl⟩ (fun i σ H' hi h => ?_) (fun σ H' h => ?_)⟩
            · obtain ⟨rfl, o, rfl⟩ := h
              obtain ⟨v1, g1⟩ : ∃ v1, xs[i]? = some v1 := ⟨_, List.getElem?_eq_getElem (show i < xs.length by omega)⟩
              obtain ⟨v2, g2⟩ : ∃ v2, ys[i]? = some v2 := ⟨_, List.getElem?_eq_getElem hi⟩
              obtain ⟨d1, k1, p1⟩ := dpa_at a1 g1
              obtain ⟨d2, k2, p2⟩ := dpa_at a2 g2
              have ed : d1 = d2 := Option.some.inj (k1.symm.trans k2)
              subst ed
              have ei : (0 : Int) + (i : Int) = (i : Int) := Int.zero_add _
              rw [ei]
              refine ⟨_, rfl, _, rfl, rIx_of w1 g1 ?_⟩
              refine ⟨_, rfl, _, rfl, rIx_of w2 g2 ?_⟩
              refine ⟨_, _, d1, rfl, p1, p2, Nat.lt_of_le_of_lt (depth_at k1) hd2, szAll_at hz2 k1, _, rfl, iteN rfl ⟨rfl, _, rfl⟩⟩
            · obtain ⟨rfl, o, rfl⟩ := h
              exact q
      | dict _ => cases hu
theorem cl_Lfr (T : Txt K mg) : Cl P w K mg base CX0 1 "_law_fr" (spMade K) := by
  refine T.d_Lfr.cl sc_Lfr (fun vs H Q E h => ?_) (fun f cdv A outer s H vs Q E hr h => ?_)
  · obtain ⟨i, j, rfl, _⟩ := h
    rfl
  · obtain ⟨t, b, rfl, hb, hs, q⟩ := h
    refine ⟨_, (pss_cons (ps_set (i := 2) sc_Lfr.nd rfl (.inl rfl) (pe_callB call_abs (by rfl) T.m_abs (by decide +kernel) (pa_cons (pv 0) pa_nil)))
      (pss_cons (ps_set (i := 3) sc_Lfr.nd rfl (.inl rfl) (pe_callB call_abs (by rfl) T.m_abs (by decide +kernel) (pa_cons (pv 1) pa_nil)))
      (pss_cons (ps_while PassesOwn.never (pt_cmpR op_gt (pv 3) pe_int (nomark _))
        (pss_cons (ps_set (i := 4) sc_Lfr.nd rfl (.inl rfl) (pe_op op_modN (pv 2) (pv 3)))
      (pss_cons (ps_set (i := 2) sc_Lfr.nd rfl (.inl rfl) (pv 3))
      (pss_one (ps_set (i := 3) sc_Lfr.nd rfl (.inl rfl) (pv 4))))))
      (pss_cons (ps_if (pt_cmpR op_lt (pv 1) pe_int (nomark _))
        (pss_one (ps_set (i := 2) sc_Lfr.nd rfl (.inl rfl) (pe_op op_sub pe_int (pv 2))))
        pss_nil)
      (pss_one (ps_ret (pe_tup (pa_cons (pe_op op_fdivX (pv 0) (pv 2)) (pa_cons (pe_op op_fdivX (pv 1) (pv 2)) pa_nil))))))))), ?_⟩
    have last : ∀ d : Int, d = frI t b → ∀ p, H p = none → Q (.ref p) (upd H p (.tup [.int (t.fdiv d), .int (b.fdiv d)])) := by
      intro d e p hp
      subst e
      refine q _ _ (Same.new hp) (dF_mk ?_)
      rw [fr_num hb, fr_den hb]
      exact .inl (.inl upd_same)
    have hd : ∀ d : Int, d = frI t b → CDivX t d ∧ CDivX b d := by
      intro d e
      subst e
      have h1 := Nat.lt_of_le_of_lt (frI_natAbs (t := t) hb) hs
      exact ⟨cdiv (frI_ne hb) h1 (by decide) (by decide), cdiv (frI_ne hb) h1 (by decide) (by decide)⟩
    refine ⟨_, rfl, _, rfl, _, rfl, _, rfl, ?_⟩
    refine while_by (fun σ H' => ∃ (a c : Nat) (o : Option V), σ = [some (.int t), some (.int b), some (.int (a : Int)), some (.int (c : Int)), o] ∧ H' = H ∧ Nat.gcd a c = Nat.gcd t.natAbs b.natAbs) (fun σ _ => match σ with | [_, _, _, some (.int b), _] => b.natAbs | _ => 0) ?_ ?_ ?_
    · refine ⟨t.natAbs, b.natAbs, none, ?_, rfl, rfl⟩
      show [some (V.int t), some (V.int b), some (V.int (if t < 0 then -t else t)), some (V.int (if b < 0 then -b else b)), none] = _
      rw [abs_nat, abs_nat]
    · intro σ H' h
      obtain ⟨a, c, o, rfl, rfl, e⟩ := h
      refine ⟨_, rfl, _, _, rfl, rfl, _, rfl, ite2 (fun z => ?_) (fun z => ?_)⟩
      · have hc : 0 < c := by
          have := of_decide_eq_true z
          omega
        refine ⟨_, rfl, _, rfl, _, _, rfl, rfl, (by omega), _, rfl, _, rfl, ⟨c, a % c, some (V.int ((a : Int).fmod (c : Int))), ?_, rfl, ?_⟩, ?_⟩
        · show [some (V.int t), some (V.int b), some (V.int (c : Int)), some (V.int ((a : Int).fmod (c : Int))), some (V.int ((a : Int).fmod (c : Int)))] = _
          rw [fmod_nat]
        · rw [gcd_turn]
          exact e
        · show Int.natAbs (Int.fmod (a : Int) (c : Int)) < Int.natAbs (c : Int)
          rw [fmod_nat]
          have := Nat.mod_lt a hc
          omega
      · have hc : c = 0 := by
          have z2 : ¬ ((0 : Int) < (c : Int)) := fun y => z (decide_eq_true y)
          omega
        subst hc
        rw [Nat.gcd_zero_right] at e
        refine ⟨_, rfl, _, _, rfl, rfl, _, rfl, ite2 (fun z => ?_) (fun z => ?_)⟩
        · have z1 : b < 0 := of_decide_eq_true z
          have e : 0 - (a : Int) = frI t b := by
            unfold frI
            rw [if_pos z1, ← e]
            omega
          refine ⟨_, rfl, _, _, rfl, rfl, _, rfl, _, rfl, _, _, rfl, rfl, (hd _ e).1, _, rfl, _, rfl, _, _, rfl, rfl, (hd _ e).2, (show 2 ≤ sizeLine by decide), fun p hp => last _ e p hp⟩
        · have z1 : ¬ b < 0 := fun y => z (decide_eq_true y)
          have e : (a : Int) = frI t b := by
            unfold frI
            rw [if_neg z1, ← e]
          refine ⟨_, rfl, _, rfl, _, _, rfl, rfl, (hd _ e).1, _, rfl, _, rfl, _, _, rfl, rfl, (hd _ e).2, (show 2 ≤ sizeLine by decide), fun p hp => last _ e p hp⟩
    · intro σ H' Q1 Q2 h12 h
      obtain ⟨v, e, i, j, e1, e2, k, e3, h⟩ := h
      exact ⟨v, e, i, j, e1, e2, k, e3, h12 _ _ h⟩
theorem cl_Lmixed (T : Txt K mg) : Cl P w K mg base CX0 1 "_law_mixed" (spMix K (10 ^ 30) mixT) := by
  refine T.d_Lmixed.cl sc_Lmixed (fun vs H Q E h => ?_) (fun f cdv A outer s H vs Q E hr h => ?_)
  · obtain ⟨v, q, rfl, _⟩ := h
    rfl
  · obtain ⟨v, x, rfl, hv, bd, q⟩ := h
    obtain ⟨a, rfl, h0⟩ := dF_at hv
    have e1 : (fun i j : Int => V.int (i.fdiv j)) x.num (x.den : Int) = .int (qw x) := by
      show V.int (x.num.fdiv (x.den : Int)) = _
      rw [qf]
    have e2 : (fun i j : Int => V.int (i.fmod j)) x.num (x.den : Int) = .int (qr x) := by
      show V.int (x.num.fmod (x.den : Int)) = _
      rw [qm]
    have gw := qw_rg bd
    have gr := qr_rg bd
    have l1 := sI_len gw.1 gw.2
    have l2 := sI_len gr.1 gr.2
    have l3 := sI_len (show 0 ≤ (x.den : Int) by omega) bd.den
    refine ⟨_, (pss_cons (ps_set (i := 1) sc_Lmixed.nd rfl (.inl rfl) (pe_op op_fdivX (pe_ix ix_tup (pv 0) pe_int (fun _ _ => rfl)) (pe_ix ix_tup (pv 0) pe_int (fun _ _ => rfl))))
      (pss_cons (ps_set (i := 2) sc_Lmixed.nd rfl (.inl rfl) (pe_op op_modN (pe_ix ix_tup (pv 0) pe_int (fun _ _ => rfl)) (pe_ix ix_tup (pv 0) pe_int (fun _ _ => rfl))))
      (pss_cons (ps_if (pt_cmpR op_eq (pv 2) pe_int (nomark _))
        (pss_one (ps_ret (pe_callTy call_str_int (by rfl) T.m_str (by decide +kernel) (pa_cons (pv 1) pa_nil))))
        pss_nil)
      (pss_one (ps_ret (pe_op op_add_str (pe_op op_add_str (pe_op op_add_str (pe_op op_add_str (pe_callTy call_str_int (by rfl) T.m_str (by decide +kernel) (pa_cons (pv 1) pa_nil)) pe_str) (pe_callTy call_str_int (by rfl) T.m_str (by decide +kernel) (pa_cons (pv 2) pa_nil))) pe_str) (pe_callTy call_str_int (by rfl) T.m_str (by decide +kernel) (pa_cons (pe_ix ix_tup (pv 0) pe_int (fun _ _ => rfl)) pa_nil)))))))), ?_⟩
    refine ⟨_, rfl, _, _, _, _, rfl, rfl, h0, atI_nat (j := 0) rfl, _, rfl, _, _, _, _, rfl, rfl, h0, atI_nat (j := 1) rfl, _, _, rfl, rfl, cdq bd, ?_⟩
    rw [e1]
    refine ⟨_, rfl, _, _, _, _, rfl, rfl, h0, atI_nat (j := 0) rfl, _, rfl, _, _, _, _, rfl, rfl, h0, atI_nat (j := 1) rfl, _, _, rfl, rfl, den_ne x, ?_⟩
    rw [e2]
    refine ⟨_, rfl, rfl, _, rfl, ite2 (fun z => ?_) (fun z => ?_)⟩
    · have e : qr x = 0 := V.int.inj (of_decide_eq_true z)
      refine ⟨_, rfl, _, rfl, lg gw.1 gw.2, ?_⟩
      unfold mixT rs at q
      rw [if_pos e, sapp_nil] at q
      exact q
    · have e : qr x ≠ 0 := fun e => z (by rw [e]; rfl)
      unfold mixT rs at q
      rw [if_neg e] at q
      refine ⟨_, rfl, _, rfl, lg gw.1 gw.2, _, _, rfl, rfl, sz60 (show (sI (qw x)).length + 1 ≤ 1000 by omega), ?_⟩
      refine ⟨_, rfl, _, rfl, lg gr.1 gr.2, _, _, rfl, rfl, sz60 (by rw [slen]; show (sI (qw x)).length + 1 + (sI (qr x)).length ≤ 1000; omega), ?_⟩
      refine ⟨_, _, rfl, rfl, sz60 (by rw [slen, slen]; show (sI (qw x)).length + 1 + (sI (qr x)).length + 1 ≤ 1000; omega), ?_⟩
      refine ⟨_, rfl, _, _, _, _, rfl, rfl, h0, atI_nat (j := 1) rfl, _, rfl, lg (show 0 ≤ (x.den : Int) by omega) bd.den, _, _, rfl, rfl, sz60 (by rw [slen, slen, slen]; show (sI (qw x)).length + 1 + (sI (qr x)).length + 1 + (sI (x.den : Int)).length ≤ 1000; omega), ?_⟩
      show Q (.str ((((sI (qw x) ++ (" " : Str)) ++ sI (qr x)) ++ ("/" : Str)) ++ sI (x.den : Int))) H
      rw [sapp, sapp, sapp]
      exact q
theorem cl_Lframes_text (T : Txt K mg) : Cl P w K mg base CX0 2 "_law_frames_text" (spMix K (10 ^ 30) framesT) := by
  have c_Lmixed := cl_Lmixed (P := P) (w := w) (base := base) T
  refine T.d_Lframes_text.cl sc_Lframes_text (fun vs H Q E h => ?_) (fun f cdv A outer s H vs Q E hr h => ?_)
  · obtain ⟨v, q, rfl, _⟩ := h
    rfl
  · obtain ⟨v, x, rfl, hv, bd, q⟩ := h
    refine ⟨_, (pss_one (ps_ret (pe_op op_add_str (pe_cl c_Lmixed hr (by decide) (by rfl) (pa_cons (pv 0) pa_nil)) pe_str))), ?_⟩
    refine ⟨_, rfl, _, x, rfl, hv, bd, _, _, rfl, rfl, ?_, q⟩
    have := mix_len bd
    exact sz60 (show (mixT x).length + 1 ≤ 1000 by omega)
theorem cl_Lseconds_text (T : Txt K mg) : Cl P w K mg base CX0 2 "_law_seconds_text" (spTxt2 K secondsT) := by
  have c_Lmixed := cl_Lmixed (P := P) (w := w) (base := base) T
  have c_Lfr := cl_Lfr (P := P) (w := w) (base := base) T
  refine T.d_Lseconds_text.cl sc_Lseconds_text (fun vs H Q E h => ?_) (fun f cdv A outer s H vs Q E hr h => ?_)
  · obtain ⟨v, q, r, rfl, _⟩ := h
    rfl
  · obtain ⟨v, x, r, rfl, hv, bd, r0, r1, q⟩ := h
    obtain ⟨a, rfl, h0⟩ := dF_at hv
    refine ⟨_, (pss_one (ps_ret (pe_op op_add_str (pe_cl c_Lmixed hr (by decide) (by rfl) (pa_cons (pe_cl c_Lfr hr (by decide) (by rfl) (pa_cons (pe_ix ix_tup (pv 0) pe_int (fun _ _ => rfl)) (pa_cons (pe_op op_mulW (pe_ix ix_tup (pv 0) pe_int (fun _ _ => rfl)) (pv 1)) pa_nil))) pa_nil)) pe_str))), ?_⟩
    have b1 : ((x.den : Int)).natAbs < 2 ^ 100 := by have := bd.den; omega
    have b2 : r.natAbs < 2 ^ 100 := by omega
    refine ⟨_, rfl, _, _, _, _, rfl, rfl, h0, atI_nat (j := 0) rfl, _, rfl, _, _, _, _, rfl, rfl, h0, atI_nat (j := 1) rfl, _, rfl, _, _, rfl, rfl, wide_mul b1 b2 (by decide) (by decide) (by decide), ?_⟩
    refine ⟨_, _, rfl, Int.mul_ne_zero (den_ne x) (by omega), up9 (mul_bits b1 b2) (by decide), fun H2 z s2 z2 => ?_⟩
    rw [div_rate] at z2
    refine ⟨_, _, rfl, z2, bd_rate bd r0 r1, _, _, rfl, rfl, ?_, q _ s2⟩
    have := mix_len (bd_rate bd r0 r1)
    exact sz60 (show (mixT (x / (r : Rat))).length + 1 ≤ 1000 by omega)
theorem padI (i : Int) (x : Str) : (x ++ (":" : Str)) ++ ((if i < 10 then ("0" : Str) else ("" : Str)) ++ sI i) = x ++ ((":" : Str) ++ pad2 i) := by
  unfold pad2
  rw [sapp]
  split
  · rfl
  · rw [show (("" : Str) ++ sI i) = sI i from nil_sapp _]
def clkN (x : Rat) (r : Int) : Nat → Str
  | 0 => sI (qw x / r / 3600)
  | 1 => sI (qw x / r / 3600) ++ ((":" : Str) ++ pad2 (qw x / r / 60 % 60))
  | 2 => (sI (qw x / r / 3600) ++ ((":" : Str) ++ pad2 (qw x / r / 60 % 60))) ++ ((":" : Str) ++ pad2 (qw x / r % 60))
  | _ => ((sI (qw x / r / 3600) ++ ((":" : Str) ++ pad2 (qw x / r / 60 % 60))) ++ ((":" : Str) ++ pad2 (qw x / r % 60))) ++ ((":" : Str) ++ pad2 (qw x % r))
theorem clkN_all (x : Rat) (r : Int) : clkN x r 3 ++ rs (qr x) (x.den : Int) = clockT x r := by
  unfold clkN clockT
  simp only [sapp]
theorem cl_Lclock_text (T : Txt K mg) : Cl P w K mg base CX0 1 "_law_clock_text" (spTxt2 K clockT) := by
  refine T.d_Lclock_text.cl sc_Lclock_text (fun vs H Q E h => ?_) (fun f cdv A outer s H vs Q E hr h => ?_)
  · obtain ⟨v, q, r, rfl, _⟩ := h
    rfl
  · obtain ⟨v, x, r, rfl, hv, bd, r0, r1, q⟩ := h
    obtain ⟨a, rfl, h0⟩ := dF_at hv
    have bd2 : Bd (10 ^ 30) x := bd.mono (by decide)
    refine ⟨_, (pss_cons (ps_set (i := 2) sc_Lclock_text.nd rfl (.inl rfl) (pe_op op_fdivX (pe_ix ix_tup (pv 0) pe_int (fun _ _ => rfl)) (pe_ix ix_tup (pv 0) pe_int (fun _ _ => rfl))))
      (pss_cons (ps_set (i := 3) sc_Lclock_text.nd rfl (.inl rfl) (pe_lst (pa_cons (pe_op op_fdiv (pe_op op_fdivX (pv 2) (pv 1)) pe_int) (pa_cons (pe_op op_mod (pe_op op_fdiv (pe_op op_fdivX (pv 2) (pv 1)) pe_int) pe_int) (pa_cons (pe_op op_mod (pe_op op_fdivX (pv 2) (pv 1)) pe_int) (pa_cons (pe_op op_modN (pv 2) (pv 1)) pa_nil))))))
      (pss_cons (ps_set (i := 4) sc_Lclock_text.nd rfl (.inl rfl) (pe_callTy call_str_int (by rfl) T.m_str (by decide +kernel) (pa_cons (pe_ix ix_list (pv 3) pe_int (fun _ _ => rfl)) pa_nil)))
      (pss_cons (ps_for PassesOwn.never rfl (pi_list (pe_slice sl_list (pv 3) (po_some pe_int) po_none)) (pg_name (i := 5) sc_Lclock_text.nd rfl (.inl rfl))
        (pss_one (ps_set (i := 4) sc_Lclock_text.nd rfl (.inl rfl) (pe_op op_add_str (pe_op op_add_str (pe_op op_add_str (pv 4) pe_str) (pe_ix ix_list (pe_lst (pa_cons pe_str (pa_cons pe_str pa_nil))) (pe_callTy call_int1 (by rfl) T.m_int (by decide +kernel) (pa_cons (pe_cmpR op_lt (pv 5) pe_int (nomark _)) pa_nil)) (fun _ _ => rfl))) (pe_callTy call_str_int (by rfl) T.m_str (by decide +kernel) (pa_cons (pv 5) pa_nil))))))
      (Evl.pss_cut (ps_if (pt_cmpR op_gt (pe_op op_modN (pe_ix ix_tup (pv 0) pe_int (fun _ _ => rfl)) (pe_ix ix_tup (pv 0) pe_int (fun _ _ => rfl))) pe_int (nomark _))
        (pss_one (ps_set (i := 4) sc_Lclock_text.nd rfl (.inl rfl) (pe_op op_add_str (pe_op op_add_str (pe_op op_add_str (pe_op op_add_str (pv 4) pe_str) (pe_callTy call_str_int (by rfl) T.m_str (by decide +kernel) (pa_cons (pe_op op_modN (pe_ix ix_tup (pv 0) pe_int (fun _ _ => rfl)) (pe_ix ix_tup (pv 0) pe_int (fun _ _ => rfl))) pa_nil))) pe_str) (pe_callTy call_str_int (by rfl) T.m_str (by decide +kernel) (pa_cons (pe_ix ix_tup (pv 0) pe_int (fun _ _ => rfl)) pa_nil)))))
        pss_nil)
      (pss_one (ps_ret (pv 4)))))))), ?_⟩
    have e1 : (fun i j : Int => V.int (i.fdiv j)) x.num (x.den : Int) = .int (qw x) := by
      show V.int (x.num.fdiv (x.den : Int)) = _
      rw [qf]
    have e2 : (fun i j : Int => V.int (i.fmod j)) x.num (x.den : Int) = .int (qr x) := by
      show V.int (x.num.fmod (x.den : Int)) = _
      rw [qm]
    have e3 : (fun i j : Int => V.int (i.fdiv j)) (qw x) r = .int (qw x / r) := by
      show V.int ((qw x).fdiv r) = _
      rw [Int.fdiv_eq_ediv_of_nonneg _ (by omega)]
    have e4 : (fun i j : Int => V.int (i.fmod j)) (qw x) r = .int (qw x % r) := by
      show V.int ((qw x).fmod r) = _
      rw [Int.fmod_eq_emod_of_nonneg _ (by omega)]
    have cd : CDivX (qw x) r := cdiv (b := 100) (by omega) (by omega) (by decide) (by decide)
    have g := qw_rg bd
    have hwn : 0 ≤ qw x / r := Int.ediv_nonneg g.1 (by omega)
    have hwl : qw x / r ≤ qw x := Int.ediv_le_self _ g.1
    have hm0 : 0 ≤ qw x % r := Int.emod_nonneg _ (by omega)
    have hm1 : qw x % r < r := Int.emod_lt_of_pos _ r0
    have a0 : 0 ≤ qw x / r / 3600 := by omega
    have a1 : qw x / r / 3600 < 10 ^ 30 := by omega
    refine ⟨_, rfl, _, _, _, _, rfl, rfl, h0, atI_nat (j := 0) rfl, _, rfl, _, _, _, _, rfl, rfl, h0, atI_nat (j := 1) rfl, _, _, rfl, rfl, cdq bd2, ?_⟩
    rw [e1]
    refine ⟨_, rfl, _, rfl, _, _, rfl, rfl, cd, ?_⟩
    rw [e3]
    refine ⟨_, _, rfl, rfl, ⟨by decide, by decide⟩, _, rfl, _, rfl, _, _, rfl, rfl, cd, ?_⟩
    rw [e3]
    refine ⟨_, _, rfl, rfl, ⟨by decide, by decide⟩, _, _, rfl, rfl, (show (0 : Int) < 60 by decide), _, rfl, _, rfl, _, _, rfl, rfl, cd, ?_⟩
    rw [e3]
    refine ⟨_, _, rfl, rfl, (show (0 : Int) < 60 by decide), _, rfl, _, rfl, _, _, rfl, rfl, (show r ≠ 0 by omega), ?_⟩
    rw [e4]
    refine ⟨(show 4 ≤ sizeLine by decide), fun n hn => ?_⟩
    have s1 : Same H (upd H n (.lst [.int (qw x / r / 3600), .int (qw x / r / 60 % 60), .int (qw x / r % 60), .int (qw x % r)])) := Same.new hn
    have hN : SqL K (upd H n (.lst [.int (qw x / r / 3600), .int (qw x / r / 60 % 60), .int (qw x / r % 60), .int (qw x % r)])) n [.int (qw x / r / 3600), .int (qw x / r / 60 % 60), .int (qw x / r % 60), .int (qw x % r)] := .inl (.inl upd_same)
    change tSeq _ _ _ _ (upd H n (.lst [.int (qw x / r / 3600), .int (qw x / r / 60 % 60), .int (qw x / r % 60), .int (qw x % r)]))
    generalize upd H n (.lst [.int (qw x / r / 3600), .int (qw x / r / 60 % 60), .int (qw x / r % 60), .int (qw x % r)]) = H1 at s1 hN ⊢
    refine ⟨_, rfl, _, _, _, _, rfl, rfl, hN, atI_nat (j := 0) rfl, _, rfl, lg a0 a1, ?_⟩
    refine ⟨_, rfl, _, rfl, n, _, rfl, hN, fun c hc => ?_⟩
    have s2 := s1.trans (Same.new (o := .lst (cutV [.int (qw x / r / 3600), .int (qw x / r / 60 % 60), .int (qw x / r % 60), .int (qw x % r)] (some 1) none)) hc)
    have hC : SqL K (upd H1 c (.lst (cutV [.int (qw x / r / 3600), .int (qw x / r / 60 % 60), .int (qw x / r % 60), .int (qw x % r)] (some 1) none))) c ([qw x / r / 60 % 60, qw x / r % 60, qw x % r].map V.int) := .inl (.inl upd_same)
    generalize upd H1 c (.lst (cutV [.int (qw x / r / 3600), .int (qw x / r / 60 % 60), .int (qw x / r % 60), .int (qw x % r)] (some 1) none)) = H2 at s2 hC ⊢
    have h2 : SqT K H2 a [.int x.num, .int (x.den : Int)] := Same.tup s2 h0
    refine ⟨c, rfl, ⟨_, hC⟩, for_list (K := K) (a := c) (xs := [qw x / r / 60 % 60, qw x / r % 60, qw x % r].map V.int) (fun i σ H' => ∃ o, σ = [some (.ref a), some (.int r), some (.int (qw x)), some (.ref n), some (.str (clkN x r i)), o] ∧ Same H2 H' ∧ (clkN x r i).length ≤ 30 + 32 * i) ⟨none, rfl, Same.refl _, sI_len a0 a1⟩ (fun i σ H' _ h => ?_) (fun i y σ H' hy h => ?_) (fun σ H' h => ?_)⟩
    · obtain ⟨o, rfl, s3, _⟩ := h
      exact s3.seq hC
    · obtain ⟨o, rfl, s3, hl⟩ := h
      obtain ⟨z, z0, z1, rfl, hi, ek⟩ : ∃ z : Int, 0 ≤ z ∧ z < 10 ^ 30 ∧ V.int z = y ∧ i ≤ 2 ∧ clkN x r (i + 1) = clkN x r i ++ ((":" : Str) ++ pad2 z) := by
        match i, hy with
        | 0, hy => exact ⟨_, by omega, by omega, Option.some.inj hy, by decide, rfl⟩
        | 1, hy => exact ⟨_, by omega, by omega, Option.some.inj hy, by decide, rfl⟩
        | 2, hy => exact ⟨_, by omega, by omega, Option.some.inj hy, by decide, rfl⟩
        | k + 3, hy => simp at hy
      have lz := sI_len z0 z1
      have lp := pad2_len z0 z1
      refine ⟨_, rfl, _, _, rfl, rfl, sz60 (show (clkN x r i).length + 1 ≤ 1000 by omega), ?_⟩
      refine ⟨(show 2 ≤ sizeLine by decide), fun p hp => ?_⟩
      have s4 := s3.trans (Same.new (o := .lst [.str "", .str "0"]) hp)
      have hP : SqL K (upd H' p (.lst [.str "", .str "0"])) p [.str "", .str "0"] := .inl (.inl upd_same)
      refine ⟨_, rfl, _, _, rfl, rfl, .inr ⟨_, rfl, ?_⟩⟩
      refine ⟨p, _, _, .str (if z < 10 then "0" else ""), rfl, rfl, hP, ?_, ?_⟩
      · by_cases h10 : z < 10
        · rw [decide_eq_true h10, if_pos h10]
          exact atI_nat (j := 1) rfl
        · rw [decide_eq_false h10, if_neg h10]
          exact atI_nat (j := 0) rfl
      have lq : (if z < 10 then ("0" : Str) else ("" : Str)).length ≤ 1 := by
        split <;> decide
      refine ⟨_, _, rfl, rfl, sz60 (by rw [slen]; show (clkN x r i).length + 1 + (if z < 10 then ("0" : Str) else ("" : Str)).length ≤ 1000; omega), ?_⟩
      refine ⟨_, rfl, _, rfl, lg z0 z1, _, _, rfl, rfl, sz60 (by rw [slen, slen]; show (clkN x r i).length + 1 + (if z < 10 then ("0" : Str) else ("" : Str)).length + (sI z).length ≤ 1000; omega), some (.int z), ?_, s4, ?_⟩
      · show ([some (.ref a), some (.int r), some (.int (qw x)), some (.ref n), some (.str (((clkN x r i ++ (":" : Str)) ++ (if z < 10 then ("0" : Str) else ("" : Str))) ++ sI z)), some (.int z)] : List (Option V)) = _
        rw [sapp (clkN x r i ++ (":" : Str)), padI, ek]
      · rw [ek, slen, slen]
        show (clkN x r i).length + (1 + (pad2 z).length) ≤ 30 + 32 * (i + 1)
        omega
    · obtain ⟨o, rfl, s3, hl⟩ := h
      have h3 : SqT K H' a [.int x.num, .int (x.den : Int)] := Same.tup s3 h2
      have gr := qr_rg bd2
      have l2 := sI_len gr.1 gr.2
      have l3 := sI_len (show 0 ≤ (x.den : Int) by omega) bd2.den
      have q2 := q _ (s2.trans s3)
      rw [← clkN_all] at q2
      change (clkN x r 3).length ≤ 30 + 32 * 3 at hl
      refine ⟨fun σ' H'' => H'' = H' ∧ σ' = [some (.ref a), some (.int r), some (.int (qw x)), some (.ref n), some (.str (clkN x r 3 ++ rs (qr x) (x.den : Int))), o], ?_, fun σ' H'' hM => ?_⟩
      · refine ⟨_, rfl, _, _, _, _, rfl, rfl, h3, atI_nat (j := 0) rfl, _, rfl, _, _, _, _, rfl, rfl, h3, atI_nat (j := 1) rfl, _, _, rfl, rfl, den_ne x, ?_⟩
        rw [e2]
        refine ⟨_, _, rfl, rfl, _, rfl, ite2 (fun z => ?_) (fun z => ?_)⟩
        · have z1 : 0 < qr x := of_decide_eq_true z
          refine ⟨_, rfl, _, _, rfl, rfl, sz60 (show (clkN x r 3).length + 1 ≤ 1000 by omega), ?_⟩
          refine ⟨_, rfl, _, _, _, _, rfl, rfl, h3, atI_nat (j := 0) rfl, _, rfl, _, _, _, _, rfl, rfl, h3, atI_nat (j := 1) rfl, _, _, rfl, rfl, den_ne x, ?_⟩
          rw [e2]
          refine ⟨_, rfl, lg gr.1 gr.2, _, _, rfl, rfl, sz60 (by rw [slen]; show (clkN x r 3).length + 1 + (sI (qr x)).length ≤ 1000; omega), ?_⟩
          refine ⟨_, _, rfl, rfl, sz60 (by rw [slen, slen]; show (clkN x r 3).length + 1 + (sI (qr x)).length + 1 ≤ 1000; omega), ?_⟩
          refine ⟨_, rfl, _, _, _, _, rfl, rfl, h3, atI_nat (j := 1) rfl, _, rfl, lg (show 0 ≤ (x.den : Int) by omega) bd2.den, _, _, rfl, rfl, sz60 (by rw [slen, slen, slen]; show (clkN x r 3).length + 1 + (sI (qr x)).length + 1 + (sI (x.den : Int)).length ≤ 1000; omega), rfl, ?_⟩
          show ([some (.ref a), some (.int r), some (.int (qw x)), some (.ref n), some (.str ((((clkN x r 3 ++ (" " : Str)) ++ sI (qr x)) ++ ("/" : Str)) ++ sI (x.den : Int))), o] : List (Option V)) = _
          rw [sapp, sapp, sapp]
          unfold rs
          rw [if_neg (by omega)]
        · have z1 : qr x = 0 := by
            have : ¬ (0 < qr x) := fun y => z (decide_eq_true y)
            omega
          refine ⟨rfl, ?_⟩
          unfold rs
          rw [if_pos z1, sapp_nil]
          rfl
      · obtain ⟨rfl, rfl⟩ := hM
        exact ⟨_, rfl, q2⟩
def spRate (K : PySem.W.Frag) : Sp := fun vs H Q _ => ∃ (b l : Addr), vs = [.ref b] ∧ Bx H b l ∧ ∀ H' (r : Int), Same (hid b l H) (hid b l H') → Bx H' b l → 0 < r → r ≤ 120 → Q (.int r) H'
theorem cl_Lrate (T : Txt K mg) : Cl P w K mg base CX0 2 "_law_rate" (spRate K) := by
  have c_Ltake := cl_Ltake (P := P) (w := w) (base := base) T
  refine T.d_Lrate.cl sc_Lrate (fun vs H Q E h => ?_) (fun f cdv A outer s H vs Q E hr h => ?_)
  · obtain ⟨b, l, rfl, _⟩ := h
    rfl
  · obtain ⟨b, l, rfl, B, q⟩ := h
    refine ⟨_, (pss_one (ps_ret (pe_ix ix_list (pe_lst (pa_cons pe_int (pa_cons pe_int (pa_cons pe_int (pa_cons (pe_op op_add pe_int (pe_cl c_Ltake hr (by decide) (by rfl) (pa_cons (pv 0) (pa_cons pe_int pa_nil)))) pa_nil))))) (pe_cl c_Ltake hr (by decide) (by rfl) (pa_cons (pv 0) (pa_cons pe_int pa_nil))) (fun _ _ => rfl)))), ?_⟩
    refine ⟨_, rfl, _, l, _, rfl, B, by decide, by decide, fun H1 r1 s1 B1 a1 b1 => ?_⟩
    refine ⟨_, _, rfl, rfl, (show 4 ≤ sizeLine by decide), fun p hp => ?_⟩
    have s2 := Same.new (o := .lst [.int 24, .int 25, .int 30, .int (1 + r1)]) hp
    have B2 := B1.mono s2
    have hP : hid b l (upd H1 p (.lst [.int 24, .int 25, .int 30, .int (1 + r1)])) p = some (.lst [.int 24, .int 25, .int 30, .int (1 + r1)]) := hid_at B1 hp
    refine ⟨_, rfl, _, l, _, rfl, B2, by decide, by decide, fun H3 r3 s3 B3 a3 b3 => ?_⟩
    have hP3 : SqL K H3 p [.int 24, .int 25, .int 30, .int (1 + r1)] := .inl (.inl (hid_same _ _ (s3 _ _ hP)))
    have sA := (s1.trans (Same.hid s2)).trans s3
    obtain e | e | e | e : r3 = 0 ∨ r3 = 1 ∨ r3 = 2 ∨ r3 = 3 := by omega
    · subst e
      exact ⟨_, _, _, _, rfl, rfl, hP3, atI_nat (j := 0) rfl, q _ _ sA B3 (by decide) (by decide)⟩
    · subst e
      exact ⟨_, _, _, _, rfl, rfl, hP3, atI_nat (j := 1) rfl, q _ _ sA B3 (by decide) (by decide)⟩
    · subst e
      exact ⟨_, _, _, _, rfl, rfl, hP3, atI_nat (j := 2) rfl, q _ _ sA B3 (by decide) (by decide)⟩
    · subst e
      exact ⟨_, _, _, _, rfl, rfl, hP3, atI_nat (j := 3) rfl, q _ _ sA B3 (by omega) (by omega)⟩
def spAnyTime (K : PySem.W.Frag) : Sp := fun vs H Q _ => ∃ (b l : Addr), vs = [.ref b] ∧ Bx H b l ∧ ∀ H' v (x : Rat), Same (hid b l H) (hid b l H') → Bx H' b l → Dp K H' v (dF x) → Bd 1000000 x → Q v H'
theorem bd_fr {t b n : Int} (t0 : 0 ≤ t) (t1 : t < n) (b0 : 0 < b) (b1 : b < n) : Bd n (Rat.divInt t b) := by
  have hne : b ≠ 0 := by omega
  have h1 := divInt_num_le t b
  have h2 := divInt_den_le (t := t) hne
  refine ⟨?_, by omega, by omega⟩
  rw [← fr_num hne]
  unfold frI
  rw [if_neg (by omega), Int.fdiv_eq_ediv_of_nonneg _ (by omega)]
  exact Int.ediv_nonneg t0 (by omega)
theorem cl_Lany_time (T : Txt K mg) : Cl P w K mg base CX0 2 "_law_any_time" (spAnyTime K) := by
  have c_Ltake := cl_Ltake (P := P) (w := w) (base := base) T
  have c_Lfr := cl_Lfr (P := P) (w := w) (base := base) T
  refine T.d_Lany_time.cl sc_Lany_time (fun vs H Q E h => ?_) (fun f cdv A outer s H vs Q E hr h => ?_)
  · obtain ⟨b, l, rfl, _⟩ := h
    rfl
  · obtain ⟨b, l, rfl, B, q⟩ := h
    refine ⟨_, (pss_cons (ps_set (i := 1) sc_Lany_time.nd rfl (.inl rfl) (pe_cl c_Ltake hr (by decide) (by rfl) (pa_cons (pv 0) (pa_cons pe_int pa_nil))))
      (Evl.pss_cut (ps_if (pt_cmpR op_eq (pe_cl c_Ltake hr (by decide) (by rfl) (pa_cons (pv 0) (pa_cons pe_int pa_nil))) pe_int (nomark _))
        (pss_one (ps_set (i := 1) sc_Lany_time.nd rfl (.inl rfl) (pe_cl c_Ltake hr (by decide) (by rfl) (pa_cons (pv 0) (pa_cons pe_int pa_nil)))))
        pss_nil)
      (pss_one (ps_ret (pe_cl c_Lfr hr (by decide) (by rfl) (pa_cons (pv 1) (pa_cons (pe_ix ix_list (pe_lst (pa_cons pe_int (pa_cons (pe_op op_add pe_int (pe_cl c_Ltake hr (by decide) (by rfl) (pa_cons (pv 0) (pa_cons pe_int pa_nil)))) (pa_cons (pe_op op_add pe_int (pe_cl c_Ltake hr (by decide) (by rfl) (pa_cons (pv 0) (pa_cons pe_int pa_nil)))) pa_nil)))) (pe_cl c_Ltake hr (by decide) (by rfl) (pa_cons (pv 0) (pa_cons pe_int pa_nil))) (fun _ _ => rfl)) pa_nil))))))), ?_⟩
    refine ⟨_, rfl, _, l, _, rfl, B, by decide, by decide, fun H1 r1 s1 B1 a1 b1 => ?_⟩
    refine ⟨fun σ' H' => ∃ t : Int, σ' = [some (.ref b), some (.int t)] ∧ Same (hid b l H) (hid b l H') ∧ Bx H' b l ∧ 0 ≤ t ∧ t < 1000000, ?_, fun σ' H' hM => ?_⟩
    · refine ⟨_, rfl, _, l, _, rfl, B1, by decide, by decide, fun H2 r2 s2 B2 a2 b2 => ?_⟩
      refine ⟨rfl, _, rfl, ite2 (fun z => ?_) (fun z => ?_)⟩
      · refine ⟨_, rfl, _, l, _, rfl, B2, by decide, by decide, fun H3 r3 s3 B3 a3 b3 => ?_⟩
        exact ⟨r3, rfl, (s1.trans s2).trans s3, B3, a3, by omega⟩
      · exact ⟨r1, rfl, s1.trans s2, B2, a1, b1⟩
    · obtain ⟨t, rfl, s2, B2, t0, t1⟩ := hM
      refine ⟨_, rfl, _, rfl, _, l, _, rfl, B2, by decide, by decide, fun H3 r3 s3 B3 a3 b3 => ?_⟩
      refine ⟨_, _, rfl, rfl, _, rfl, _, l, _, rfl, B3, by decide, by decide, fun H4 r4 s4 B4 a4 b4 => ?_⟩
      refine ⟨_, _, rfl, rfl, (show 3 ≤ sizeLine by decide), fun p hp => ?_⟩
      have s5 := Same.new (o := .lst [.int 1, .int (1 + r3), .int (1 + r4)]) hp
      have B5 := B4.mono s5
      have hP : hid b l (upd H4 p (.lst [.int 1, .int (1 + r3), .int (1 + r4)])) p = some (.lst [.int 1, .int (1 + r3), .int (1 + r4)]) := hid_at B4 hp
      refine ⟨_, rfl, _, l, _, rfl, B5, by decide, by decide, fun H6 r6 s6 B6 a6 b6 => ?_⟩
      have hP3 : SqL K H6 p [.int 1, .int (1 + r3), .int (1 + r4)] := .inl (.inl (hid_same _ _ (s6 _ _ hP)))
      have sA := (((s2.trans s3).trans s4).trans (Same.hid s5)).trans s6
      have fin : ∀ bt : Int, 0 < bt → bt < 1000000 → spMade K [.int t, .int bt] H6 Q E0 := fun bt b0 b1 =>
        ⟨t, bt, rfl, by omega, p20 (by omega), fun H7 v s7 d7 => q _ v _ (sA.trans (Same.hid s7)) (B6.mono s7) d7 (bd_fr t0 t1 b0 b1)⟩
      obtain e | e | e : r6 = 0 ∨ r6 = 1 ∨ r6 = 2 := by omega
      · subst e
        exact ⟨_, _, _, _, rfl, rfl, hP3, atI_nat (j := 0) rfl, fin _ (by decide) (by decide)⟩
      · subst e
        exact ⟨_, _, _, _, rfl, rfl, hP3, atI_nat (j := 1) rfl, fin _ (by omega) (by omega)⟩
      · subst e
        exact ⟨_, _, _, _, rfl, rfl, hP3, atI_nat (j := 2) rfl, fin _ (by omega) (by omega)⟩
def spLaw (K : PySem.W.Frag) : Sp := fun vs H Q _ => ∃ (a : Addr) (ns : List Int), vs = [.ref a] ∧ SqL K H a (ns.map V.int) ∧ ns.length ≤ 63 ∧ ∀ H', Q (.bl true) H'
theorem ok_law {f : Addr} {fd : FuncData} (F : Fun K "law" "law" s_law f fd) (T : Txt K mg) : FnOk P w K mg base CX0 5 f fd ["_law_script"] (spLaw K) := by
  have c_Lbegun := cl_Lbegun (P := P) (w := w) (base := base) T
  have c_Lany_time := cl_Lany_time (P := P) (w := w) (base := base) T
  have c_Lrate := cl_Lrate (P := P) (w := w) (base := base) T
  have c_as_frames := cl_as_frames (P := P) (w := w) (base := base) T
  have c_as_seconds := cl_as_seconds (P := P) (w := w) (base := base) T
  have c_as_clock := cl_as_clock (P := P) (w := w) (base := base) T
  have c_Lframes_text := cl_Lframes_text (P := P) (w := w) (base := base) T
  have c_Lseconds_text := cl_Lseconds_text (P := P) (w := w) (base := base) T
  have c_Lclock_text := cl_Lclock_text (P := P) (w := w) (base := base) T
  have c_Lalike := cl_Lalike (P := P) (w := w) (base := base) T 1
  refine F.ok sc_law (fun vs H Q E h => ?_) (fun cdv A outer s H vs Q E hr h => ?_)
  · obtain ⟨a, ns, rfl, _⟩ := h
    rfl
  · obtain ⟨a, ns, rfl, hS, hlen, q⟩ := h
    refine ⟨_, (pss_cons (ps_set (i := 1) sc_law.nd rfl (.inl rfl) (pe_cl c_Lbegun hr (by decide) (by rfl) (pa_cons (pv 0) pa_nil)))
      (pss_cons (ps_set (i := 2) sc_law.nd rfl (.inl rfl) (pe_cl c_Lany_time hr (by decide) (by rfl) (pa_cons (pv 1) pa_nil)))
      (pss_cons (ps_set (i := 3) sc_law.nd rfl (.inl rfl) (pe_cl c_Lrate hr (by decide) (by rfl) (pa_cons (pv 1) pa_nil)))
      (pss_cons (ps_if (pt_not (pt_val (pe_cl c_Lalike hr (by decide) (by rfl) (pa_cons (pe_cl c_as_frames hr (by decide) (by rfl) (pa_cons (pv 2) pa_nil)) (pa_cons (pe_cl c_Lframes_text hr (by decide) (by rfl) (pa_cons (pv 2) pa_nil)) pa_nil)))))
        (pss_one (ps_ret pe_bl))
        pss_nil)
      (pss_cons (ps_if (pt_not (pt_val (pe_cl c_Lalike hr (by decide) (by rfl) (pa_cons (pe_cl c_as_seconds hr (by decide) (by rfl) (pa_cons (pv 2) (pa_cons (pv 3) pa_nil))) (pa_cons (pe_cl c_Lseconds_text hr (by decide) (by rfl) (pa_cons (pv 2) (pa_cons (pv 3) pa_nil))) pa_nil)))))
        (pss_one (ps_ret pe_bl))
        pss_nil)
      (pss_one (ps_ret (pe_cl c_Lalike hr (by decide) (by rfl) (pa_cons (pe_cl c_as_clock hr (by decide) (by rfl) (pa_cons (pv 2) (pa_cons (pv 3) pa_nil))) (pa_cons (pe_cl c_Lclock_text hr (by decide) (by rfl) (pa_cons (pv 2) (pa_cons (pv 3) pa_nil))) pa_nil)))))))))), ?_⟩
    refine ⟨_, rfl, a, ns, rfl, hS, fun H1 b l s1 nb nl B1 => ?_⟩
    refine ⟨_, rfl, b, l, rfl, B1, fun H2 v x s2 B2 d2 bd => ?_⟩
    refine ⟨_, rfl, b, l, rfl, B2, fun H3 r s3 B3 r0 r1 => ?_⟩
    have d3 := frac_keep d2 B2 s3
    have b30 : Bd (10 ^ 30) x := bd.mono (by decide)
    have b27 : Bd (10 ^ 27) x := bd.mono (by decide)
    refine ⟨_, rfl, _, x, rfl, d3, b30, _, rfl, _, x, rfl, d3, b30, ?_⟩
    refine ⟨_, _, _, rfl, .str _, .str _, (show 0 < 1 by decide), rfl, _, rfl, iteN rfl ?_⟩
    refine ⟨_, rfl, _, rfl, _, x, r, rfl, d3, b27, r0, r1, fun H4 s4 => ?_⟩
    have d4 := dp_mono s4 _ _ d3
    refine ⟨_, rfl, _, rfl, _, x, r, rfl, d4, b27, r0, r1, fun H5 s5 => ?_⟩
    have d5 := dp_mono s5 _ _ d4
    refine ⟨_, _, _, rfl, .str _, .str _, (show 0 < 1 by decide), rfl, _, rfl, iteN rfl ?_⟩
    refine ⟨_, rfl, _, rfl, _, x, r, rfl, d5, b27, r0, r1, fun H6 s6 => ?_⟩
    have d6 := dp_mono s6 _ _ d5
    refine ⟨_, rfl, _, rfl, _, x, r, rfl, d6, b27, r0, r1, fun H7 s7 => ?_⟩
    exact ⟨_, _, _, rfl, .str _, .str _, (show 0 < 1 by decide), rfl, q _⟩
end
theorem txt_mk {K : PySem.W.Frag} {h : Heap} {mg : Str → Option Value} (X : K.In h) (G : h.Ns mainGlobals mg)
    {f0 : Addr} {od0 an0 : Option Addr} {sl0 : Array (Option Value)} {oc0 kV0 dc0 pm0 cd0 ct0 : Value}
    (a0 : PySem.W.nsIn K mainGlobals "common_divisor" = some (some (.ref f0))) (l0 : K.lookup f0 = some ⟨oc0, od0, .func (PySem.W.fnOf "common_divisor" "common_divisor" (defArgs s_common_divisor) (defBody s_common_divisor) (defScope s_common_divisor) .none kV0 dc0 pm0 an0 cd0 ct0), sl0⟩) (c0 : PySem.W.codeIn K cd0 "common_divisor" = true) (k0 : PySem.W.keepIn K (.ref f0) = true)
    {f1 : Addr} {od1 an1 : Option Addr} {sl1 : Array (Option Value)} {oc1 kV1 dc1 pm1 cd1 ct1 : Value}
    (a1 : PySem.W.nsIn K mainGlobals "made" = some (some (.ref f1))) (l1 : K.lookup f1 = some ⟨oc1, od1, .func (PySem.W.fnOf "made" "made" (defArgs s_made) (defBody s_made) (defScope s_made) .none kV1 dc1 pm1 an1 cd1 ct1), sl1⟩) (c1 : PySem.W.codeIn K cd1 "made" = true) (k1 : PySem.W.keepIn K (.ref f1) = true)
    {f2 : Addr} {od2 an2 : Option Addr} {sl2 : Array (Option Value)} {oc2 kV2 dc2 pm2 cd2 ct2 : Value}
    (a2 : PySem.W.nsIn K mainGlobals "over" = some (some (.ref f2))) (l2 : K.lookup f2 = some ⟨oc2, od2, .func (PySem.W.fnOf "over" "over" (defArgs s_over) (defBody s_over) (defScope s_over) .none kV2 dc2 pm2 an2 cd2 ct2), sl2⟩) (c2 : PySem.W.codeIn K cd2 "over" = true) (k2 : PySem.W.keepIn K (.ref f2) = true)
    {f3 : Addr} {od3 an3 : Option Addr} {sl3 : Array (Option Value)} {oc3 kV3 dc3 pm3 cd3 ct3 : Value}
    (a3 : PySem.W.nsIn K mainGlobals "with_rest" = some (some (.ref f3))) (l3 : K.lookup f3 = some ⟨oc3, od3, .func (PySem.W.fnOf "with_rest" "with_rest" (defArgs s_with_rest) (defBody s_with_rest) (defScope s_with_rest) .none kV3 dc3 pm3 an3 cd3 ct3), sl3⟩) (c3 : PySem.W.codeIn K cd3 "with_rest" = true) (k3 : PySem.W.keepIn K (.ref f3) = true)
    {f4 : Addr} {od4 an4 : Option Addr} {sl4 : Array (Option Value)} {oc4 kV4 dc4 pm4 cd4 ct4 : Value}
    (a4 : PySem.W.nsIn K mainGlobals "as_mixed" = some (some (.ref f4))) (l4 : K.lookup f4 = some ⟨oc4, od4, .func (PySem.W.fnOf "as_mixed" "as_mixed" (defArgs s_as_mixed) (defBody s_as_mixed) (defScope s_as_mixed) .none kV4 dc4 pm4 an4 cd4 ct4), sl4⟩) (c4 : PySem.W.codeIn K cd4 "as_mixed" = true) (k4 : PySem.W.keepIn K (.ref f4) = true)
    {f5 : Addr} {od5 an5 : Option Addr} {sl5 : Array (Option Value)} {oc5 kV5 dc5 pm5 cd5 ct5 : Value}
    (a5 : PySem.W.nsIn K mainGlobals "as_frames" = some (some (.ref f5))) (l5 : K.lookup f5 = some ⟨oc5, od5, .func (PySem.W.fnOf "as_frames" "as_frames" (defArgs s_as_frames) (defBody s_as_frames) (defScope s_as_frames) .none kV5 dc5 pm5 an5 cd5 ct5), sl5⟩) (c5 : PySem.W.codeIn K cd5 "as_frames" = true) (k5 : PySem.W.keepIn K (.ref f5) = true)
    {f6 : Addr} {od6 an6 : Option Addr} {sl6 : Array (Option Value)} {oc6 kV6 dc6 pm6 cd6 ct6 : Value}
    (a6 : PySem.W.nsIn K mainGlobals "as_seconds" = some (some (.ref f6))) (l6 : K.lookup f6 = some ⟨oc6, od6, .func (PySem.W.fnOf "as_seconds" "as_seconds" (defArgs s_as_seconds) (defBody s_as_seconds) (defScope s_as_seconds) .none kV6 dc6 pm6 an6 cd6 ct6), sl6⟩) (c6 : PySem.W.codeIn K cd6 "as_seconds" = true) (k6 : PySem.W.keepIn K (.ref f6) = true)
    {f7 : Addr} {od7 an7 : Option Addr} {sl7 : Array (Option Value)} {oc7 kV7 dc7 pm7 cd7 ct7 : Value}
    (a7 : PySem.W.nsIn K mainGlobals "as_clock" = some (some (.ref f7))) (l7 : K.lookup f7 = some ⟨oc7, od7, .func (PySem.W.fnOf "as_clock" "as_clock" (defArgs s_as_clock) (defBody s_as_clock) (defScope s_as_clock) .none kV7 dc7 pm7 an7 cd7 ct7), sl7⟩) (c7 : PySem.W.codeIn K cd7 "as_clock" = true) (k7 : PySem.W.keepIn K (.ref f7) = true)
    {f8 : Addr} {od8 an8 : Option Addr} {sl8 : Array (Option Value)} {oc8 kV8 dc8 pm8 cd8 ct8 : Value}
    (a8 : PySem.W.nsIn K mainGlobals "_law_begun" = some (some (.ref f8))) (l8 : K.lookup f8 = some ⟨oc8, od8, .func (PySem.W.fnOf "_law_begun" "_law_begun" (defArgs s_Lbegun) (defBody s_Lbegun) (defScope s_Lbegun) .none kV8 dc8 pm8 an8 cd8 ct8), sl8⟩) (c8 : PySem.W.codeIn K cd8 "_law_begun" = true) (k8 : PySem.W.keepIn K (.ref f8) = true)
    {f9 : Addr} {od9 an9 : Option Addr} {sl9 : Array (Option Value)} {oc9 kV9 dc9 pm9 cd9 ct9 : Value}
    (a9 : PySem.W.nsIn K mainGlobals "_law_take" = some (some (.ref f9))) (l9 : K.lookup f9 = some ⟨oc9, od9, .func (PySem.W.fnOf "_law_take" "_law_take" (defArgs s_Ltake) (defBody s_Ltake) (defScope s_Ltake) .none kV9 dc9 pm9 an9 cd9 ct9), sl9⟩) (c9 : PySem.W.codeIn K cd9 "_law_take" = true) (k9 : PySem.W.keepIn K (.ref f9) = true)
    {f10 : Addr} {od10 an10 : Option Addr} {sl10 : Array (Option Value)} {oc10 kV10 dc10 pm10 cd10 ct10 : Value}
    (a10 : PySem.W.nsIn K mainGlobals "_law_alike" = some (some (.ref f10))) (l10 : K.lookup f10 = some ⟨oc10, od10, .func (PySem.W.fnOf "_law_alike" "_law_alike" (defArgs s_Lalike) (defBody s_Lalike) (defScope s_Lalike) .none kV10 dc10 pm10 an10 cd10 ct10), sl10⟩) (c10 : PySem.W.codeIn K cd10 "_law_alike" = true) (k10 : PySem.W.keepIn K (.ref f10) = true)
    {f11 : Addr} {od11 an11 : Option Addr} {sl11 : Array (Option Value)} {oc11 kV11 dc11 pm11 cd11 ct11 : Value}
    (a11 : PySem.W.nsIn K mainGlobals "_law_fr" = some (some (.ref f11))) (l11 : K.lookup f11 = some ⟨oc11, od11, .func (PySem.W.fnOf "_law_fr" "_law_fr" (defArgs s_Lfr) (defBody s_Lfr) (defScope s_Lfr) .none kV11 dc11 pm11 an11 cd11 ct11), sl11⟩) (c11 : PySem.W.codeIn K cd11 "_law_fr" = true) (k11 : PySem.W.keepIn K (.ref f11) = true)
    {f12 : Addr} {od12 an12 : Option Addr} {sl12 : Array (Option Value)} {oc12 kV12 dc12 pm12 cd12 ct12 : Value}
    (a12 : PySem.W.nsIn K mainGlobals "_law_mixed" = some (some (.ref f12))) (l12 : K.lookup f12 = some ⟨oc12, od12, .func (PySem.W.fnOf "_law_mixed" "_law_mixed" (defArgs s_Lmixed) (defBody s_Lmixed) (defScope s_Lmixed) .none kV12 dc12 pm12 an12 cd12 ct12), sl12⟩) (c12 : PySem.W.codeIn K cd12 "_law_mixed" = true) (k12 : PySem.W.keepIn K (.ref f12) = true)
    {f13 : Addr} {od13 an13 : Option Addr} {sl13 : Array (Option Value)} {oc13 kV13 dc13 pm13 cd13 ct13 : Value}
    (a13 : PySem.W.nsIn K mainGlobals "_law_frames_text" = some (some (.ref f13))) (l13 : K.lookup f13 = some ⟨oc13, od13, .func (PySem.W.fnOf "_law_frames_text" "_law_frames_text" (defArgs s_Lframes_text) (defBody s_Lframes_text) (defScope s_Lframes_text) .none kV13 dc13 pm13 an13 cd13 ct13), sl13⟩) (c13 : PySem.W.codeIn K cd13 "_law_frames_text" = true) (k13 : PySem.W.keepIn K (.ref f13) = true)
    {f14 : Addr} {od14 an14 : Option Addr} {sl14 : Array (Option Value)} {oc14 kV14 dc14 pm14 cd14 ct14 : Value}
    (a14 : PySem.W.nsIn K mainGlobals "_law_seconds_text" = some (some (.ref f14))) (l14 : K.lookup f14 = some ⟨oc14, od14, .func (PySem.W.fnOf "_law_seconds_text" "_law_seconds_text" (defArgs s_Lseconds_text) (defBody s_Lseconds_text) (defScope s_Lseconds_text) .none kV14 dc14 pm14 an14 cd14 ct14), sl14⟩) (c14 : PySem.W.codeIn K cd14 "_law_seconds_text" = true) (k14 : PySem.W.keepIn K (.ref f14) = true)
    {f15 : Addr} {od15 an15 : Option Addr} {sl15 : Array (Option Value)} {oc15 kV15 dc15 pm15 cd15 ct15 : Value}
    (a15 : PySem.W.nsIn K mainGlobals "_law_clock_text" = some (some (.ref f15))) (l15 : K.lookup f15 = some ⟨oc15, od15, .func (PySem.W.fnOf "_law_clock_text" "_law_clock_text" (defArgs s_Lclock_text) (defBody s_Lclock_text) (defScope s_Lclock_text) .none kV15 dc15 pm15 an15 cd15 ct15), sl15⟩) (c15 : PySem.W.codeIn K cd15 "_law_clock_text" = true) (k15 : PySem.W.keepIn K (.ref f15) = true)
    {f16 : Addr} {od16 an16 : Option Addr} {sl16 : Array (Option Value)} {oc16 kV16 dc16 pm16 cd16 ct16 : Value}
    (a16 : PySem.W.nsIn K mainGlobals "_law_any_time" = some (some (.ref f16))) (l16 : K.lookup f16 = some ⟨oc16, od16, .func (PySem.W.fnOf "_law_any_time" "_law_any_time" (defArgs s_Lany_time) (defBody s_Lany_time) (defScope s_Lany_time) .none kV16 dc16 pm16 an16 cd16 ct16), sl16⟩) (c16 : PySem.W.codeIn K cd16 "_law_any_time" = true) (k16 : PySem.W.keepIn K (.ref f16) = true)
    {f17 : Addr} {od17 an17 : Option Addr} {sl17 : Array (Option Value)} {oc17 kV17 dc17 pm17 cd17 ct17 : Value}
    (a17 : PySem.W.nsIn K mainGlobals "_law_rate" = some (some (.ref f17))) (l17 : K.lookup f17 = some ⟨oc17, od17, .func (PySem.W.fnOf "_law_rate" "_law_rate" (defArgs s_Lrate) (defBody s_Lrate) (defScope s_Lrate) .none kV17 dc17 pm17 an17 cd17 ct17), sl17⟩) (c17 : PySem.W.codeIn K cd17 "_law_rate" = true) (k17 : PySem.W.keepIn K (.ref f17) = true)
    {f18 : Addr} {od18 an18 : Option Addr} {sl18 : Array (Option Value)} {oc18 kV18 dc18 pm18 cd18 ct18 : Value}
    (a18 : PySem.W.nsIn K mainGlobals "law" = some (some (.ref f18))) (l18 : K.lookup f18 = some ⟨oc18, od18, .func (PySem.W.fnOf "law" "law" (defArgs s_law) (defBody s_law) (defScope s_law) .none kV18 dc18 pm18 an18 cd18 ct18), sl18⟩) (c18 : PySem.W.codeIn K cd18 "law" = true) (k18 : PySem.W.keepIn K (.ref f18) = true)
    (z_abs : PySem.W.nsIn K mainGlobals "abs" = some none)
    (z_divmod : PySem.W.nsIn K mainGlobals "divmod" = some none)
    (z_list : PySem.W.nsIn K mainGlobals "list" = some none)
    (z_int : PySem.W.nsIn K mainGlobals "int" = some none)
    (z_len : PySem.W.nsIn K mainGlobals "len" = some none)
    (z_isinstance : PySem.W.nsIn K mainGlobals "isinstance" = some none)
    (z_bool : PySem.W.nsIn K mainGlobals "bool" = some none)
    (z_str : PySem.W.nsIn K mainGlobals "str" = some none)
    (z_tuple : PySem.W.nsIn K mainGlobals "tuple" = some none)
    (z_range : PySem.W.nsIn K mainGlobals "range" = some none)
    {t_SIXTY : Tok} (y_SIXTY : PySem.W.nsIn K mainGlobals "SIXTY" = some (some (.int 60 t_SIXTY))) : Txt K mg := by
  constructor
  · exact ⟨_, _, fun_mk (st := s_common_divisor) l0 c0 k0, PySem.W.mg_of X G a0, (fun_mk (st := s_common_divisor) l0 c0 k0).binds (ps := ["one", "two"]) fun _ _ _ _ _ _ us hl => match us, hl with | [_, _], _ => rfl⟩
  · exact ⟨_, _, fun_mk (st := s_made) l1 c1 k1, PySem.W.mg_of X G a1, (fun_mk (st := s_made) l1 c1 k1).binds (ps := ["top", "bottom"]) fun _ _ _ _ _ _ us hl => match us, hl with | [_, _], _ => rfl⟩
  · exact ⟨_, _, fun_mk (st := s_over) l2 c2 k2, PySem.W.mg_of X G a2, (fun_mk (st := s_over) l2 c2 k2).binds (ps := ["one", "two"]) fun _ _ _ _ _ _ us hl => match us, hl with | [_, _], _ => rfl⟩
  · exact ⟨_, _, fun_mk (st := s_with_rest) l3 c3 k3, PySem.W.mg_of X G a3, (fun_mk (st := s_with_rest) l3 c3 k3).binds (ps := ["whole", "top", "bottom"]) fun _ _ _ _ _ _ us hl => match us, hl with | [_, _, _], _ => rfl⟩
  · exact ⟨_, _, fun_mk (st := s_as_mixed) l4 c4 k4, PySem.W.mg_of X G a4, (fun_mk (st := s_as_mixed) l4 c4 k4).binds (ps := ["fraction"]) fun _ _ _ _ _ _ us hl => match us, hl with | [_], _ => rfl⟩
  · exact ⟨_, _, fun_mk (st := s_as_frames) l5 c5 k5, PySem.W.mg_of X G a5, (fun_mk (st := s_as_frames) l5 c5 k5).binds (ps := ["time"]) fun _ _ _ _ _ _ us hl => match us, hl with | [_], _ => rfl⟩
  · exact ⟨_, _, fun_mk (st := s_as_seconds) l6 c6 k6, PySem.W.mg_of X G a6, (fun_mk (st := s_as_seconds) l6 c6 k6).binds (ps := ["time", "rate"]) fun _ _ _ _ _ _ us hl => match us, hl with | [_, _], _ => rfl⟩
  · exact ⟨_, _, fun_mk (st := s_as_clock) l7 c7 k7, PySem.W.mg_of X G a7, (fun_mk (st := s_as_clock) l7 c7 k7).binds (ps := ["time", "rate"]) fun _ _ _ _ _ _ us hl => match us, hl with | [_, _], _ => rfl⟩
  · exact ⟨_, _, fun_mk (st := s_Lbegun) l8 c8 k8, PySem.W.mg_of X G a8, (fun_mk (st := s_Lbegun) l8 c8 k8).binds (ps := ["_law_script"]) fun _ _ _ _ _ _ us hl => match us, hl with | [_], _ => rfl⟩
  · exact ⟨_, _, fun_mk (st := s_Ltake) l9 c9 k9, PySem.W.mg_of X G a9, (fun_mk (st := s_Ltake) l9 c9 k9).binds (ps := ["_law_box", "_law_many"]) fun _ _ _ _ _ _ us hl => match us, hl with | [_, _], _ => rfl⟩
  · exact ⟨_, _, fun_mk (st := s_Lalike) l10 c10 k10, PySem.W.mg_of X G a10, (fun_mk (st := s_Lalike) l10 c10 k10).binds (ps := ["_law_found", "_law_due"]) fun _ _ _ _ _ _ us hl => match us, hl with | [_, _], _ => rfl⟩
  · exact ⟨_, _, fun_mk (st := s_Lfr) l11 c11 k11, PySem.W.mg_of X G a11, (fun_mk (st := s_Lfr) l11 c11 k11).binds (ps := ["_law_top", "_law_bottom"]) fun _ _ _ _ _ _ us hl => match us, hl with | [_, _], _ => rfl⟩
  · exact ⟨_, _, fun_mk (st := s_Lmixed) l12 c12 k12, PySem.W.mg_of X G a12, (fun_mk (st := s_Lmixed) l12 c12 k12).binds (ps := ["_law_time"]) fun _ _ _ _ _ _ us hl => match us, hl with | [_], _ => rfl⟩
  · exact ⟨_, _, fun_mk (st := s_Lframes_text) l13 c13 k13, PySem.W.mg_of X G a13, (fun_mk (st := s_Lframes_text) l13 c13 k13).binds (ps := ["_law_time"]) fun _ _ _ _ _ _ us hl => match us, hl with | [_], _ => rfl⟩
  · exact ⟨_, _, fun_mk (st := s_Lseconds_text) l14 c14 k14, PySem.W.mg_of X G a14, (fun_mk (st := s_Lseconds_text) l14 c14 k14).binds (ps := ["_law_time", "_law_rate_here"]) fun _ _ _ _ _ _ us hl => match us, hl with | [_, _], _ => rfl⟩
  · exact ⟨_, _, fun_mk (st := s_Lclock_text) l15 c15 k15, PySem.W.mg_of X G a15, (fun_mk (st := s_Lclock_text) l15 c15 k15).binds (ps := ["_law_time", "_law_rate_here"]) fun _ _ _ _ _ _ us hl => match us, hl with | [_, _], _ => rfl⟩
  · exact ⟨_, _, fun_mk (st := s_Lany_time) l16 c16 k16, PySem.W.mg_of X G a16, (fun_mk (st := s_Lany_time) l16 c16 k16).binds (ps := ["_law_box"]) fun _ _ _ _ _ _ us hl => match us, hl with | [_], _ => rfl⟩
  · exact ⟨_, _, fun_mk (st := s_Lrate) l17 c17 k17, PySem.W.mg_of X G a17, (fun_mk (st := s_Lrate) l17 c17 k17).binds (ps := ["_law_box"]) fun _ _ _ _ _ _ us hl => match us, hl with | [_], _ => rfl⟩
  · exact ⟨_, _, fun_mk (st := s_law) l18 c18 k18, PySem.W.mg_of X G a18, (fun_mk (st := s_law) l18 c18 k18).binds (ps := ["_law_script"]) fun _ _ _ _ _ _ us hl => match us, hl with | [_], _ => rfl⟩
  · exact PySem.W.mg_none_of X G z_abs
  · exact PySem.W.mg_none_of X G z_divmod
  · exact PySem.W.mg_none_of X G z_list
  · exact PySem.W.mg_none_of X G z_int
  · exact PySem.W.mg_none_of X G z_len
  · exact PySem.W.mg_none_of X G z_isinstance
  · exact PySem.W.mg_none_of X G z_bool
  · exact PySem.W.mg_none_of X G z_str
  · exact PySem.W.mg_none_of X G z_tuple
  · exact PySem.W.mg_none_of X G z_range
  · exact ⟨_, PySem.W.mg_of X G y_SIXTY, ⟨_, rfl⟩⟩
theorem law_mk {l : PySem.W.OpenLaw} {w : World} {K : PySem.W.Frag} {h : Heap} {mg : Str → Option Value} {fa f2 : Addr} (X : K.In h) (G : h.Ns mainGlobals mg) (hfa : mg "law" = some (.ref fa)) (T : Txt K mg)
    {od2 an2 : Option Addr} {sl2 : Array (Option Value)} {oc2 kV2 dc2 pm2 cd2 ct2 : Value}
    (a2 : PySem.W.nsIn K mainGlobals "law" = some (some (.ref f2))) (l2 : K.lookup f2 = some ⟨oc2, od2, .func (PySem.W.fnOf "law" "law" (defArgs s_law) (defBody s_law) (defScope s_law) .none kV2 dc2 pm2 an2 cd2 ct2), sl2⟩) (c2 : PySem.W.codeIn K cd2 "law" = true) (k2 : PySem.W.keepIn K (.ref f2) = true) :
    ∃ fd : FuncData, (∀ (s : Shared) (v : Value), BindsTo s fd ⟨[v], []⟩ [("_law_script", v)]) ∧ ∀ base : Heap, K.In base → base.Ns mainGlobals mg → FnOk l.prog w K mg base CX0 5 fa fd ["_law_script"] (spLaw K) := by
  have e := hfa.symm.trans (PySem.W.mg_of X G a2)
  cases e
  exact ⟨PySem.W.fnOf "law" "law" (defArgs s_law) (defBody s_law) (defScope s_law) .none kV2 dc2 pm2 an2 cd2 ct2, fun s v => .of_eq rfl, fun base _ _ => ok_law (fun_mk (st := s_law) l2 c2 k2) T⟩
end R
open PySem PySem.W PyProof.Rows
set_option maxHeartbeats 0 in
theorem PySem.Challenge.cw_reels_k02_times_written_holds : PySem.Challenge.rw_reels_k02_times_written.Holds := by
  w_on; o_law; k_head; (case hw => w_witness2)
  k_fill
  refine L2.walk_of (l := PySem.Challenge.rw_reels_k02_times_written) (n := 63) (k := 5) (x := "_law_script") (CX := fun _ => L2.CX0) (sp := fun w => R.spLaw _) rfl (by decide) rfl ⟨rfl, by decide, by decide⟩ (fun w h Y => PySem.W.kIn_of Y) ?F (fun _ _ a ns hl _ hS => ⟨a, ns, rfl, hS, hl, fun _ => rfl⟩) (fun _ _ _ _ _ h => h)
  case F =>
    intro w mg fa h KX G hmg
    refine' R.law_mk KX G hmg (R.txt_mk KX G ?a0 ?l0 ?c0 ?k0 ?a1 ?l1 ?c1 ?k1 ?a2 ?l2 ?c2 ?k2 ?a3 ?l3 ?c3 ?k3 ?a4 ?l4 ?c4 ?k4 ?a5 ?l5 ?c5 ?k5 ?a6 ?l6 ?c6 ?k6 ?a7 ?l7 ?c7 ?k7 ?a8 ?l8 ?c8 ?k8 ?a9 ?l9 ?c9 ?k9 ?a10 ?l10 ?c10 ?k10 ?a11 ?l11 ?c11 ?k11 ?a12 ?l12 ?c12 ?k12 ?a13 ?l13 ?c13 ?k13 ?a14 ?l14 ?c14 ?k14 ?a15 ?l15 ?c15 ?k15 ?a16 ?l16 ?c16 ?k16 ?a17 ?l17 ?c17 ?k17 ?a18 ?l18 ?c18 ?k18 ?z_abs ?z_divmod ?z_list ?z_int ?z_len ?z_isinstance ?z_bool ?z_str ?z_tuple ?z_range   ?y_SIXTY) ?a18 ?l18 ?c18 ?k18
    (case a0 => k_is); (case l0 => k_is); (case c0 => k_is); (case k0 => k_is); (case a1 => k_is); (case l1 => k_is); (case c1 => k_is); (case k1 => k_is); (case a2 => k_is); (case l2 => k_is); (case c2 => k_is); (case k2 => k_is); (case a3 => k_is); (case l3 => k_is); (case c3 => k_is); (case k3 => k_is); (case a4 => k_is); (case l4 => k_is); (case c4 => k_is); (case k4 => k_is); (case a5 => k_is); (case l5 => k_is); (case c5 => k_is); (case k5 => k_is); (case a6 => k_is); (case l6 => k_is); (case c6 => k_is); (case k6 => k_is); (case a7 => k_is); (case l7 => k_is); (case c7 => k_is); (case k7 => k_is); (case a8 => k_is); (case l8 => k_is); (case c8 => k_is); (case k8 => k_is); (case a9 => k_is); (case l9 => k_is); (case c9 => k_is); (case k9 => k_is); (case a10 => k_is); (case l10 => k_is); (case c10 => k_is); (case k10 => k_is); (case a11 => k_is); (case l11 => k_is); (case c11 => k_is); (case k11 => k_is); (case a12 => k_is); (case l12 => k_is); (case c12 => k_is); (case k12 => k_is); (case a13 => k_is); (case l13 => k_is); (case c13 => k_is); (case k13 => k_is); (case a14 => k_is); (case l14 => k_is); (case c14 => k_is); (case k14 => k_is); (case a15 => k_is); (case l15 => k_is); (case c15 => k_is); (case k15 => k_is); (case a16 => k_is); (case l16 => k_is); (case c16 => k_is); (case k16 => k_is); (case a17 => k_is); (case l17 => k_is); (case c17 => k_is); (case k17 => k_is); (case a18 => k_is); (case l18 => k_is); (case c18 => k_is); (case k18 => k_is)
    (case z_abs => k_is); (case z_divmod => k_is); (case z_list => k_is); (case z_int => k_is); (case z_len => k_is); (case z_isinstance => k_is); (case z_bool => k_is); (case z_str => k_is); (case z_tuple => k_is); (case z_range => k_is)
    (case y_SIXTY => k_is)
