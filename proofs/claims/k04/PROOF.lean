import PyProof.Rows.All
import Wide.All
import OpenK.AllK
import Wide.FinOn
import HandS.ForMost
import HandS.IsInst
import HandS.Wide
import HandS.FStr
import PyProof.FString3
import PyProof.Rows.StrIntSpec
import PyProof.StrLaws
import HandS.ForExc
import HandS.ExcIs
import HandS.AnyAll
import HandS.EndTab
import HandS.EndOwn
import KE.KNestM
import HandS.Evl
import PySem.Challenge.RW_reels_k04_whole_times_read
set_option Elab.async false
set_option linter.all false
set_option maxRecDepth 100000
set_option maxHeartbeats 4000000
namespace R
/-! the greatest common divisor as the loops reckon it, and fractions as Rat -/
theorem fmod_nat (a b : Nat) : ((a : Int).fmod (b : Int)) = ((a % b : Nat) : Int) := by
  rw [Int.fmod_eq_emod_of_nonneg _ (by omega)]
  rfl
theorem gcd_turn (a b : Nat) : Nat.gcd b (a % b) = Nat.gcd a b := by
  rw [Nat.gcd_comm a b, Nat.gcd_rec b a, Nat.gcd_comm]
theorem gcd_pos {t b : Int} (h : b ≠ 0) : 0 < Nat.gcd t.natAbs b.natAbs := Nat.gcd_pos_of_pos_right _ (by omega)
theorem abs_nat (i : Int) : (if i < 0 then -i else i) = (i.natAbs : Int) := by
  split <;> omega
def frI (t b : Int) : Int := if b < 0 then -(Nat.gcd t.natAbs b.natAbs : Int) else (Nat.gcd t.natAbs b.natAbs : Int)
theorem frI_ne {t b : Int} (h : b ≠ 0) : frI t b ≠ 0 := by
  have := gcd_pos (t := t) h
  unfold frI
  split <;> omega
theorem frI_dt (t b : Int) : frI t b ∣ t := by
  have h : ((Nat.gcd t.natAbs b.natAbs : Nat) : Int) ∣ t := Int.ofNat_dvd_left.mpr (Nat.gcd_dvd_left _ _)
  unfold frI
  split
  · exact Int.neg_dvd.mpr h
  · exact h
theorem frI_db (t b : Int) : frI t b ∣ b := by
  have h : ((Nat.gcd t.natAbs b.natAbs : Nat) : Int) ∣ b := Int.ofNat_dvd_left.mpr (Nat.gcd_dvd_right _ _)
  unfold frI
  split
  · exact Int.neg_dvd.mpr h
  · exact h
theorem gcd_eq (t b : Int) : (b.gcd t) = Nat.gcd t.natAbs b.natAbs := by
  unfold Int.gcd
  exact Nat.gcd_comm _ _
theorem fdiv_exact {t d : Int} (hd : d ≠ 0) (h : d ∣ t) : t.fdiv d = t / d := by
  obtain ⟨k, rfl⟩ := h
  rw [Int.mul_fdiv_cancel_left _ hd, Int.mul_ediv_cancel_left _ hd]
theorem fr_num {t b : Int} (h : b ≠ 0) : t.fdiv (frI t b) = (Rat.divInt t b).num := by
  rw [fdiv_exact (frI_ne h) (frI_dt t b), Rat.num_divInt, gcd_eq]
  unfold frI
  split
  · rename_i h0
    rw [Int.sign_eq_neg_one_of_neg h0, Int.ediv_neg, Int.neg_one_mul]
    have hd : ((Nat.gcd t.natAbs b.natAbs : Nat) : Int) ∣ t := Int.ofNat_dvd_left.mpr (Nat.gcd_dvd_left _ _)
    rw [Int.neg_ediv_of_dvd hd]
  · rename_i h0
    rw [Int.sign_eq_one_of_pos (by omega), Int.one_mul]
theorem fr_den {t b : Int} (h : b ≠ 0) : b.fdiv (frI t b) = ((Rat.divInt t b).den : Int) := by
  rw [fdiv_exact (frI_ne h) (frI_db t b), Rat.den_divInt, gcd_eq, if_neg h]
  unfold frI
  split
  · rename_i h0
    rw [Int.ediv_neg]
    have hd : ((Nat.gcd t.natAbs b.natAbs : Nat) : Int) ∣ b := Int.ofNat_dvd_left.mpr (Nat.gcd_dvd_right _ _)
    rw [← Int.neg_ediv_of_dvd hd, show -b = ((b.natAbs : Nat) : Int) by omega, ← Int.natCast_ediv]
  · rename_i h0
    rw [show (b / ((Nat.gcd t.natAbs b.natAbs : Nat) : Int)) = (((b.natAbs : Nat) : Int) / ((Nat.gcd t.natAbs b.natAbs : Nat) : Int)) by
      rw [show ((b.natAbs : Nat) : Int) = b by omega], ← Int.natCast_ediv]
theorem frI_natAbs {t b : Int} (h : b ≠ 0) : (frI t b).natAbs ≤ b.natAbs := by
  have h1 : Nat.gcd t.natAbs b.natAbs ≤ b.natAbs := Nat.gcd_le_right _ (by omega)
  unfold frI
  split <;> omega
/-! sums and products of fractions by their parts -/
theorem den_ne (x : Rat) : ((x.den : Nat) : Int) ≠ 0 := by
  have := x.den_nz
  omega
theorem den_pos (x : Rat) : (0 : Int) < ((x.den : Nat) : Int) := by
  have := x.den_nz
  omega
theorem add_parts (x y : Rat) : Rat.divInt (x.num * y.den + y.num * x.den) ((x.den : Int) * y.den) = x + y := by
  conv => rhs; rw [← Rat.num_divInt_den x, ← Rat.num_divInt_den y]
  rw [Rat.divInt_add_divInt _ _ (den_ne x) (den_ne y)]
theorem sub_parts (x y : Rat) : Rat.divInt (x.num * y.den - y.num * x.den) ((x.den : Int) * y.den) = x - y := by
  conv => rhs; rw [← Rat.num_divInt_den x, ← Rat.num_divInt_den y]
  rw [Rat.divInt_sub_divInt _ _ (den_ne x) (den_ne y)]
theorem mul_parts (x y : Rat) : Rat.divInt (x.num * y.num) ((x.den : Int) * y.den) = x * y := by
  conv => rhs; rw [← Rat.num_divInt_den x, ← Rat.num_divInt_den y]
  rw [Rat.divInt_mul_divInt]
theorem div_parts (x y : Rat) : Rat.divInt (x.num * y.den) ((x.den : Int) * y.num) = x / y := by
  rw [Rat.div_def, Rat.inv_def]
  conv => rhs; rw [← Rat.num_divInt_den x]
  rw [Rat.divInt_mul_divInt]
theorem lt_parts (x y : Rat) : decide (x.num * y.den < y.num * x.den) = decide (x < y) := by
  rw [decide_eq_decide, Rat.lt_iff]
/-! sizes -/
structure Sz (n : Nat) (x : Rat) : Prop where
  num : x.num.natAbs < 2 ^ n
  den : x.den < 2 ^ n
theorem Sz.mono {n m : Nat} {x : Rat} (h : Sz n x) (k : n ≤ m) : Sz m x :=
  ⟨Nat.lt_of_lt_of_le h.num (Nat.pow_le_pow_right (by decide) k), Nat.lt_of_lt_of_le h.den (Nat.pow_le_pow_right (by decide) k)⟩
theorem divInt_num_le (t b : Int) : (Rat.divInt t b).num.natAbs ≤ t.natAbs := by
  by_cases h : b = 0
  · subst h
    rw [Rat.divInt_zero]
    exact Nat.zero_le _
  · rw [← fr_num h, fdiv_exact (frI_ne h) (frI_dt t b)]
    exact Int.natAbs_ediv_le_natAbs _ _
theorem divInt_den_le {t b : Int} (h : b ≠ 0) : (Rat.divInt t b).den ≤ b.natAbs := by
  rw [Rat.den_divInt, if_neg h]
  exact Nat.div_le_self _ _
theorem sz_divInt {n : Nat} {t b : Int} (ht : t.natAbs < 2 ^ n) (hb : b.natAbs < 2 ^ n) (h : b ≠ 0) : Sz n (Rat.divInt t b) :=
  ⟨Nat.lt_of_le_of_lt (divInt_num_le t b) ht, Nat.lt_of_le_of_lt (divInt_den_le h) hb⟩
theorem mul_bits {i j : Int} {a b : Nat} (ha : i.natAbs < 2 ^ a) (hb : j.natAbs < 2 ^ b) : (i * j).natAbs < 2 ^ (a + b) := by
  rw [Int.natAbs_mul, Nat.pow_add]
  exact Nat.mul_lt_mul'' ha hb
theorem add_bits {i j : Int} {a : Nat} (ha : i.natAbs < 2 ^ a) (hb : j.natAbs < 2 ^ a) : (i + j).natAbs < 2 ^ (a + 1) := by
  have : (i + j).natAbs ≤ i.natAbs + j.natAbs := Int.natAbs_add_le _ _
  rw [Nat.pow_succ]
  omega
theorem sub_bits {i j : Int} {a : Nat} (ha : i.natAbs < 2 ^ a) (hb : j.natAbs < 2 ^ a) : (i - j).natAbs < 2 ^ (a + 1) := by
  rw [Int.sub_eq_add_neg]
  exact add_bits ha (by omega)
theorem Sz.den' {n : Nat} {x : Rat} (h : Sz n x) : ((x.den : Nat) : Int).natAbs < 2 ^ n := h.den
theorem den_mul_ne (x y : Rat) : ((x.den : Int) * y.den) ≠ 0 := Int.mul_ne_zero (den_ne x) (den_ne y)
theorem up1 {i : Int} {a : Nat} (h : i.natAbs < 2 ^ a) : i.natAbs < 2 ^ (a + 1) := Nat.lt_of_lt_of_le h (Nat.pow_le_pow_right (by decide) (by omega))
theorem sz_add {n m : Nat} {x y : Rat} (hx : Sz n x) (hy : Sz m y) : Sz (n + m + 1) (x + y) := by
  rw [← add_parts]
  refine sz_divInt (add_bits (mul_bits hx.num hy.den') ?_) (up1 (mul_bits hx.den' hy.den')) (den_mul_ne x y)
  rw [Nat.add_comm n m]
  exact mul_bits hy.num hx.den'
theorem sz_sub {n m : Nat} {x y : Rat} (hx : Sz n x) (hy : Sz m y) : Sz (n + m + 1) (x - y) := by
  rw [← sub_parts]
  refine sz_divInt (sub_bits (mul_bits hx.num hy.den') ?_) (up1 (mul_bits hx.den' hy.den')) (den_mul_ne x y)
  rw [Nat.add_comm n m]
  exact mul_bits hy.num hx.den'
theorem sz_mul {n m : Nat} {x y : Rat} (hx : Sz n x) (hy : Sz m y) : Sz (n + m) (x * y) := by
  rw [← mul_parts]
  exact sz_divInt (mul_bits hx.num hy.num) (mul_bits hx.den' hy.den') (den_mul_ne x y)
theorem num_ne {y : Rat} (h : y ≠ 0) : y.num ≠ 0 := fun e => h (Rat.num_eq_zero.mp e)
theorem sz_div {n m : Nat} {x y : Rat} (hx : Sz n x) (hy : Sz m y) (h : y ≠ 0) : Sz (n + m) (x / y) := by
  rw [← div_parts]
  exact sz_divInt (mul_bits hx.num hy.den') (mul_bits hx.den' hy.num) (Int.mul_ne_zero (den_ne x) (num_ne h))
theorem sz_int {n : Nat} {i : Int} (hn : 0 < n) (h : i.natAbs < 2 ^ n) : Sz n (i : Rat) :=
  ⟨h, by
    show 1 < 2 ^ n
    exact Nat.one_lt_two_pow (by omega)⟩
/-! the sum as it is reckoned by what the bottoms have in common -/
theorem add_split (x y : Rat) : (x + y).num = (x.num * ((y.den / (x.den.gcd y.den) : Nat) : Int) + y.num * ((x.den / (x.den.gcd y.den) : Nat) : Int)) / (((x.num * ((y.den / (x.den.gcd y.den) : Nat) : Int) + y.num * ((x.den / (x.den.gcd y.den) : Nat) : Int)).natAbs.gcd (x.den.gcd y.den) : Nat) : Int) ∧
   (x + y).den = x.den / (x.den.gcd y.den) * (y.den / ((x.num * ((y.den / (x.den.gcd y.den) : Nat) : Int) + y.num * ((x.den / (x.den.gcd y.den) : Nat) : Int)).natAbs.gcd (x.den.gcd y.den))) := by
  have e : x + y = Rat.add x y := rfl
  rw [e]
  unfold Rat.add
  dsimp only
  by_cases hg : x.den.gcd y.den = 1
  · rw [dif_pos hg]
    constructor
    · show x.num * (y.den : Int) + y.num * (x.den : Int) = _
      rw [hg, Nat.div_one, Nat.div_one, Nat.gcd_one_right]
      exact (Int.ediv_one _).symm
    · show x.den * y.den = _
      rw [hg, Nat.div_one, Nat.div_one, Nat.gcd_one_right, Nat.div_one]
  · rw [dif_neg hg]
    unfold Rat.maybeNormalize
    split
    · rename_i h1
      refine ⟨?_, ?_⟩
      · show x.num * ((y.den / (x.den.gcd y.den) : Nat) : Int) + y.num * ((x.den / (x.den.gcd y.den) : Nat) : Int) = _
        rw [h1]
        exact (Int.ediv_one _).symm
      · show x.den / (x.den.gcd y.den) * y.den = _
        rw [h1, Nat.div_one]
    · refine ⟨?_, ?_⟩
      · exact Int.divExact_eq_ediv (Int.ofNat_dvd_left.mpr (Nat.gcd_dvd_left _ _))
      · show _ / _ = _
        rw [Nat.mul_div_assoc]
        exact Nat.dvd_trans (Nat.gcd_dvd_right _ _) (Nat.gcd_dvd_right _ _)
theorem fdiv_nat (a b : Nat) : ((a : Int).fdiv (b : Int)) = ((a / b : Nat) : Int) := by
  rw [Int.fdiv_eq_ediv_of_nonneg _ (by omega)]
  rfl
theorem fdiv_natR (a : Int) (b : Nat) : (a.fdiv (b : Int)) = a / (b : Int) := Int.fdiv_eq_ediv_of_nonneg _ (by omega)
def sG (x y : Rat) : Nat := x.den.gcd y.den
def sT (x y : Rat) : Int := x.num * ((y.den / sG x y : Nat) : Int) + y.num * ((x.den / sG x y : Nat) : Int)
def sD (x y : Rat) : Nat := (sT x y).natAbs.gcd (sG x y)
theorem sum_num (x y : Rat) : (sT x y).fdiv (sD x y : Int) = (x + y).num := by
  rw [fdiv_natR]
  exact (add_split x y).1.symm
theorem sum_den (x y : Rat) : (((x.den / sG x y : Nat) : Int) * ((y.den / sD x y : Nat) : Int)) = (((x + y).den : Nat) : Int) := by
  rw [show (x + y).den = x.den / sG x y * (y.den / sD x y) from (add_split x y).2]
  rfl
theorem sG_pos (x y : Rat) : 0 < sG x y := Nat.gcd_pos_of_pos_left _ x.den_pos
theorem sD_pos (x y : Rat) : 0 < sD x y := Nat.gcd_pos_of_pos_right _ (sG_pos x y)
theorem sG_le (x y : Rat) : sG x y ≤ x.den := Nat.gcd_le_left _ x.den_pos
theorem sD_le (x y : Rat) : sD x y ≤ x.den := Nat.le_trans (Nat.gcd_le_right _ (sG_pos x y)) (sG_le x y)
end R
namespace R
open PySem PySem.Spec PyProof.Rows L2
/-! ### a def of the text, and what it promises -/
structure Df (K : PySem.W.Frag) (mg : Str → Option Value) (x : Str) (st : Stmt) (ps : List Str) : Prop where
  ex : ∃ (f : Addr) (fd : FuncData), Fun K x x st f fd ∧ mg x = some (.ref f) ∧ Binds K fd ps []
structure Cl (P : Program) (w : World) (K : PySem.W.Frag) (mg : Str → Option Value) (base : Heap) (CX : CXT) (k : Nat) (x : Str) (sp : Sp) : Prop where
  ex : ∃ (f : Addr) (fd : FuncData) (ps : List Str), FnOk P w K mg base CX k f fd ps sp ∧ mg x = some (.ref f) ∧ PySem.W.keepIn K (.ref f) = true ∧ Binds K fd ps []
section
variable {P : Program} {w : World} {K : PySem.W.Frag} {mg : Str → Option Value} {base : Heap}
theorem Df.cl {x : Str} {st : Stmt} {N ps : List Str} {k : Nat} {sp : Sp} (D : Df K mg x st ps) (S : FnScope N ps (defScope st)) (len : ∀ vs H Q E, sp vs H Q E → vs.length = ps.length)
    (hbody : ∀ (f : Addr) (cdv : Value) (A : Around) (outer : List Env) (s : Shared) (H : Hp) (vs : List V) (Q : VK) (E : XK), Room k (A.deeper (envOfC x (defScope st) s.heap.objs.size f cdv)) → sp vs H Q E →
      ∃ t, PSs (cxOf CX0 P w K mg base N x (defScope st) f cdv A outer s H E).nox (defBody st) t ∧ t { nx := fun _ H' => Q .non H', rt := Q } (start N vs) H) : Cl P w K mg base CX0 (k + 1) x sp := by
  obtain ⟨f, fd, F, g, b⟩ := D.ex
  exact ⟨f, fd, ps, F.ok S len (hbody f), g, F.kp, b⟩
end
section
variable {X : Cx}
theorem pe_cl {k j : Nat} {x : Str} {sp : Sp} {p pos : Pos} {e : Expr} {es : List Expr} {t : TA} (c : Cl X.prog X.w X.K X.mg X.base CX0 k x sp) (hr : Room j X.A) (hk : k ≤ j) (hg : Gl X x) (ha : PA X (e :: es) t)
    (hdb : (x == ("__debug__" : Str)) = false := by decide) (he : starEach (e :: es) X.env = (false, eval e X.env) :: starEach es X.env := by rfl) (hpl : (backTo pos (starEach es X.env)).any (·.1) = false := by rfl) :
    PE X (.Call (.Name x p) (e :: es) [] pos) (tCall sp [] E0 t) := by
  obtain ⟨f, fd, ps, F, hm, kp, b⟩ := c.ex
  exact pe_call F (hr.mono hk) hg hm kp b .nil pass0 ha hdb he hpl
/-- // by any divisor but 0, below 2 ^ 9000 -/
def CDivX (_ j : Int) : Prop := j ≠ 0 ∧ j.natAbs.log2 < 9000
theorem op_fdivX : OpR X (binaryOp .FloorDiv) (rI CDivX fun i j => .int (i.fdiv j)) := opI fun i j _ _ _ _ _ hc q =>
  floordiv_int hc.1 q (.inl (PyProof.noPylong_of_log2 hc.2))
end
theorem cdiv {i j : Int} {b : Nat} (h : j ≠ 0) (hb : j.natAbs < 2 ^ b) (h0 : 0 < b) (h9 : b ≤ 9000) : CDivX i j := ⟨h, Nat.lt_of_lt_of_le (PySem.Flt.log2_lt_of h0 hb) h9⟩
/-! ### data at a heap -/
theorem Same.tup {K : PySem.W.Frag} {H H' : Hp} {a : Addr} {xs : List V} (e : Same H H') (h : SqT K H a xs) : SqT K H' a xs := by
  rcases h with (h | ⟨o, h⟩) | h
  · exact .inl (.inl (e _ _ h))
  · exact .inl (.inr ⟨o, e _ _ h⟩)
  · exact .inr h
theorem Same.new {H : Hp} {p : Addr} {o : HO} (h : H p = none) : Same H (upd H p o) := fun b x e => by
  rw [upd_ne (ne_of_none e h)]
  exact e
mutual
theorem dp_mono {K : PySem.W.Frag} {H H' : Hp} (s : Same H H') : ∀ (d : PyData) (v : V), Dp K H v d → Dp K H' v d
  | .none, _, h => by cases h; exact .non
  | .bool _, _, h => by cases h; exact .bl _
  | .int _, _, h => by cases h; exact .int _
  | .str _, _, h => by cases h; exact .str _
  | .list ds, _, h => by
    cases h with
    | lst hs ha => exact .lst (s.seq hs) (dpa_mono s ds _ ha)
  | .tuple ds, _, h => by
    cases h with
    | tup hs ha => exact .tup (Same.tup s hs) (dpa_mono s ds _ ha)
  | .dict _, _, h => by cases h
theorem dpa_mono {K : PySem.W.Frag} {H H' : Hp} (s : Same H H') : ∀ (ds : List PyData) (vs : List V), DpAll K H vs ds → DpAll K H' vs ds
  | [], _, h => by cases h; exact .nil
  | d :: ds, _, h => by
    cases h with
    | cons h1 h2 => exact .cons (dp_mono s d _ h1) (dpa_mono s ds _ h2)
end
end R
namespace R
section
open PySem PySem.Spec PyProof.Rows L2 Builtin Builtin.Str Builtin.Int Builtin.Float
/-! ### the field {x:02d} of an int that is not negative -/
def f02 : FormatSpec := { fill := 48, align := 61, width := some 2, type := some 100 }
theorem p02 : parseFormatSpec [48, 50, 100] "int" 62 = .ok f02 := rfl
theorem gives_02d (a : Int) (t u : Tok) (hs : a.natAbs.log2 < 1920) : Gives («int.__format__» ⟨[.int a t, .str "02d" u], []⟩) (.str (intSpecText f02 a)) := by
  intro prog w A R s hq
  unfold Builtin.«int.__format__»
  simp only [selfAndOne, noKeywords, Int.intOfSelf, asInt?, asStr?, List.isEmpty_nil, if_true, pure_bind, bind_pure, bind_assoc]
  rw [show (Value.str (Str.ofString "02d") u == Value.none) = false from rfl]
  simp only [Bool.false_eq_true, if_false]
  refine wpAny_bind (wpAny_typeNameOf (T := "str") (typeIs_str _ _ _) (by decide) fun _ => ?_)
  rw [show ((Str.ofString "02d").length == 0) = false by decide +kernel]
  simp only [Bool.false_eq_true, if_false, pure_bind]
  rw [show (((Str.ofString "02d").cps.toList.drop 1).any (fun x => decide (x ≥ 128)) || (decide ((Str.ofString "02d").cps.getD 0 0 ≥ 128) && !([60, 62, 61, 94] : List Nat).contains ((Str.ofString "02d").cps.getD 1 0))) = false by decide +kernel]
  simp only [Bool.false_eq_true, if_false, pure_bind]
  refine wpAny_bind (wpAny_typeNameOfCut_int ?_)
  rw [show (Str.ofString "02d").cps.toList = [48, 50, 100] by decide +kernel, p02]
  dsimp only
  rw [if_pos (by decide +kernel)]
  show wpAny _ _ (do let r ← Builtin.overDigitLimit? a; _) _ _ _
  rw [PySem.overDigitLimit_small hs, pure_bind]
  show wpAny _ _ (retStr _) _ _ _
  refine Gives.of_eq (m := .str (intSpecText f02 a)) ?_ prog w A R s hq
  unfold intSpecText
  rfl
end
open PySem PySem.Spec PyProof.Rows L2
/-! ### texts of numbers -/
def sI (i : Int) : Str := Str.ofString (toString i)
def pad2 (i : Int) : Str := if i < 10 then (⟨#[48]⟩ : Str) ++ sI i else sI i
theorem sapp (a b c : Str) : (a ++ b) ++ c = a ++ (b ++ c) := by
  refine Str.ext' ?_
  rw [Str.cps_append, Str.cps_append, Str.cps_append, Str.cps_append, Array.append_assoc]
theorem sapp_nil (a : Str) : a ++ Str.empty = a := Str.append_right_empty rfl
theorem nil_sapp (a : Str) : Str.empty ++ a = a := Str.append_left_empty rfl
theorem slen (a b : Str) : (a ++ b).length = a.length + b.length := by
  unfold Str.length
  rw [Str.cps_append, Array.size_append]
theorem sI_nat (m : Nat) : sI (m : Int) = ⟨((Nat.toDigits 10 m).map Char.toNat).toArray⟩ := text_ofNat m
theorem sI_len {i : Int} (h0 : 0 ≤ i) (h : i < 10 ^ 30) : (sI i).length ≤ 30 := by
  obtain ⟨m, rfl⟩ := Int.eq_ofNat_of_zero_le h0
  rw [sI_nat]
  show ((Nat.toDigits 10 m).map Char.toNat).toArray.size ≤ 30
  rw [List.size_toArray, List.length_map]
  exact digits10_le (by decide) (by
    have : ((m : Nat) : Int) < ((10 ^ 30 : Nat) : Int) := h
    omega)
theorem lg {i : Int} (h0 : 0 ≤ i) (h : i < 10 ^ 30) : i.natAbs.log2 < 1920 :=
  PySem.Flt.log2_lt_of (by decide) (Nat.lt_of_lt_of_le (show i.natAbs < 2 ^ 128 by omega) (Nat.pow_le_pow_right (by decide) (by decide)))
theorem pad2_len {i : Int} (h0 : 0 ≤ i) (h : i < 10 ^ 30) : (pad2 i).length ≤ 31 := by
  have := sI_len h0 h
  unfold pad2
  split
  · rw [slen]
    show 1 + _ ≤ 31
    omega
  · omega
theorem f02_text {a : Int} (h0 : 0 ≤ a) : intSpecText f02 a = pad2 a := by
  rw [intSpecText_zero (f := f02) rfl rfl rfl rfl h0]
  have D := digitsFacts10 a.natAbs
  unfold pad2
  split
  · rename_i h
    rw [D.lt10 (by omega)]
    rfl
  · rename_i h
    have := D.ge10 (by omega)
    rw [show f02.width.getD 0 - (Nat.toDigits 10 a.natAbs).length = 0 by
      show 2 - _ = 0
      omega]
    exact nil_sapp _
section
variable {X : Cx}
def tFmt02 (te : TE) : TE := fun σ H Q => te σ H fun x H1 => ∃ i : Int, x = .int i ∧ 0 ≤ i ∧ i < 10 ^ 30 ∧ Q (.str (pad2 i)) H1
theorem pe_fmt02 {e : Expr} {te : TE} {k : Nat} {p1 p2 pos : Pos} (he : PE X e te) : PE X (.FormattedValue e (-1) (some (.JoinedStr [.Constant (.str "02d") k p1] p2)) pos) (tFmt02 te) := by
  refine ⟨fun pins s σ H Q I h => ?_⟩
  refine wpAny_FormattedValue_spec (thn (he.run pins s σ H _ I h) fun v s1 hv => ?_)
  obtain ⟨x, H1, I1, r1, i, rfl, h0, h1, q⟩ := hv
  obtain ⟨t, rfl⟩ := r1
  refine thn ((pe_joined1 (pe_str (x := "02d"))).run pins s1 σ H1 (fun v H' => v = .str "02d" ∧ H' = H1) I1 ⟨rfl, rfl⟩) fun u s2 hu => ?_
  obtain ⟨y, H2, I2, r2, rfl, rfl⟩ := hu
  obtain ⟨t2, rfl⟩ := r2
  refine ⟨"02d", t2, rfl, ?_⟩
  refine wpAny_formatField_spec (by decide +kernel) (fun s' => typeIs_int s' i t) F.slot_int_format F.entry_int_format F.args_int_format_2 (fun u => gives_02d i t u (lg h0 h1)) ?_ (by decide +kernel) ?_
  · rw [f02_text h0]
    exact ⟨.str (pad2 i), H2, I2.tok _, ⟨_, rfl⟩, q⟩
  · rw [f02_text h0]
    exact Nat.le_trans (pad2_len h0 h1) (by decide)
theorem pe_gl {x : Str} {pos : Pos} {v : V} (hg : Gl X x) (h : ∃ u, X.mg x = some u ∧ RelV v u) (hd : (x == ("__debug__" : Str)) = false := by decide) : PE X (.Name x pos) (tC v) := by
  obtain ⟨u, h1, h2⟩ := h
  exact pe_glob hg h1 h2 hd
end
end R
namespace R
open PySem PySem.Spec PyProof.Rows L2
/-! ### the texts of times -/
def qw (q : Rat) : Int := q.num / (q.den : Int)
def qr (q : Rat) : Int := q.num % (q.den : Int)
structure Bd (n : Int) (q : Rat) : Prop where
  pos : 0 ≤ q.num
  num : q.num < n
  den : (q.den : Int) < n
def rs (t b : Int) : Str := if t = 0 then Str.empty else (" " : Str) ++ (sI t ++ (("/" : Str) ++ sI b))
def mixT (q : Rat) : Str := sI (qw q) ++ rs (qr q) (q.den : Int)
def framesT (q : Rat) : Str := mixT q ++ ("f" : Str)
def secondsT (q : Rat) (r : Int) : Str := mixT (q / (r : Rat)) ++ ("s" : Str)
def clockT (q : Rat) (r : Int) : Str := (sI (qw q / r / 3600) ++ ((":" : Str) ++ (pad2 (qw q / r / 60 % 60) ++ ((":" : Str) ++ (pad2 (qw q / r % 60) ++ ((":" : Str) ++ pad2 (qw q % r))))))) ++ rs (qr q) (q.den : Int)
theorem qf {q : Rat} : q.num.fdiv (q.den : Int) = qw q := Int.fdiv_eq_ediv_of_nonneg _ (by omega)
theorem qm {q : Rat} : q.num.fmod (q.den : Int) = qr q := Int.fmod_eq_emod_of_nonneg _ (by omega)
theorem qw_rg {q : Rat} {n : Int} (h : Bd n q) : 0 ≤ qw q ∧ qw q < n := by
  have h1 := den_pos q
  have h2 := h.pos
  have h3 := h.num
  have h4 : q.num / (q.den : Int) ≤ q.num := Int.ediv_le_self _ h2
  exact ⟨Int.ediv_nonneg h2 (by omega), by unfold qw; omega⟩
theorem qr_rg {q : Rat} {n : Int} (h : Bd n q) : 0 ≤ qr q ∧ qr q < n := by
  have h1 := den_pos q
  have h3 := h.den
  have := Int.emod_lt_of_pos q.num h1
  exact ⟨Int.emod_nonneg _ (by omega), by unfold qr; omega⟩
theorem cdq {q : Rat} {i : Int} (h : Bd (10 ^ 30) q) : CDivX i (q.den : Int) := cdiv (b := 100) (den_ne q) (by have := h.den; omega) (by decide) (by decide)
theorem rs_len {t b : Int} (t0 : 0 ≤ t) (t1 : t < 10 ^ 30) (b0 : 0 ≤ b) (b1 : b < 10 ^ 30) : (rs t b).length ≤ 62 := by
  unfold rs
  split
  · exact Nat.zero_le _
  · have := sI_len t0 t1
    have := sI_len b0 b1
    rw [slen, slen, slen]
    show 1 + (_ + (1 + _)) ≤ 62
    omega
theorem mix_len {q : Rat} (h : Bd (10 ^ 30) q) : (mixT q).length ≤ 92 := by
  have := sI_len (qw_rg h).1 (qw_rg h).2
  have := rs_len (qr_rg h).1 (qr_rg h).2 (show 0 ≤ (q.den : Int) by omega) h.den
  unfold mixT
  rw [slen]
  omega
theorem Bd.mono {n m : Int} {q : Rat} (h : Bd n q) (k : n ≤ m) : Bd m q := ⟨h.pos, by have := h.num; omega, by have := h.den; omega⟩
theorem div_rate (q : Rat) (r : Int) : Rat.divInt q.num ((q.den : Int) * r) = q / (r : Rat) := by
  rw [← div_parts q (r : Rat)]
  show _ = Rat.divInt (q.num * ((1 : Nat) : Int)) ((q.den : Int) * r)
  rw [show ((1 : Nat) : Int) = 1 from rfl, Int.mul_one]
theorem bd_rate {q : Rat} {r : Int} (h : Bd (10 ^ 27) q) (r0 : 0 < r) (r1 : r ≤ 120) : Bd (10 ^ 30) (q / (r : Rat)) := by
  have hd := den_pos q
  have hne : (q.den : Int) * r ≠ 0 := Int.mul_ne_zero (den_ne q) (by omega)
  rw [← div_rate]
  have h1 := divInt_num_le q.num ((q.den : Int) * r)
  have h2 := divInt_den_le (t := q.num) hne
  have h3 := h.num
  have h4 := h.den
  have h5 := h.pos
  have h7 : (q.den : Int) * r ≤ (q.den : Int) * 120 := Int.mul_le_mul_of_nonneg_left r1 (by omega)
  have h8 : 0 < (q.den : Int) * r := Int.mul_pos hd r0
  refine ⟨?_, by omega, by omega⟩
  rw [← fr_num hne]
  unfold frI
  rw [if_neg (by omega), Int.fdiv_eq_ediv_of_nonneg _ (by omega)]
  exact Int.ediv_nonneg h5 (by omega)
theorem sz_of_bd {n : Nat} {q : Rat} (h : Bd (2 ^ n : Nat) q) : Sz n q := ⟨by have := h.pos; have := h.num; omega, by have := h.den; omega⟩
theorem bd100 {q : Rat} (h : Bd (10 ^ 30) q) : Sz 100 q := ⟨by have := h.pos; have := h.num; omega, by have := h.den; omega⟩
theorem sz60 {n : Nat} (h : n ≤ 1000) : n ≤ sizeLine := Nat.le_trans h (by decide)
end R
namespace R
open PySem TL
/-! ### numbers in texts -/
def dig (c : Nat) : Bool := decide (48 ≤ c) && decide (c ≤ 57)
def numOk (w : List Nat) : Bool := w.all dig && !w.isEmpty && decide (w.length ≤ 9) && !(w.head? == some 48 && w != [48])
theorem val_snoc (w : List Nat) (c : Nat) : NumText.digitsVal (w ++ [c]) = NumText.digitsVal w * 10 + (c - 48) := by
  unfold NumText.digitsVal
  rw [List.foldl_append]
  rfl
theorem num_back : ∀ (n : Nat) (w : List Nat), w.length = n → w.all dig = true → w ≠ [] → (w.head? = some 48 → w = [48]) → numL (NumText.digitsVal w) = w
  | 0, w, hn, _, h, _ => absurd (List.eq_nil_of_length_eq_zero hn) h
  | n + 1, w, hn, hd, _, hz => by
    rcases List.eq_nil_or_concat w with e | ⟨v, c, e⟩
    · rw [e] at hn
      cases hn
    · have e : w = v ++ [c] := by rw [e]; simp
      subst e
      rw [List.all_append, Bool.and_eq_true] at hd
      have hc : 48 ≤ c ∧ c ≤ 57 := by
        have := hd.2
        simpa [dig] using this
      rw [val_snoc]
      cases v with
      | nil =>
        show numL (0 * 10 + (c - 48)) = [c]
        rw [numL_lt (by omega)]
        congr 1
        omega
      | cons d r =>
        have hd0 : d ≠ 48 := fun e => by
          have := hz (by rw [e]; rfl)
          simp at this
        have ih := num_back n (d :: r) (by simpa using hn) hd.1 (by simp) (fun h => absurd (Option.some.inj h) hd0)
        have h1 : 1 ≤ NumText.digitsVal (d :: r) := by
          refine Nat.pos_of_ne_zero fun e => ?_
          rw [e, numL_lt (by decide)] at ih
          exact hd0 (List.cons.inj ih).1.symm
        rw [numL_step (by omega), show (NumText.digitsVal (d :: r) * 10 + (c - 48)) / 10 = NumText.digitsVal (d :: r) by omega, ih]
        congr 2
        omega
theorem numL_head {n : Nat} (h : (numL n).head? = some 48) : n = 0 := by
  induction n using Nat.strongRecOn with
  | _ n ih =>
    by_cases h1 : n < 10
    · rw [numL_lt h1] at h
      have := Option.some.inj h
      omega
    · rw [numL_step (by omega)] at h
      have ne := numL_ne (n / 10)
      cases e : numL (n / 10) with
      | nil => exact absurd e ne
      | cons a r =>
        rw [e] at h
        have := ih (n / 10) (by omega) (by rw [e]; exact h)
        omega
theorem numL_nine {n : Nat} (h : (numL n).length ≤ 9) : n < 10 ^ 9 := by
  refine Nat.lt_of_not_le fun c => ?_
  have := PyProof.Rows.digits10_ge (k := 9) c
  unfold numL at h
  rw [List.length_map] at h
  omega
theorem numOk_num {n : Nat} (h : n < 10 ^ 9) : numOk (numL n) = true := by
  have h1 : (numL n).all dig = true := by
    rw [List.all_eq_true]
    intro c hc
    have := numL_digits n c hc
    simp [dig, this]
  have h2 : (numL n).length ≤ 9 := numL_len (by decide) h
  unfold numOk
  rw [h1, decide_eq_true h2]
  cases e : (numL n).head? with
  | none => exact absurd (List.head?_eq_none_iff.mp e) (numL_ne n)
  | some a =>
    have ne : (numL n).isEmpty = false := by
      cases e2 : numL n with
      | nil => exact absurd e2 (numL_ne n)
      | cons _ _ => rfl
    rw [ne]
    by_cases ha : a = 48
    · subst ha
      have := numL_head e
      subst this
      rfl
    · rw [show (some a == some 48) = false by simpa using ha]
      rfl
theorem num_of {w : List Nat} (h : numOk w = true) : ∃ n, w = numL n ∧ n < 10 ^ 9 ∧ NumText.digitsVal w = n := by
  unfold numOk at h
  simp only [Bool.and_eq_true, Bool.not_eq_true', decide_eq_true_eq] at h
  obtain ⟨⟨⟨h1, h2⟩, h3⟩, h4⟩ := h
  have ne : w ≠ [] := fun e => by
    rw [e] at h2
    cases h2
  have e := num_back w.length w rfl h1 ne (fun hh => by
    rw [hh] at h4
    simpa using h4)
  refine ⟨_, e.symm, ?_, rfl⟩
  rw [← e] at h3
  exact numL_nine h3
theorem tl_sI (n : Nat) : tl (sI (n : Int)) = numL n := tl_num n
theorem str_ext {a b : Str} (h : tl a = tl b) : a = b := by
  cases a
  cases b
  congr 1
  exact Array.toList_inj.mp h
theorem tl_app (a b : Str) : tl (a ++ b) = tl a ++ tl b := by
  show (a ++ b).cps.toList = _
  rw [Str.cps_append, Array.toList_append]
theorem len_tl' (a : Str) : a.length = (tl a).length := by
  show a.cps.size = _
  simp
/-! ### the first place of a sign -/
theorem first_split {s : Nat} : ∀ {l : List Nat}, s ∈ l → ∃ a b, l = a ++ s :: b ∧ s ∉ a
  | [], h => by cases h
  | c :: r, h => by
    by_cases e : c = s
    · exact ⟨[], r, by rw [e]; rfl, by simp⟩
    · obtain ⟨a, b, e1, e2⟩ := first_split (l := r) ((List.mem_cons.mp h).resolve_left (fun z => e z.symm))
      exact ⟨c :: a, b, by rw [e1]; rfl, by simp [e2, Ne.symm e]⟩
theorem part_cases (x y : Str) {s : Nat} (ey : tl y = [s]) : (s ∉ tl x ∧ Txt.partition x y = (x, Str.empty, Str.empty)) ∨ ∃ a b, x = a ++ y ++ b ∧ s ∉ tl a ∧ Txt.partition x y = (a, y, b) := by
  by_cases h : s ∈ tl x
  · obtain ⟨a, b, e, ha⟩ := first_split h
    refine .inr ⟨⟨a.toArray⟩, ⟨b.toArray⟩, ?_, ?_, ?_⟩
    · refine str_ext ?_
      rw [tl_app, tl_app, ey, e]
      simp [tl]
    · simpa [tl] using ha
    · have ex : x = (⟨a.toArray⟩ : Str) ++ y ++ ⟨b.toArray⟩ := by
        refine str_ext ?_
        rw [tl_app, tl_app, ey, e]
        simp [tl]
      rw [ex]
      exact partition_app ey (by simpa [tl] using ha)
  · exact .inl ⟨h, partition_none ey h⟩
theorem parts_of (s : Nat) : ∀ (n : Nat) (l : List Nat), l.length ≤ n → ∃ ps : List (List Nat), ps ≠ [] ∧ (∀ p ∈ ps, s ∉ p) ∧ l = joinL [s] ps
  | 0, l, h => ⟨[l], by simp, by
      have e : l = [] := List.eq_nil_of_length_eq_zero (by omega)
      simp [e], rfl⟩
  | n + 1, l, h => by
    by_cases hs : s ∈ l
    · obtain ⟨a, b, e, ha⟩ := first_split hs
      obtain ⟨ps, h1, h2, h3⟩ := parts_of s n b (by rw [e] at h; simp at h; omega)
      cases ps with
      | nil => exact absurd rfl h1
      | cons p r =>
        refine ⟨a :: p :: r, by simp, ?_, ?_⟩
        · intro q hq
          rcases List.mem_cons.mp hq with z | z
          · rw [z]
            exact ha
          · exact h2 q z
        · rw [e, h3]
          rfl
    · exact ⟨[l], by simp, by simpa using hs, rfl⟩
theorem split_parts (x y : Str) {s : Nat} (ey : tl y = [s]) (hk : y.cps.all (· < 256) = true) : ∃ ps : List Str, ps ≠ [] ∧ (∀ p ∈ ps, s ∉ tl p) ∧ x = Str.join y ps ∧ Txt.split x y = ps := by
  obtain ⟨ps, h1, h2, h3⟩ := parts_of s _ (tl x) (Nat.le_refl _)
  have e1 : (ps.map fun l => (⟨l.toArray⟩ : Str)).map tl = ps := by
    rw [List.map_map]
    conv => rhs; rw [← List.map_id ps]
    congr 1
  have hx : x = Str.join y (ps.map fun l => (⟨l.toArray⟩ : Str)) := by
    refine str_ext ?_
    rw [tl_join, e1, ey]
    exact h3
  have hp : ∀ p ∈ ps.map (fun l => (⟨l.toArray⟩ : Str)), s ∉ tl p := by
    intro p hp
    obtain ⟨l, hl, rfl⟩ := List.mem_map.mp hp
    simpa [tl] using h2 l hl
  refine ⟨_, by simpa using h1, hp, hx, ?_⟩
  conv => lhs; rw [hx, ← join_eq]
  exact split_join ey hk (by simpa using h1) hp
end R
namespace R
open PySem TL
open L2 (cutS)
/-! ### the reading of times, as plain functions -/
def rdNum (w : Str) : Option Int := if numOk (tl w) = true then some (NumText.digitsVal (tl w) : Int) else none
theorem rdNum_sI {i : Int} (h0 : 0 ≤ i) (h : i < 10 ^ 9) : rdNum (sI i) = some i := by
  obtain ⟨n, rfl⟩ := Int.eq_ofNat_of_zero_le h0
  unfold rdNum
  rw [show tl (sI ((n : Nat) : Int)) = numL n from tl_sI n, if_pos (numOk_num (by omega)), numL_val]
theorem rdNum_some {w : Str} {i : Int} (h : rdNum w = some i) : w = sI i ∧ 0 ≤ i ∧ i < 10 ^ 9 := by
  unfold rdNum at h
  split at h
  · rename_i c
    obtain ⟨n, e1, e2, e3⟩ := num_of c
    rw [e3] at h
    have e4 : (n : Int) = i := Option.some.inj h
    subst e4
    exact ⟨str_ext (by rw [e1, show tl (sI ((n : Nat) : Int)) = numL n from tl_sI n]), by omega, by omega⟩
  · cases h
theorem rdNum_empty : rdNum Str.empty = none := rfl
def rdRest (bl rt : Str) : Option Rat := if bl = Str.empty then some 0 else
  match rdNum (Txt.partition rt "/").1, rdNum (Txt.partition rt "/").2.2 with
  | some t, some b => if t = 0 ∨ b ≤ t then none else if (Rat.divInt t b).num = t ∧ ((Rat.divInt t b).den : Int) = b then some (Rat.divInt t b) else none
  | _, _ => none
def rdMixed (x : Str) : Option Rat := match rdNum (Txt.partition x " ").1 with
  | none => none
  | some n => (rdRest (Txt.partition x " ").2.1 (Txt.partition x " ").2.2).map fun y => (n : Rat) + y
def rdField (w : Str) (b : Int) : Option Int := if w.length < 2 then none else
  match rdNum (if (tl w).length = 2 ∧ (tl w).head? = some 48 then cutS w (some 1) none else w) with
  | none => none
  | some n => if b ≤ n then none else some n
def rdClock (x : Str) (r : Int) : Option Rat := match Txt.split (Txt.partition x " ").1 ":" with
  | [f0, f1, f2, f3] => match rdNum f0, rdField f1 60, rdField f2 60, rdField f3 r with
    | some h, some m, some s, some f => (rdRest (Txt.partition x " ").2.1 (Txt.partition x " ").2.2).map fun y => ((((h * 60 + m) * 60 + s) * r + f : Int) : Rat) + y
    | _, _, _, _ => none
  | _ => none
def rdTime (x : Str) (r : Int) : Option Rat := if Txt.endswith x "f" = true then rdMixed (cutS x none (some (-1))) else
  if Txt.endswith x "s" = true then (rdMixed (cutS x none (some (-1)))).map (· * (r : Rat)) else rdClock x r
/-! ### fractions by whole and rest -/
theorem divInt_lowest {t : Int} {b : Nat} (hb : b ≠ 0) (h : t.natAbs.Coprime b) : (Rat.divInt t b).num = t ∧ (Rat.divInt t b).den = b := by
  rw [← Rat.mk_eq_divInt (nz := hb) (c := h)]
  exact ⟨rfl, rfl⟩
theorem divInt_cop {t b : Int} (hb : 0 < b) (h1 : (Rat.divInt t b).num = t) (h2 : ((Rat.divInt t b).den : Int) = b) : t.natAbs.Coprime b.toNat := by
  have := (Rat.divInt t b).reduced
  rw [h1] at this
  rw [show b.toNat = (Rat.divInt t b).den by omega]
  exact this
theorem mixed_eq (n t : Int) {b : Int} (hb : 0 < b) : (n : Rat) + Rat.divInt t b = Rat.divInt (n * b + t) b := by
  have hb2 : b ≠ 0 := by omega
  rw [show (n : Rat) = Rat.divInt n 1 by rw [Rat.divInt_eq_div]; grind, Rat.divInt_add_divInt _ _ (by decide) hb2, Int.one_mul, Int.mul_one]
theorem mixed_parts {n t b : Int} (n0 : 0 ≤ n) (t0 : 0 ≤ t) (tb : t < b) (h : t.natAbs.Coprime b.toNat) : ((n : Rat) + Rat.divInt t b).num = n * b + t ∧ (((n : Rat) + Rat.divInt t b).den : Int) = b := by
  have hb : 0 < b := by omega
  rw [mixed_eq n t hb]
  obtain ⟨c, rfl⟩ := Int.eq_ofNat_of_zero_le (show 0 ≤ b by omega)
  obtain ⟨m, rfl⟩ := Int.eq_ofNat_of_zero_le n0
  obtain ⟨u, rfl⟩ := Int.eq_ofNat_of_zero_le t0
  have cop : ((m : Int) * (c : Int) + (u : Int)).natAbs.Coprime c := by
    have e : ((m : Int) * (c : Int) + (u : Int)).natAbs = m * c + u := by
      rw [show (m : Int) * (c : Int) + (u : Int) = ((m * c + u : Nat) : Int) by rw [Int.natCast_add, Int.natCast_mul]]
      exact Int.natAbs_natCast _
    rw [e]
    unfold Nat.Coprime
    rw [Nat.gcd_comm, ← gcd_turn, show ((c : Nat) % (m * c + u)) = c % (m * c + u) from rfl]
    rw [gcd_turn, Nat.gcd_comm, ← gcd_turn, Nat.mul_comm m c, Nat.mul_add_mod, gcd_turn]
    have : u.gcd c = 1 := h
    exact this
  have := divInt_lowest (t := (m : Int) * (c : Int) + (u : Int)) (b := c) (by omega) cop
  exact ⟨this.1, by rw [this.2]⟩
theorem q_cop (q : Rat) (h : 0 ≤ q.num) : (q.num % (q.den : Int)).natAbs.Coprime q.den := by
  obtain ⟨m, hm⟩ := Int.eq_ofNat_of_zero_le h
  have r := q.reduced
  rw [hm] at r ⊢
  rw [show ((m : Int) % (q.den : Int)) = ((m % q.den : Nat) : Int) from rfl, Int.natAbs_natCast]
  unfold Nat.Coprime
  rw [Nat.gcd_comm, gcd_turn]
  exact r
theorem q_split (q : Rat) : ((q.num / (q.den : Int) : Int) : Rat) + Rat.divInt (q.num % (q.den : Int)) (q.den : Int) = q := by
  rw [mixed_eq _ _ (den_pos q), show q.num / (q.den : Int) * (q.den : Int) + q.num % (q.den : Int) = q.num by
    have := Int.mul_ediv_add_emod q.num (q.den : Int)
    rw [Int.mul_comm]
    exact this]
  exact Rat.num_divInt_den q
theorem q_whole (q : Rat) (h : 0 ≤ q.num) (hr : q.num % (q.den : Int) = 0) : q.den = 1 := by
  have := q_cop q h
  rw [hr] at this
  simpa [Nat.Coprime] using this
/-! ### what is written is read -/
theorem tl_sign (c : Nat) : tl (⟨#[c]⟩ : Str) = [c] := rfl
theorem not_sI {s : Nat} {i : Int} (h0 : 0 ≤ i) (hs : s < 48 ∨ 57 < s) : s ∉ tl (sI i) := by
  obtain ⟨n, rfl⟩ := Int.eq_ofNat_of_zero_le h0
  rw [show tl (sI ((n : Nat) : Int)) = numL n from tl_sI n]
  exact numL_free hs
theorem blank_ne : (" " : Str) ≠ Str.empty := by decide
/-- the reading of a rest that was written -/
theorem rest_back {x : Str} {t b : Int} (hx : 32 ∉ tl x) (t0 : 0 ≤ t) (tb : t < b) (b1 : b < 10 ^ 9) (cop : t.natAbs.Coprime b.toNat) (hz : t = 0 → b = 1) :
    (Txt.partition (x ++ rs t b) " ").1 = x ∧ rdRest (Txt.partition (x ++ rs t b) " ").2.1 (Txt.partition (x ++ rs t b) " ").2.2 = some (Rat.divInt t b) := by
  unfold rs
  by_cases h : t = 0
  · rw [if_pos h, sapp_nil, partition_none (s := 32) (S := []) rfl hx]
    refine ⟨rfl, ?_⟩
    unfold rdRest
    rw [if_pos rfl, h, hz h]
    rfl
  · rw [if_neg h, show x ++ ((" " : Str) ++ (sI t ++ (("/" : Str) ++ sI b))) = x ++ (" " : Str) ++ (sI t ++ (("/" : Str) ++ sI b)) from (sapp _ _ _).symm]
    rw [partition_app (s := 32) (S := []) rfl hx]
    refine ⟨rfl, ?_⟩
    unfold rdRest
    dsimp only
    rw [if_neg blank_ne, show sI t ++ (("/" : Str) ++ sI b) = sI t ++ ("/" : Str) ++ sI b from (sapp _ _ _).symm, partition_app (s := 47) (S := []) rfl (not_sI t0 (by decide))]
    dsimp only
    rw [rdNum_sI t0 (by omega), rdNum_sI (by omega) b1]
    dsimp only
    have hl := divInt_lowest (t := t) (b := b.toNat) (by omega) cop
    rw [show ((b.toNat : Nat) : Int) = b by omega] at hl
    rw [if_neg (by omega), if_pos ⟨hl.1, by omega⟩]
theorem mix_back {q : Rat} (h0 : 0 ≤ q.num) (hw : qw q < 10 ^ 9) (hd : (q.den : Int) < 10 ^ 9) : rdMixed (mixT q) = some q := by
  have hp := den_pos q
  have w0 : 0 ≤ qw q := Int.ediv_nonneg h0 (by omega)
  have r0 : 0 ≤ qr q := Int.emod_nonneg _ (by omega)
  have r1 : qr q < (q.den : Int) := Int.emod_lt_of_pos _ hp
  have rb := rest_back (x := sI (qw q)) (not_sI w0 (by decide)) r0 r1 hd (by
    rw [show ((q.den : Int)).toNat = q.den by omega]
    exact q_cop q h0) (fun e => by
    have := q_whole q h0 e
    omega)
  unfold rdMixed mixT
  rw [rb.1, rdNum_sI w0 hw]
  dsimp only
  rw [rb.2]
  show some _ = some _
  congr 1
  exact q_split q
/-- what is read was written so -/
theorem rest_some {bl rt : Str} {y : Rat} (h : rdRest bl rt = some y) : (bl = Str.empty ∧ y = 0) ∨ ∃ t b : Int, rt = sI t ++ (("/" : Str) ++ sI b) ∧ 0 < t ∧ t < b ∧ b < 10 ^ 9 ∧ t.natAbs.Coprime b.toNat ∧ y = Rat.divInt t b := by
  unfold rdRest at h
  by_cases hb : bl = Str.empty
  · rw [if_pos hb] at h
    exact .inl ⟨hb, (Option.some.inj h).symm⟩
  · rw [if_neg hb] at h
    right
    rcases part_cases rt "/" (s := 47) rfl with ⟨_, e⟩ | ⟨a, b, e1, e2, e⟩
    · rw [e] at h
      dsimp only at h
      rw [rdNum_empty] at h
      split at h
      · rename_i z
        cases z
      · cases h
    · rw [e] at h
      dsimp only at h
      cases ha : rdNum a with
      | none => rw [ha] at h; cases h
      | some t =>
        cases hb2 : rdNum b with
        | none => rw [ha, hb2] at h; cases h
        | some u =>
          rw [ha, hb2] at h
          dsimp only at h
          obtain ⟨ea, t0, t1⟩ := rdNum_some ha
          obtain ⟨eb, u0, u1⟩ := rdNum_some hb2
          by_cases c1 : t = 0 ∨ u ≤ t
          · rw [if_pos c1] at h
            cases h
          · rw [if_neg c1] at h
            by_cases c2 : (Rat.divInt t u).num = t ∧ ((Rat.divInt t u).den : Int) = u
            · rw [if_pos c2] at h
              refine ⟨t, u, ?_, by omega, by omega, u1, divInt_cop (by omega) c2.1 c2.2, (Option.some.inj h).symm⟩
              rw [e1, ea, eb, sapp]
            · rw [if_neg c2] at h
              cases h
/-- a text of a number and a rest: by its parts -/
theorem whole_rest {x w : Str} {y : Rat} (hw : (Txt.partition x " ").1 = w) (h : rdRest (Txt.partition x " ").2.1 (Txt.partition x " ").2.2 = some y) :
    ∃ t b : Int, x = w ++ rs t b ∧ 0 ≤ t ∧ t < b ∧ b < 10 ^ 9 ∧ t.natAbs.Coprime b.toNat ∧ y = Rat.divInt t b := by
  rcases part_cases x " " (s := 32) rfl with ⟨_, e⟩ | ⟨a, b, e1, e2, e⟩
  · rw [e] at hw h
    dsimp only at hw h
    refine ⟨0, 1, ?_, by decide, by decide, by decide, by decide, ?_⟩
    · rw [hw]
      exact (sapp_nil _).symm
    · unfold rdRest at h
      rw [if_pos rfl] at h
      rw [← Option.some.inj h]
      rfl
  · rw [e] at hw h
    dsimp only at hw h
    rcases rest_some h with ⟨z, _⟩ | ⟨t, u, e3, h1, h2, h3, h4, h5⟩
    · exact absurd z blank_ne
    · refine ⟨t, u, ?_, by omega, h2, h3, h4, h5⟩
      unfold rs
      rw [if_neg (by omega), e1, hw, e3, sapp]
theorem mix_of {x : Str} {m : Rat} (h : rdMixed x = some m) : x = mixT m ∧ 0 ≤ m.num ∧ qw m < 10 ^ 9 ∧ (m.den : Int) < 10 ^ 9 := by
  unfold rdMixed at h
  cases hn : rdNum (Txt.partition x " ").1 with
  | none => rw [hn] at h; cases h
  | some n =>
    rw [hn] at h
    dsimp only at h
    obtain ⟨en, n0, n1⟩ := rdNum_some hn
    cases hy : rdRest (Txt.partition x " ").2.1 (Txt.partition x " ").2.2 with
    | none => rw [hy] at h; cases h
    | some y =>
      rw [hy] at h
      obtain ⟨t, b, e1, t0, tb, b1, cop, ey⟩ := whole_rest en hy
      have em : (n : Rat) + y = m := Option.some.inj h
      rw [ey] at em
      obtain ⟨p1, p2⟩ := mixed_parts n0 t0 tb cop
      rw [em] at p1 p2
      have hb : 0 < b := by omega
      have eqw : qw m = n := by
        unfold qw
        rw [p1, p2, Int.add_comm, Int.add_mul_ediv_right _ _ (by omega), Int.ediv_eq_zero_of_lt t0 tb, Int.zero_add]
      have eqr : qr m = t := by
        unfold qr
        rw [p1, p2, Int.add_comm, Int.add_mul_emod_self_right, Int.emod_eq_of_lt t0 tb]
      refine ⟨?_, ?_, by rw [eqw]; exact n1, by rw [p2]; exact b1⟩
      · unfold mixT
        rw [eqw, eqr, p2]
        exact e1
      · rw [p1]
        have := Int.mul_nonneg n0 (show 0 ≤ b by omega)
        omega
end R
namespace R
open PySem TL
open L2 (cutS)
/-! ### the last sign -/
theorem ends_one (x : Str) (c : Nat) : Txt.endswith x ⟨#[c]⟩ = ((tl x).getLast? == some c) := by
  show (decide (0 + 1 ≤ x.length) && Builtin.Str.subAt x ⟨#[c]⟩ (x.length - 1)) = _
  rw [PySem.StrLaws.subAt_eq, len_tl']
  show (decide (0 + 1 ≤ (tl x).length) && (((tl x).drop ((tl x).length - 1)).take 1 == [c])) = _
  rcases List.eq_nil_or_concat (tl x) with e | ⟨a, d, e⟩
  · rw [e]
    rfl
  · have e : tl x = a ++ [d] := by rw [e]; simp
    rw [e, List.getLast?_concat, List.length_append, decide_eq_true (by simp)]
    show (true && ((a ++ [d]).drop (a.length + 1 - 1)).take 1 == [c]) = _
    rw [Nat.add_sub_cancel, List.drop_left]
    show (true && ([d] == [c])) = (some d == some c)
    by_cases h : d = c
    · rw [h]
      simp
    · simp [h]
theorem cut_last (x : Str) : tl (cutS x none (some (-1))) = (tl x).dropLast := by
  show ((((tl x).drop (HT.sIx x.length 0 none)).take (HT.sIx x.length x.length (some (-1)) - HT.sIx x.length 0 none)).toArray).toList = _
  rw [HT.sIx_none]
  show ((((tl x).drop 0).take (((-1 : Int) + (x.length : Int)).toNat - 0)).toArray).toList = _
  rw [List.drop_zero, len_tl', List.dropLast_eq_take]
  simp
  congr 1
  omega
theorem cut_first (x : Str) : tl (cutS x (some 1) none) = (tl x).drop 1 := by
  show ((((tl x).drop (HT.sIx x.length 0 (some ((1 : Nat) : Int)))).take (HT.sIx x.length x.length none - HT.sIx x.length 0 (some ((1 : Nat) : Int)))).toArray).toList = _
  rw [HT.sIx_none, HT.sIx_nat, len_tl']
  show (((tl x).drop (min 1 (tl x).length)).take ((tl x).length - min 1 (tl x).length)) = _
  cases tl x with
  | nil => rfl
  | cons a r =>
    rw [show min 1 (a :: r).length = 1 by simp]
    show r.take (r.length + 1 - 1) = r
    rw [Nat.add_sub_cancel]
    exact List.take_length
theorem ends_app1 (a : Str) (c : Nat) : Txt.endswith (a ++ ⟨#[c]⟩) ⟨#[c]⟩ = true ∧ cutS (a ++ ⟨#[c]⟩) none (some (-1)) = a := by
  refine ⟨?_, str_ext ?_⟩
  · rw [ends_one, tl_app]
    show ((tl a ++ [c]).getLast? == some c) = true
    rw [List.getLast?_concat]
    simp
  · rw [cut_last, tl_app]
    exact List.dropLast_concat
theorem ends_not {x : Str} {c : Nat} (h : c ∉ tl x) : Txt.endswith x ⟨#[c]⟩ = false := by
  rw [ends_one]
  cases e : (tl x).getLast? with
  | none => rfl
  | some d =>
    have := List.mem_of_getLast? e
    by_cases hd : d = c
    · rw [hd] at this
      exact absurd this h
    · simpa using hd
theorem ends_cut {x : Str} {c : Nat} (h : Txt.endswith x ⟨#[c]⟩ = true) : x = cutS x none (some (-1)) ++ ⟨#[c]⟩ := by
  rw [ends_one] at h
  have e : (tl x).getLast? = some c := by simpa using h
  obtain ⟨pre, e⟩ := List.getLast?_eq_some_iff.mp e
  refine str_ext ?_
  rw [tl_app, cut_last, e, List.dropLast_concat]
/-! ### fields of a clock -/
theorem tl_pad2 (n : Nat) : tl (pad2 (n : Int)) = if n < 10 then [48, 48 + n] else numL n := by
  unfold pad2
  by_cases h : n < 10
  · rw [if_pos (by omega), if_pos h, tl_app, show tl (sI ((n : Nat) : Int)) = numL n from tl_sI n, numL_lt h]
    rfl
  · rw [if_neg (by omega), if_neg h]
    exact tl_sI n
theorem field_back {i b : Int} (h0 : 0 ≤ i) (hb : i < b) (h9 : i < 10 ^ 9) : rdField (pad2 i) b = some i := by
  obtain ⟨n, rfl⟩ := Int.eq_ofNat_of_zero_le h0
  have hl : ¬ (pad2 (n : Int)).length < 2 := by
    rw [len_tl', tl_pad2]
    by_cases h : n < 10
    · rw [if_pos h]
      exact (show ¬ 2 < 2 by decide)
    · rw [if_neg h, numL_step (by omega), List.length_append]
      have := numL_ne (n / 10)
      cases e : numL (n / 10) with
      | nil => exact absurd e this
      | cons _ _ => simp
  unfold rdField
  rw [if_neg hl]
  have hw : (if (tl (pad2 (n : Int))).length = 2 ∧ (tl (pad2 (n : Int))).head? = some 48 then cutS (pad2 (n : Int)) (some 1) none else pad2 (n : Int)) = sI (n : Int) := by
    by_cases h : n < 10
    · have e : tl (pad2 (n : Int)) = [48, 48 + n] := by rw [tl_pad2, if_pos h]
      rw [if_pos (by rw [e]; exact ⟨rfl, rfl⟩)]
      refine str_ext ?_
      rw [cut_first, e, show tl (sI ((n : Nat) : Int)) = numL n from tl_sI n, numL_lt h]
      rfl
    · have e : tl (pad2 (n : Int)) = numL n := by rw [tl_pad2, if_neg h]
      rw [if_neg (by
        rw [e]
        intro z
        have := numL_head z.2
        omega)]
      unfold pad2
      rw [if_neg (by omega)]
  rw [hw, rdNum_sI h0 h9]
  dsimp only
  rw [if_neg (by omega)]
theorem field_of {w : Str} {b i : Int} (h : rdField w b = some i) : w = pad2 i ∧ 0 ≤ i ∧ i < b ∧ i < 10 ^ 9 := by
  unfold rdField at h
  by_cases hl : w.length < 2
  · rw [if_pos hl] at h
    cases h
  · rw [if_neg hl] at h
    generalize hg : (if (tl w).length = 2 ∧ (tl w).head? = some 48 then cutS w (some 1) none else w) = g at h
    cases hn : rdNum g with
    | none => rw [hn] at h; cases h
    | some n =>
      rw [hn] at h
      dsimp only at h
      by_cases hb : b ≤ n
      · rw [if_pos hb] at h
        cases h
      · rw [if_neg hb] at h
        have e : n = i := Option.some.inj h
        subst e
        obtain ⟨eg, n0, n9⟩ := rdNum_some hn
        obtain ⟨k, rfl⟩ := Int.eq_ofNat_of_zero_le n0
        refine ⟨?_, n0, by omega, n9⟩
        refine str_ext ?_
        rw [tl_pad2]
        rw [len_tl'] at hl
        by_cases c : (tl w).length = 2 ∧ (tl w).head? = some 48
        · rw [if_pos c] at hg
          have e2 : (tl w).drop 1 = numL k := by rw [← cut_first, hg, eg]; exact tl_sI k
          match hw : tl w, c with
          | [x, y], c =>
            have hx : x = 48 := Option.some.inj c.2
            rw [hw] at e2
            have hk : k < 10 := by
              refine Nat.lt_of_not_le fun z => ?_
              have e3 : [y] = numL k := e2
              rw [numL_step z] at e3
              have := numL_ne (k / 10)
              cases e4 : numL (k / 10) with
              | nil => exact absurd e4 this
              | cons _ _ =>
                rw [e4] at e3
                simp at e3
            rw [if_pos hk, hx]
            have e3 : [y] = numL k := e2
            rw [numL_lt hk] at e3
            rw [(List.cons.inj e3).1]
        · rw [if_neg c] at hg
          subst hg
          have ew : tl w = numL k := by rw [eg]; exact tl_sI k
          by_cases hk : k < 10
          · rw [ew, numL_lt hk] at hl
            exact absurd (show 1 < 2 by decide) hl
          · rw [if_neg hk, ew]
theorem not_pad2 {s : Nat} {i : Int} (h0 : 0 ≤ i) (hs : s < 48 ∨ 57 < s) : s ∉ tl (pad2 i) := by
  unfold pad2
  split
  · rw [tl_app]
    intro h
    rcases List.mem_append.mp h with z | z
    · have : s = 48 := by simpa [tl] using z
      omega
    · exact not_sI h0 hs z
  · exact not_sI h0 hs
end R
namespace R
open PySem TL
open L2 (cutS)
/-! ### the three texts of a time are read to it, and nothing else is read -/
theorem frames_back {q : Rat} {r : Int} (h0 : 0 ≤ q.num) (hw : qw q < 10 ^ 9) (hd : (q.den : Int) < 10 ^ 9) : rdTime (framesT q) r = some q := by
  unfold rdTime framesT
  have e := ends_app1 (mixT q) 102
  rw [show Txt.endswith (mixT q ++ ("f" : Str)) ("f" : Str) = true from e.1, if_pos rfl, show cutS (mixT q ++ ("f" : Str)) none (some (-1)) = mixT q from e.2]
  exact mix_back h0 hw hd
theorem seconds_back {q : Rat} {r : Int} (hr : r ≠ 0) (h0 : 0 ≤ (q / (r : Rat)).num) (hw : qw (q / (r : Rat)) < 10 ^ 9) (hd : ((q / (r : Rat)).den : Int) < 10 ^ 9) : rdTime (secondsT q r) r = some q := by
  unfold rdTime secondsT
  have e := ends_app1 (mixT (q / (r : Rat))) 115
  have ef : Txt.endswith (mixT (q / (r : Rat)) ++ ("s" : Str)) ("f" : Str) = false := by
    show Txt.endswith (mixT (q / (r : Rat)) ++ (⟨#[115]⟩ : Str)) ⟨#[102]⟩ = false
    rw [ends_one, tl_app]
    show ((tl _ ++ [115]).getLast? == some 102) = false
    rw [List.getLast?_concat]
    rfl
  rw [ef, if_neg Bool.false_ne_true, show Txt.endswith (mixT (q / (r : Rat)) ++ ("s" : Str)) ("s" : Str) = true from e.1, if_pos rfl, show cutS (mixT (q / (r : Rat)) ++ ("s" : Str)) none (some (-1)) = mixT (q / (r : Rat)) from e.2, mix_back h0 hw hd]
  show some (q / (r : Rat) * (r : Rat)) = some q
  have hr2 : (r : Rat) ≠ 0 := fun e => hr (by
    have := congrArg Rat.num e
    exact this)
  rw [Rat.div_mul_cancel hr2]
theorem clock_join (a b c d : Str) : a ++ ((":" : Str) ++ (b ++ ((":" : Str) ++ (c ++ ((":" : Str) ++ d))))) = Str.join ":" [a, b, c, d] := by
  show _ = a ++ (":" : Str) ++ (b ++ (":" : Str) ++ (c ++ (":" : Str) ++ d))
  simp only [sapp]
theorem not_app {s : Nat} {a b : Str} (ha : s ∉ tl a) (hb : s ∉ tl b) : s ∉ tl (a ++ b) := by
  rw [tl_app]
  exact fun h => (List.mem_append.mp h).elim ha hb
theorem not_clk {s : Nat} {h m c f : Int} (h0 : 0 ≤ h) (m0 : 0 ≤ m) (c0 : 0 ≤ c) (f0 : 0 ≤ f) (hs : s < 48 ∨ 57 < s) (hc : s ≠ 58) : s ∉ tl (sI h ++ ((":" : Str) ++ (pad2 m ++ ((":" : Str) ++ (pad2 c ++ ((":" : Str) ++ pad2 f)))))) := by
  have hk : s ∉ tl (":" : Str) := by
    show s ∉ [58]
    simpa using hc
  exact not_app (not_sI h0 hs) (not_app hk (not_app (not_pad2 m0 hs) (not_app hk (not_app (not_pad2 c0 hs) (not_app hk (not_pad2 f0 hs))))))
theorem not_rs {s : Nat} {t b : Int} (t0 : 0 ≤ t) (b0 : 0 ≤ b) (hs : s < 48 ∨ 57 < s) (h1 : s ≠ 32) (h2 : s ≠ 47) : s ∉ tl (rs t b) := by
  unfold rs
  split
  · exact fun h => by cases h
  · refine not_app ?_ (not_app (not_sI t0 hs) (not_app ?_ (not_sI b0 hs)))
    · show s ∉ [32]
      simpa using h1
    · show s ∉ [47]
      simpa using h2
theorem clock_back {q : Rat} {r : Int} (r0 : 0 < r) (r1 : r ≤ 120) (h0 : 0 ≤ q.num) (hw : qw q < 10 ^ 9) (hd : (q.den : Int) < 10 ^ 9) : rdTime (clockT q r) r = some q := by
  have hp := den_pos q
  have w0 : 0 ≤ qw q := Int.ediv_nonneg h0 (by omega)
  have t0 : 0 ≤ qr q := Int.emod_nonneg _ (by omega)
  have t1 : qr q < (q.den : Int) := Int.emod_lt_of_pos _ hp
  have s0 : 0 ≤ qw q / r := Int.ediv_nonneg w0 (by omega)
  have s1 : qw q / r ≤ qw q := Int.ediv_le_self _ w0
  have f0 : 0 ≤ qw q % r := Int.emod_nonneg _ (by omega)
  have f1 : qw q % r < r := Int.emod_lt_of_pos _ r0
  have cop : (qr q).natAbs.Coprime ((q.den : Int)).toNat := by
    rw [show ((q.den : Int)).toNat = q.den by omega]
    exact q_cop q h0
  have hz : qr q = 0 → (q.den : Int) = 1 := fun e => by
    have := q_whole q h0 e
    omega
  have sum : (((qw q / r / 3600 * 60 + qw q / r / 60 % 60) * 60 + qw q / r % 60) * r + qw q % r) = qw q := by
    rw [show (qw q / r / 3600 * 60 + qw q / r / 60 % 60) * 60 + qw q / r % 60 = qw q / r by omega]
    have := Int.mul_ediv_add_emod (qw q) r
    rw [Int.mul_comm] at this
    exact this
  unfold clockT
  generalize eS : qw q / r = S at *
  generalize eF : qw q % r = F0 at *
  have rb := rest_back (x := sI (S / 3600) ++ ((":" : Str) ++ (pad2 (S / 60 % 60) ++ ((":" : Str) ++ (pad2 (S % 60) ++ ((":" : Str) ++ pad2 F0)))))) (not_clk (by omega) (by omega) (by omega) f0 (by decide) (by decide)) t0 t1 hd cop hz
  unfold rdTime
  have nf : ∀ s : Nat, 57 < s → s ≠ 58 → s ∉ tl (sI (S / 3600) ++ ((":" : Str) ++ (pad2 (S / 60 % 60) ++ ((":" : Str) ++ (pad2 (S % 60) ++ ((":" : Str) ++ pad2 F0))))) ++ rs (qr q) (q.den : Int)) := fun s h1 h2 =>
    not_app (not_clk (by omega) (by omega) (by omega) f0 (.inr h1) h2) (not_rs t0 (by omega) (.inr h1) (by omega) (by omega))
  rw [show Txt.endswith _ ("f" : Str) = false from ends_not (nf 102 (by decide) (by decide)), if_neg Bool.false_ne_true, show Txt.endswith _ ("s" : Str) = false from ends_not (nf 115 (by decide) (by decide)), if_neg Bool.false_ne_true]
  unfold rdClock
  rw [rb.1, rb.2, clock_join]
  have sp : Txt.split (Str.join ":" [sI (S / 3600), pad2 (S / 60 % 60), pad2 (S % 60), pad2 F0]) ":" = [sI (S / 3600), pad2 (S / 60 % 60), pad2 (S % 60), pad2 F0] := by
    rw [← join_eq]
    refine split_join (s := 58) (S := []) rfl (by decide +kernel) (by simp) (fun p hp => ?_)
    simp only [List.mem_cons, List.not_mem_nil, or_false] at hp
    rcases hp with e | e | e | e <;> subst e
    · exact not_sI (by omega) (by decide)
    · exact not_pad2 (by omega) (by decide)
    · exact not_pad2 (by omega) (by decide)
    · exact not_pad2 f0 (by decide)
  rw [sp]
  dsimp only
  rw [rdNum_sI (by omega) (by omega), field_back (by omega) (by omega) (by omega), field_back (by omega) (by omega) (by omega), field_back f0 f1 (by omega)]
  dsimp only
  show some _ = some _
  congr 1
  rw [sum]
  exact q_split q
theorem frames_of {x : Str} {r : Int} {q : Rat} (h : rdTime x r = some q) (hf : Txt.endswith x "f" = true) : x = framesT q ∧ 0 ≤ q.num ∧ qw q < 10 ^ 9 ∧ (q.den : Int) < 10 ^ 9 := by
  unfold rdTime at h
  rw [hf, if_pos rfl] at h
  obtain ⟨e, h1, h2, h3⟩ := mix_of h
  refine ⟨?_, h1, h2, h3⟩
  unfold framesT
  rw [← e]
  exact ends_cut hf
theorem seconds_of {x : Str} {r : Int} {q : Rat} (hr : r ≠ 0) (h : rdTime x r = some q) (hf : Txt.endswith x "f" = false) (hs : Txt.endswith x "s" = true) : ∃ m : Rat, q = m * (r : Rat) ∧ q / (r : Rat) = m ∧ x = secondsT q r ∧ 0 ≤ m.num ∧ qw m < 10 ^ 9 ∧ (m.den : Int) < 10 ^ 9 := by
  unfold rdTime at h
  rw [hf, if_neg Bool.false_ne_true, hs, if_pos rfl] at h
  cases hm : rdMixed (cutS x none (some (-1))) with
  | none => rw [hm] at h; cases h
  | some m =>
    rw [hm] at h
    have eq : m * (r : Rat) = q := Option.some.inj h
    obtain ⟨e, h1, h2, h3⟩ := mix_of hm
    have hr2 : (r : Rat) ≠ 0 := fun e => hr (by
      have := congrArg Rat.num e
      exact this)
    have ed : q / (r : Rat) = m := by rw [← eq, Rat.mul_div_cancel hr2]
    refine ⟨m, eq.symm, ed, ?_, h1, h2, h3⟩
    unfold secondsT
    rw [ed, ← e]
    exact ends_cut hs
theorem clock_of {x : Str} {r : Int} {q : Rat} (r0 : 0 < r) (r1 : r ≤ 120) (h : rdTime x r = some q) (hf : Txt.endswith x "f" = false) (hs : Txt.endswith x "s" = false) : x = clockT q r ∧ 0 ≤ q.num ∧ qw q < 10 ^ 15 ∧ (q.den : Int) < 10 ^ 9 := by
  unfold rdTime at h
  rw [hf, if_neg Bool.false_ne_true, hs, if_neg Bool.false_ne_true] at h
  unfold rdClock at h
  obtain ⟨ps, _, _, ej, es⟩ := split_parts (Txt.partition x " ").1 ":" (s := 58) rfl (by decide +kernel)
  rw [es] at h
  match ps, ej, h with
  | [f0, f1, f2, f3], ej, h =>
    dsimp only at h
    cases h0 : rdNum f0 with
    | none => rw [h0] at h; cases h
    | some hh =>
      cases h1 : rdField f1 60 with
      | none => rw [h0, h1] at h; cases h
      | some m =>
        cases h2 : rdField f2 60 with
        | none => rw [h0, h1, h2] at h; cases h
        | some s =>
          cases h3 : rdField f3 r with
          | none => rw [h0, h1, h2, h3] at h; cases h
          | some f =>
            rw [h0, h1, h2, h3] at h
            dsimp only at h
            cases hy : rdRest (Txt.partition x " ").2.1 (Txt.partition x " ").2.2 with
            | none => rw [hy] at h; cases h
            | some y =>
              rw [hy] at h
              obtain ⟨e0, a0, a1⟩ := rdNum_some h0
              obtain ⟨e1, b0, b1, b2⟩ := field_of h1
              obtain ⟨e2, c0, c1, c2⟩ := field_of h2
              obtain ⟨e3, d0, d1, d2⟩ := field_of h3
              obtain ⟨t, b, ex, t0, tb, bb, cop, ey⟩ := whole_rest rfl hy
              generalize eN : ((hh * 60 + m) * 60 + s) * r + f = N at h
              have n0 : 0 ≤ N := by
                have := Int.mul_nonneg (show 0 ≤ (hh * 60 + m) * 60 + s by omega) (show 0 ≤ r by omega)
                omega
              have n1 : N < 10 ^ 15 := by
                have := Int.mul_le_mul_of_nonneg_left r1 (show 0 ≤ (hh * 60 + m) * 60 + s by omega)
                omega
              have em : (N : Rat) + y = q := Option.some.inj h
              rw [ey] at em
              obtain ⟨p1, p2⟩ := mixed_parts n0 t0 tb cop
              rw [em] at p1 p2
              have eqw : qw q = N := by
                unfold qw
                rw [p1, p2, Int.add_comm, Int.add_mul_ediv_right _ _ (by omega), Int.ediv_eq_zero_of_lt t0 tb, Int.zero_add]
              have eqr : qr q = t := by
                unfold qr
                rw [p1, p2, Int.add_comm, Int.add_mul_emod_self_right, Int.emod_eq_of_lt t0 tb]
              have dv : N / r = (hh * 60 + m) * 60 + s := by
                rw [← eN, Int.add_comm, Int.add_mul_ediv_right _ _ (by omega), Int.ediv_eq_zero_of_lt d0 d1, Int.zero_add]
              have md : N % r = f := by
                rw [← eN, Int.add_comm, Int.add_mul_emod_self_right, Int.emod_eq_of_lt d0 d1]
              refine ⟨?_, ?_, by rw [eqw]; exact n1, by rw [p2]; exact bb⟩
              · unfold clockT
                rw [eqw, eqr, p2, dv, md, show ((hh * 60 + m) * 60 + s) / 3600 = hh by omega, show ((hh * 60 + m) * 60 + s) / 60 % 60 = m by omega, show ((hh * 60 + m) * 60 + s) % 60 = s by omega, clock_join, ex, ej, e0, e1, e2, e3]
              · rw [p1]
                have := Int.mul_nonneg n0 (show 0 ≤ b by omega)
                omega
  | [], _, h => cases h
  | [_], _, h => cases h
  | [_, _], _, h => cases h
  | [_, _, _], _, h => cases h
  | _ :: _ :: _ :: _ :: _ :: _, _, h => cases h
end R
namespace R
open PySem PySem.Spec PyProof.Rows L2
/-! ### defs that raise; classes of errors over ValueError, without methods of their own -/
structure ExcT (K : PySem.W.Frag) (mg : Str → Option Value) (x : Str) (C : Addr) : Prop where
  g : mg x = some (.ref C)
  x : PySem.W.excIn K C [.type "ValueError", .type "Exception", .type "BaseException", .type "object"] "ValueError.__new__" = true
  k : PySem.W.keepIn K (.ref C) = true
  b : PySem.W.subIn K (.ref C) (.type "BaseException") = some true
  t : PySem.W.typeIn K (.ref C) = some (.type "type")
  e : PySem.W.exmOne K (.ref C) (.ref C) = some true
theorem exm_gen {K : PySem.W.Frag} {S C : Addr} {r : Bool} (h1 : PySem.W.subIn K (.ref C) (.type "BaseException") = some true) (h2 : PySem.W.isClsIn K C = true)
    (h3 : PySem.W.typeIn K (.ref C) = some (.type "type")) (h4 : PySem.W.subIn K (.ref S) (.ref C) = some r) : PySem.W.exmOne K (.ref S) (.ref C) = some r := by
  unfold PySem.W.exmOne
  rw [if_pos (by rw [h1]; rfl)]
  unfold PySem.W.kitCls
  dsimp only
  rw [if_pos (by rw [show (PySem.W.clsIn K C).isSome = true from h2, h3]; rfl)]
  exact h4
section
variable {P : Program} {w : World} {K : PySem.W.Frag} {mg : Str → Option Value} {base : Heap}
theorem Df.clX {x : Str} {st : Stmt} {N ps : List Str} {k : Nat} {sp : Sp} (D : Df K mg x st ps) (S : FnScope N ps (defScope st)) (len : ∀ vs H Q E, sp vs H Q E → vs.length = ps.length)
    (hbody : ∀ (f : Addr) (cdv : Value) (A : Around) (outer : List Env) (s : Shared) (H : Hp) (vs : List V) (Q : VK) (E : XK), Room k (A.deeper (envOfC x (defScope st) s.heap.objs.size f cdv)) → sp vs H Q E →
      ∃ t, PSs (cxOf (L2.CX P w) P w K mg base N x (defScope st) f cdv A outer s H E) (defBody st) t ∧ t { nx := fun _ H' => Q .non H', rt := Q } (start N vs) H) : Cl P w K mg base (L2.CX P w) (k + 1) x sp := by
  obtain ⟨f, fd, F, g, b⟩ := D.ex
  exact ⟨f, fd, ps, F.okX S len (hbody f), g, F.kp, b⟩
end
section
variable {X : Cx}
theorem pe_clS {W : WX} {k j : Nat} {x : Str} {sp : Sp} {p pos : Pos} {e : Expr} {es : List Expr} {t : TA} (c : Cl X.prog X.w X.K X.mg X.base (L2.CX X.prog X.w) k x sp) (hr : Room j X.A) (hk : k ≤ j) (hg : Gl X x) (tk : Takes X W) (ha : PA X (e :: es) t)
    (hdb : (x == ("__debug__" : Str)) = false := by decide) (he : starEach (e :: es) X.env = (false, eval e X.env) :: starEach es X.env := by rfl) (hpl : (backTo pos (starEach es X.env)).any (·.1) = false := by rfl) :
    PE X (.Call (.Name x p) (e :: es) [] pos) (tCallS sp (WE W) t) := by
  obtain ⟨f, fd, ps, F, hm, kp, b⟩ := c.ex
  exact pe_callS F (hr.mono hk) hg hm kp b (fun σ => passAt tk σ) ha hdb he hpl
theorem pe_clN {k j : Nat} {x : Str} {sp : Sp} {p pos : Pos} {e : Expr} {es : List Expr} {t : TA} (c : Cl X.prog X.w X.K X.mg X.base (L2.CX X.prog X.w) k x sp) (hr : Room j X.A) (hk : k ≤ j) (hg : Gl X x) (ha : PA X (e :: es) t)
    (hdb : (x == ("__debug__" : Str)) = false := by decide) (he : starEach (e :: es) X.env = (false, eval e X.env) :: starEach es X.env := by rfl) (hpl : (backTo pos (starEach es X.env)).any (·.1) = false := by rfl) :
    PE X (.Call (.Name x p) (e :: es) [] pos) (tCall sp [] E0 t) := by
  obtain ⟨f, fd, ps, F, hm, kp, b⟩ := c.ex
  exact pe_call F (hr.mono hk) hg hm kp b .nil passL ha hdb he hpl
end
end R
namespace R
open PySem PySem.Spec PyProof.Rows L2
/-! ### isinstance(e, c) of a caught error e, its class told behind -/
def rIsX (K : PySem.W.Frag) (D a : Addr) (cls : Value) (d : Option Addr) : List V → Hp → VK → Prop := fun xs H Q => cls = .ref D ∧ d = none ∧ rIsE K D a xs H Q
theorem call_isX {X : Cx} {a D : Addr} {oe : Obj} {cls : Value} {d : Option Addr} {pn : List (Addr × Obj)} (C : ExcC X.K D) (hz : Zc cls d oe) (hf : ∃ vs, oe.data = .fields vs) :
    CallR (X.suite a ((a, oe) :: pn)) (.builtin "isinstance") (rIsX X.K D a cls d) := by
  intro pins s σ H xs us Q I r h
  obtain ⟨h1, h2, h⟩ := h
  subst h1 h2
  exact call_isE C hz hf pins s σ H xs us Q I r h
theorem op_eqDS {X : Cx} {a : Addr} {pn : List (Addr × Obj)} (hu : X.A.units + 64 < cLine) : OpR (X.suite a pn) (compareOp .Eq) (rEqD X.K) := op_eqD (X := X.suite a pn) hu
theorem kit_self {K : PySem.W.Frag} {S : Addr} : PySem.W.kitOne K (.ref S) (.ref S) = some true := by
  unfold PySem.W.kitOne
  rw [if_pos (beq_self_eq_true _)]
theorem kit_gen {K : PySem.W.Frag} {S C : Addr} {r : Bool} (h1 : PySem.W.subIn K (.ref S) (.ref C) = some r) (h2 : PySem.W.isClsIn K C = true) (h3 : PySem.W.typeIn K (.ref C) = some (.type "type"))
    (h4 : (Value.ref S == Value.ref C) = false) : PySem.W.kitOne K (.ref S) (.ref C) = some r := by
  unfold PySem.W.kitOne
  rw [if_neg (by rw [h4]; exact Bool.false_ne_true)]
  unfold PySem.W.kitCls
  dsimp only
  rw [if_pos (by rw [show (PySem.W.clsIn K C).isSome = true from h2, h3]; rfl)]
  exact h1
theorem kit_ve {K : PySem.W.Frag} {S : Addr} {r : Bool} (h1 : PySem.W.subIn K (.ref S) (.type "ValueError") = some r) : PySem.W.kitOne K (.ref S) (.type "ValueError") = some r := by
  unfold PySem.W.kitOne
  rw [show (Value.ref S == Value.type "ValueError") = false from rfl, if_neg Bool.false_ne_true]
  unfold PySem.W.kitCls
  dsimp only
  rw [if_pos (by decide +kernel)]
  exact h1
/-! the rules of lists and tuples with the written part told by a letter: within a comprehension -/
theorem sl_listK {X : Cx} {K : PySem.W.Frag} (h : X.K = K) : SlR X (rSlL K) := h ▸ sl_list
theorem ix_listK {X : Cx} {K : PySem.W.Frag} (h : X.K = K) : IxR X (rIxL K) := h ▸ ix_list
theorem ix_tupK {X : Cx} {K : PySem.W.Frag} (h : X.K = K) : IxR X (rIxT K) := h ▸ ix_tup
theorem pe_gC {X : Cx} {x : Str} {pos : Pos} {C : Addr} (hg : Gl X x) (h : X.mg x = some (.ref C)) (hd : (x == ("__debug__" : Str)) = false := by decide) : PE X (.Name x pos) (tC (.ref C)) := pe_glob hg h rfl hd
end R
namespace R
open PySem PySem.Spec PyProof.Rows L2 GxR
/-! ### all(sign in NAME for sign in text), NAME a text of the module: as the layer's rule, but the element may read the module's names -/
def EltG (prog : Program) (w : World) (mg : Str → Option Value) (sc : Scope) (x : Str) (el : Expr) (pb : Nat → Bool) : Prop :=
  ∀ (ce : Env) (B : Around) (R : Value → Shared → Prop) (n : Nat) (tk : Tok) (z : Shared) (ml : Str → Option Value), ce.scope = sc → ce.globals = mainGlobals → z.heap.Ns mainGlobals mg →
    z.heap.Ns ce.locals ml → ml x = some (.str ⟨#[n]⟩ tk) → wpAny (model prog w) B (eval el ce) (fun y z' => y = .bool (pb n) ∧ Keeps z z') R z
theorem elt_in {prog : Program} {w : World} {mg : Str → Option Value} {sc : Scope} {x g : Str} {t : Str} {p1 p2 p3 : Pos} (hk : sc.kind = .function) (hl : sc.names.lookup x = some .local) (hg : sc.names.lookup g = some .globalImplicit)
    (hm : ∃ u, mg g = some u ∧ RelV (.str t) u) (d1 : (x == ("__debug__" : Str)) = false := by decide) (d2 : (g == ("__debug__" : Str)) = false := by decide) :
    EltG prog w mg sc x (.Compare (.Name x p1) [.In] [.Name g p2] p3) (fun c => decide (c ∈ t.cps.toList)) := by
  intro ce B R n tk z ml es eg hG hL hx
  obtain ⟨u, hu, tk2, rfl⟩ := hm
  have k1 : ce.scope.kind = .function := es ▸ hk
  have k2 : ce.kindOf x = some .local := show ce.scope.names.lookup x = _ from es ▸ hl
  have k3 : ce.kindOf g = some .globalImplicit := show ce.scope.names.lookup g = _ from es ▸ hg
  refine wpAny_Compare1 (wpAny_Name (wpAny_loadName_local k1 k2 hL hx ?_) d1)
  refine Calls.Name_function_global k1 k3 (Calls.loadGlobal_global (mg := mg) (by rw [eg]; exact hG) hu ?_) d2
  refine PyProof.Rows.in_str ⟨?_, keeps_refl _⟩
  rw [PySem.StrLaws.found_one t n]
theorem noFree {sc : Scope} {env : Env} (h : ∀ y ∈ sc.names, y.2 ≠ .free) : ∀ y ∈ sc.names, y.2 = .free → ∃ c, env.cells.lookup y.1 = some c := fun y hy e => absurd e (h y hy)
section
variable {X : Cx} {pins : List (Addr × Obj)} {σ : L2.St} {H : Hp} {s : Shared}
theorem gen_strG {c P : Addr} {el it : Expr} {x : Str} {px gp : Pos} {sc : Scope} {pb : Nat → Bool} {te : TE} {k : Nat} {Z : Value → Shared → Prop} {Y : Str → Hp → Prop}
    (hr : Room k X.A) (tb : TabB X.base X.mg c P) (hc : X.env.code = .ref c) (gs : GenS X.env sc x) (pit : PE X it te) (hel : EltG X.prog X.w X.mg sc x el pb) (hf : ∀ v, genFold it X.env v = pure v) (I : Inv X pins σ H s)
    (h : te σ H fun v H1 => ∃ a : Str, v = .str a ∧ TabG H1 P ∧ Y a H1) (hZ : ∀ a H1 g z, Y a H1 → Ready X pins σ H1 P a pb g z → Z (.ref g) z) :
    wpAny (model X.prog X.w) X.A (eval (.GeneratorExp el [⟨.Name x px, it, [], 0⟩] sc gp) X.env) Z X.xe s := by
  refine wpAny_GeneratorExp_walksQ hr.hd gs.co (closure_ok gs.free) gs.cell gs.dot gs.loc gs.kind hr.depth (thn (pit.run pins s σ H _ I h) fun xv s1 q => ?_) hf
  obtain ⟨v, H1, J, rv, a, rfl, ⟨ps, eP, tri⟩, hY⟩ := q
  obtain ⟨tk, rfl⟩ := (show ∃ tk, xv = Value.str a tk from rv)
  refine wpAny_pyIter_str fun o Si W st => ?_
  have oP : s1.heap.get? P = some { cls := .none, data := .fields ps } := J.hok P _ eP
  have ltP : P < s1.heap.objs.size := Heap.lt_size oP
  have oP2 : (s1.heap.push o).get? P = some { cls := .none, data := .fields ps } := Heap.get?_push_of_some _ oP
  have hd : PySem.W.CodeHd (s1.heap.push o) c P := tb.code.keeps fun b u e => Heap.get?_push_of_some _ (J.bk b u e)
  have nl : (s1.heap.push o).NoLimit := J.nolimit.push o
  have go : ∀ (cv : Value) (h3 : Heap) (t3 : Nat) (ps3 : Array Value), Heap.ExtBut P (s1.heap.push o) h3 → (s1.heap.push o).objs.size ≤ h3.objs.size → h3.get? P = some { cls := .none, data := .fields ps3 } → (∃ more, ps3 = ps ++ more) → TriplesOk ps3.toList →
      wpAny (model X.prog X.w) X.A (builtinsFor X.env.globals X.env.builtins) (fun bi s4 => ∃ Ia fp wr n0 Pf St0 pz F, Value.ref s1.heap.objs.size = .ref Ia ∧ (∀ B : Around, B.handled = none → Walks X.prog X.w B Ia fp wr n0 Pf St0) ∧ St0 0 s4.heap ∧
          (∀ b ∈ fp, b < s4.heap.objs.size) ∧ s4.heap.NoLimit ∧ cStatics ∉ wr ∧
          (∀ href : Heap, (∀ b o, s4.heap.get? b = some o → href.get? b = some o) → QuietGen X.prog X.w (genEnv sc (cloFrom X.env.cells sc.names []) s4.heap.objs.size cv bi X.env) x [] el (List.range s4.heap.objs.size) wr Pf pz F href) ∧
          (∀ g h5 t5 gst, gst.bare = true → s4.heap.objs.size < g → h5.objs.size = g + 1 → (∀ b o, s4.heap.get? b = some o → h5.get? b = some o) →
            WalksS X.prog X.w X.A.in4 g (g :: s4.heap.objs.size :: List.range s4.heap.objs.size) (s4.heap.objs.size :: wr) (GenOnlyQ s4.gens.size) (passing pz n0 0).length (fun j y => ∃ i, (passing pz n0 0)[j]? = some i ∧ F i y)
              (GenAt X.prog X.w X.A.in4 g s4.gens.size s4.heap.objs.size (List.range s4.heap.objs.size) wr pz n0 F) →
            GenAt X.prog X.w X.A.in4 g s4.gens.size s4.heap.objs.size (List.range s4.heap.objs.size) wr pz n0 F 0 { s4 with gens := s4.gens.push gst, toks := t5, heap := h5 } →
            Z (.ref g) { s4 with gens := s4.gens.push gst, toks := t5, heap := h5 })) X.xe { s1 with heap := h3, toks := t3 } := by
    intro cv h3 t3 ps3 ext szl oP3 hmore tri3
    have keep : ∀ b u, b ≠ P → s1.heap.get? b = some u → h3.get? b = some u := fun b u nb e => ext b u nb (Heap.get?_push_of_some _ e)
    have glob3 : h3.Ns mainGlobals X.mg := ((J.mod.glob.keeps J.bk).push o).extBut ext tb.gP
    have neC : cStatics ≠ P := fun e => by
      obtain ⟨_, ⟨o', es, ep, ho, hdt, _⟩, _⟩ := J.nolimit
      rw [e, oP] at ho
      cases ho
      cases hdt
    have ltC : cStatics < s1.heap.objs.size := let ⟨_, hns, _⟩ := J.nolimit; hns.lt
    have ltG : mainGlobals < s1.heap.objs.size := (J.mod.glob.keeps J.bk).lt
    have szp : (s1.heap.push o).objs.size = s1.heap.objs.size + 1 := Heap.size_push ..
    obtain ⟨bm, ob, b1, b2, b3, b4, b5, b6, b7, b8⟩ := tb.bm
    refine wpAny_builtinsFor (m := X.mg) (by rw [J.ok.glob]; exact glob3) b1 b2 (keep _ _ b4 (J.bk _ _ b5)) b6 b7 b8 ?_
    refine ⟨s1.heap.objs.size, [s1.heap.objs.size], [s1.heap.objs.size], a.cps.size, SignAt a, Si, fun _ => true, fun i y => ∃ n, a.cps[i]? = some n ∧ y = .bool (pb n), rfl, W, ?_, ?_, nl.extBut ext neC, ?_, ?_, ?_⟩
    · exact (W X.A hr.hd).frame _ _ _ st fun b hb u e => ext b u (by rw [List.mem_singleton.mp hb]; exact (Nat.ne_of_lt ltP).symm) e
    · intro b hb
      rw [List.mem_singleton.mp hb]
      show s1.heap.objs.size < h3.objs.size
      omega
    · intro e
      exact Nat.ne_of_lt ltC (List.mem_singleton.mp e)
    · intro href hx
      constructor
      · intro B R i v z ml _ _ _ _ _
        rw [List.forIn_nil]
        exact wpAny_pure ⟨rfl, keeps_refl _⟩
      · intro B R i v z ml _ pv' _ hL hm hold
        obtain ⟨n, u, en, rfl⟩ := pv'
        have gz : z.heap.Ns mainGlobals X.mg := by
          obtain ⟨og, eg, ep, ho, rest⟩ := glob3
          refine ⟨og, eg, ep, hold mainGlobals (List.mem_range.mpr ?_) (fun e => Nat.ne_of_lt ltG (List.mem_singleton.mp e)) og (hx _ _ ho), rest⟩
          exact Heap.lt_size ho
        exact wpAny_mono (hel _ B R n u z ml rfl (show X.env.globals = mainGlobals from J.ok.glob) gz hL hm) (fun y z' q => ⟨⟨n, en, q.1⟩, q.2⟩) fun _ _ e => e
    · intro g h5 t5 gst gb lg sz5 keep5 W5 at5
      simp only [GxR.passing_true, List.length_range] at W5
      refine hZ a H1 g _ hY ⟨_, _, _, _, _, W5.in4_1, at5, ?_, fun s' mv => ?_⟩
      · intro j y sj Qj Ej fy hQ
        obtain ⟨i, ei, n, en, rfl⟩ := fy
        obtain ⟨hj, ej⟩ := List.getElem?_eq_some_iff.mp ei
        rw [List.getElem_range] at ej
        subst ej
        have e9 : a.cps.toList[j]? = some n := by
          rw [Array.getElem?_toList]
          exact en
        have hQ' : Qj (trF pb a.cps.toList j) sj := hQ
        rw [trF_some e9] at hQ'
        exact wpAny_truthy_bool hQ'
      · obtain ⟨more, rfl⟩ := hmore
        have nw : ∀ b u, s1.heap.get? b = some u → b ∉ h3.objs.size :: [s1.heap.objs.size] := fun b u e hb => by
          have lb := Heap.lt_size e
          rcases List.mem_cons.mp hb with q | q
          · rw [q] at lb
            have : (h3.objs.size : Nat) < s1.heap.objs.size := lb
            omega
          · rw [List.mem_singleton.mp q] at lb
            exact Nat.lt_irrefl _ lb
        have V := inv_tab (more := more) (h' := s'.heap) (g' := s'.gens) (d' := s'.drawn) (t' := s'.toks) J eP (fun b u nb e => mv.heap b u (nw b u e) (keep5 b u (keep b u nb e))) (mv.heap P _ (nw P _ oP) (keep5 P _ oP3)) (AllBare.movedS (J.bare.push gb) mv)
        rw [sh_eta s1 s' mv.os] at V
        exact ⟨_, ⟨⟨ps ++ more, upd_same, tri3⟩, fun b nb => upd_ne nb⟩, V⟩
  refine ⟨nl, ?_⟩
  cases cf : codeAmong gp ps.toList with
  | some cv => exact wpAny_genexprCode_hit hc (hd.code oP2 tri) cf (go cv (s1.heap.push o) s1.toks ps (Heap.ExtBut.refl _ _) (Nat.le_refl _) oP2 ⟨#[], by simp⟩ tri)
  | none =>
    refine wpAny_genexprCodeX hc (hd.code oP2 tri) (hd.tab oP2) cf fun c' h' tk' hx ge lt co _ tab _ => ?_
    obtain ⟨o1, vs, f1, tf, fl, tg, inF, tx, tt, op, _, _, _, _, _, _, _, _, _, htr, _⟩ := co
    exact go _ h' tk' _ hx (Nat.le_trans ge (Nat.le_of_lt lt)) tab.2 ⟨_, rfl⟩ htr
theorem pe_allG {c P : Addr} {el it : Expr} {x : Str} {px p pos gp : Pos} {sc : Scope} {pb : Nat → Bool} {te : TE} {k : Nat} (hr : Room k X.A) (hg : Gl X "all") (hm : X.mg "all" = none) (tb : TabB X.base X.mg c P) (hc : X.env.code = .ref c)
    (gs : GenS X.env sc x) (pit : PE X it te) (hel : EltG X.prog X.w X.mg sc x el pb) (hf : ∀ v, genFold it X.env v = pure v)
    (he : starEach [.GeneratorExp el [⟨.Name x px, it, [], 0⟩] sc gp] X.env = (false, eval (.GeneratorExp el [⟨.Name x px, it, [], 0⟩] sc gp) X.env) :: starEach [] X.env := by rfl) :
    PE X (.Call (.Name "all" p) [.GeneratorExp el [⟨.Name x px, it, [], 0⟩] sc gp] [] pos) (tAllS P pb te) := by
  constructor
  intro pins s σ H Q I h
  have hb : bootBuiltins "all" = some (.builtin "all") := by decide +kernel
  refine wpAny_Call_Name_kw (ld_blt I hg hm hb (PyProof.Rows.callWith_builtin1 ?_ he (by rfl)))
  rw [he]
  show wpAny _ _ (spliced ((false, eval (.GeneratorExp el [⟨.Name x px, it, [], 0⟩] sc gp) X.env) :: backTo pos (starEach [] X.env))) _ _ s
  refine Calls.spliced_cons (gen_strG (Y := fun a H1 => ∀ H2, Tabbed P H1 H2 → Q (.bl (a.cps.toList.all pb)) H2) hr tb hc gs pit hel hf I h fun a H1 g z hY rd => Calls.spliced_nil ?_)
  obtain ⟨fp, wr, G, F, St, W, st, tr, back⟩ := rd
  refine call_all_walkS (W.self 0 _ _ _ st ⟨g, fp, wr, G, _, F, St, _, rfl, W, st, tr, fun z' mv => ?_⟩)
  obtain ⟨H2, tbd, J⟩ := back z' mv
  exact ⟨.bl _, H2, J, rfl, by rw [all_signs a pb]; exact hY H2 tbd⟩
end
end R
namespace R
open PySem PySem.Spec PyProof.Rows L2
/-! ### the law's end, where the table of one def's code is told to be empty -/
theorem walk_tab {l : PySem.W.OpenLaw} {n k : Nat} {q : Program} {loose : List Str} {XP : (Str → Option Value) → Heap → Prop} {YP : World → Heap → Prop} {d : DefRec} {K : Params → PySem.W.Frag} {CX : World → CXT} {x : Str} (nm : Str)
    (hn : l.most = some n) (hn2 : n ≤ sizeLine) (hdf : d.params.defaults = []) (hr : Room k callerA) (hrec : ((recsOf q).any fun e => e.name == nm) = true) (hY : ∀ (w : World) (h : Heap), YP w h → (K w.params).In h)
    (F : ∀ (w : World) (mg : Str → Option Value) (fa : Addr) (h : Heap), (K w.params).In h → h.Ns mainGlobals mg → mg d.name = some (.ref fa) → (∀ f, mg nm = some (.ref f) → LamX.OwnTab (K w.params) f h) → LamX.LawAtS l w (K w.params) (CX w) k n x mg fa h)
    (hCX : ∀ (w : World) (H : Hp) (s : Shared) (e : Value) (s' : Shared), CX w [] H s (fun _ _ _ => False) e s' → False) : PySem.W.WalkO q loose XP YP l.row.toRowW d [] (fun f vs => PySem.call f vs) := by
  refine Att.attach_callB hn hdf fun w s₀ s₁ mg mb fa o pm cd doc a vs ns G Y ho hd hcd hmg hobj hints hlen hbits hg => ?_
  have inK := hY w _ Y
  have tabs : ∀ f, mg nm = some (.ref f) → LamX.OwnTab (K w.params) f s₁.heap := by
    intro f hf c P o1 fd1 e dd vc sl e1 e2 e3 e4 e5
    obtain ⟨dL, hm, he⟩ := List.any_eq_true.mp hrec
    obtain ⟨a', o', fd', c', P', g1, g2, g3, g4, g5, g6⟩ := G.T.tab dL hm
    rw [beq_iff_eq.mp he, hf] at g1
    cases g1
    have q1 := (inK _ _ e1).symm.trans g2
    cases q1
    have q2 := e2.symm.trans g3
    cases q2
    have q3 := e3.symm.trans g4
    cases q3
    obtain ⟨⟨oc, vc', r1, _, r3, r4⟩, rP⟩ := g6
    have q4 := (inK _ _ e4).symm.trans r1
    cases q4
    cases r3
    have q5 := e5.symm.trans r4
    cases q5
    exact rP
  obtain ⟨fd, cs, sp, hT, nT, C, hb, hsp, hF⟩ := F w mg fa _ inK G.T.g hmg tabs
  exact LamX.law_callTs inK G.T.g G.T.b G.T.builtins G.T.nolimit hg hT nT C G.T.bmain hobj hints (Nat.le_trans hlen hn2) hr hF hb (fun H hH hS => hsp H a ns hlen hbits hH hS) fun H e s' => hCX w H s₁ e s'
end R
namespace R
open PySem PySem.Spec PyProof.Rows L2
open TL (tl)
def topS (i : Nat) : Stmt := PySem.Challenge.pw_reels_k04_whole_times_read.main.body.getD i (.Pass ⟨0, 0, 0, 0⟩)
abbrev s_common_divisor : Stmt := topS 9
theorem sc_common_divisor : FnScope ["one", "two"] ["one", "two"] (defScope s_common_divisor) := ⟨rfl, rfl, rfl, by decide +kernel, rfl, by decide +kernel, by decide +kernel⟩
abbrev s_made : Stmt := topS 10
theorem sc_made : FnScope ["top", "bottom", "divisor"] ["top", "bottom"] (defScope s_made) := ⟨rfl, rfl, rfl, by decide +kernel, rfl, by decide +kernel, by decide +kernel⟩
abbrev s_added : Stmt := topS 11
theorem sc_added : FnScope ["one", "two", "shared", "top", "divisor"] ["one", "two"] (defScope s_added) := ⟨rfl, rfl, rfl, by decide +kernel, rfl, by decide +kernel, by decide +kernel⟩
abbrev s_timed : Stmt := topS 12
theorem sc_timed : FnScope ["one", "two"] ["one", "two"] (defScope s_timed) := ⟨rfl, rfl, rfl, by decide +kernel, rfl, by decide +kernel, by decide +kernel⟩
abbrev s_read_time : Stmt := topS 17
theorem sc_read_time : FnScope ["text", "rate"] ["text", "rate"] (defScope s_read_time) := ⟨rfl, rfl, rfl, by decide +kernel, rfl, by decide +kernel, by decide +kernel⟩
abbrev s_read_frames : Stmt := topS 18
theorem sc_read_frames : FnScope ["text"] ["text"] (defScope s_read_frames) := ⟨rfl, rfl, rfl, by decide +kernel, rfl, by decide +kernel, by decide +kernel⟩
abbrev s_read_mixed : Stmt := topS 19
theorem sc_read_mixed : FnScope ["text", "whole", "blank", "rest"] ["text"] (defScope s_read_mixed) := ⟨rfl, rfl, rfl, by decide +kernel, rfl, by decide +kernel, by decide +kernel⟩
abbrev s_read_clock : Stmt := topS 20
theorem sc_read_clock : FnScope ["text", "rate", "clock", "blank", "rest", "fields", "hours", "minutes", "seconds", "frames"] ["text", "rate"] (defScope s_read_clock) := ⟨rfl, rfl, rfl, by decide +kernel, rfl, by decide +kernel, by decide +kernel⟩
abbrev s_read_field : Stmt := topS 21
theorem sc_read_field : FnScope ["word", "bound", "needs_nought", "number"] ["word", "bound"] (defScope s_read_field) := ⟨rfl, rfl, rfl, by decide +kernel, rfl, by decide +kernel, by decide +kernel⟩
abbrev s_read_rest : Stmt := topS 22
theorem sc_read_rest : FnScope ["blank", "rest", "top_word", "slash", "bottom_word", "top", "bottom"] ["blank", "rest"] (defScope s_read_rest) := ⟨rfl, rfl, rfl, by decide +kernel, rfl, by decide +kernel, by decide +kernel⟩
abbrev s_read_number : Stmt := topS 23
theorem sc_read_number : FnScope ["word"] ["word"] (defScope s_read_number) := ⟨rfl, rfl, rfl, by decide +kernel, rfl, by decide +kernel, by decide +kernel⟩
abbrev s_Lbegun : Stmt := topS 25
theorem sc_Lbegun : FnScope ["_law_script", "_law_stirred", "_law_cell"] ["_law_script"] (defScope s_Lbegun) := ⟨rfl, rfl, rfl, by decide +kernel, rfl, by decide +kernel, by decide +kernel⟩
abbrev s_Ltake : Stmt := topS 26
theorem sc_Ltake : FnScope ["_law_box", "_law_many", "_law_number"] ["_law_box", "_law_many"] (defScope s_Ltake) := ⟨rfl, rfl, rfl, by decide +kernel, rfl, by decide +kernel, by decide +kernel⟩
abbrev s_Lalike : Stmt := topS 27
theorem sc_Lalike : FnScope ["_law_found", "_law_due", "_law_k"] ["_law_found", "_law_due"] (defScope s_Lalike) := ⟨rfl, rfl, rfl, by decide +kernel, rfl, by decide +kernel, by decide +kernel⟩
abbrev s_Lfr : Stmt := topS 28
theorem sc_Lfr : FnScope ["_law_top", "_law_bottom", "_law_one", "_law_two", "_law_rest"] ["_law_top", "_law_bottom"] (defScope s_Lfr) := ⟨rfl, rfl, rfl, by decide +kernel, rfl, by decide +kernel, by decide +kernel⟩
abbrev s_Lmixed : Stmt := topS 34
theorem sc_Lmixed : FnScope ["_law_time", "_law_whole", "_law_rest"] ["_law_time"] (defScope s_Lmixed) := ⟨rfl, rfl, rfl, by decide +kernel, rfl, by decide +kernel, by decide +kernel⟩
abbrev s_Lframes_text : Stmt := topS 35
theorem sc_Lframes_text : FnScope ["_law_time"] ["_law_time"] (defScope s_Lframes_text) := ⟨rfl, rfl, rfl, by decide +kernel, rfl, by decide +kernel, by decide +kernel⟩
abbrev s_Lseconds_text : Stmt := topS 36
theorem sc_Lseconds_text : FnScope ["_law_time", "_law_rate_here"] ["_law_time", "_law_rate_here"] (defScope s_Lseconds_text) := ⟨rfl, rfl, rfl, by decide +kernel, rfl, by decide +kernel, by decide +kernel⟩
abbrev s_Lclock_text : Stmt := topS 37
theorem sc_Lclock_text : FnScope ["_law_time", "_law_rate_here", "_law_frames", "_law_numbers", "_law_text", "_law_number"] ["_law_time", "_law_rate_here"] (defScope s_Lclock_text) := ⟨rfl, rfl, rfl, by decide +kernel, rfl, by decide +kernel, by decide +kernel⟩
abbrev s_Lany_time : Stmt := topS 38
theorem sc_Lany_time : FnScope ["_law_box", "_law_top"] ["_law_box"] (defScope s_Lany_time) := ⟨rfl, rfl, rfl, by decide +kernel, rfl, by decide +kernel, by decide +kernel⟩
abbrev s_Lrate : Stmt := topS 39
theorem sc_Lrate : FnScope ["_law_box"] ["_law_box"] (defScope s_Lrate) := ⟨rfl, rfl, rfl, by decide +kernel, rfl, by decide +kernel, by decide +kernel⟩
abbrev s_Lspoilt : Stmt := topS 40
theorem sc_Lspoilt : FnScope ["_law_box", "_law_text", "_law_j", "_law_at", "_law_sign", "_law_cut"] ["_law_box", "_law_text"] (defScope s_Lspoilt) := ⟨rfl, rfl, rfl, by decide +kernel, rfl, by decide +kernel, by decide +kernel⟩
abbrev s_Ltext_of : Stmt := topS 41
theorem sc_Ltext_of : FnScope ["_law_box", "_law_rate_here", "_law_time", "_law_texts", "_law_text", "_law_k"] ["_law_box", "_law_rate_here"] (defScope s_Ltext_of) := ⟨rfl, rfl, rfl, by decide +kernel, rfl, by decide +kernel, by decide +kernel⟩
abbrev s_Lis_long : Stmt := topS 42
theorem sc_Lis_long : FnScope ["_law_rate_here"] ["_law_rate_here"] (defScope s_Lis_long) := ⟨rfl, rfl, rfl, by decide +kernel, rfl, by decide +kernel, by decide +kernel⟩
abbrev s_law : Stmt := topS 43
theorem sc_law : FnScope ["_law_script", "_law_box", "_law_rate_here", "_law_text", "_law_told", "e", "_law_kinds"] ["_law_script"] (defScope s_law) := ⟨rfl, rfl, rfl, by decide +kernel, rfl, by decide +kernel, by decide +kernel⟩
structure Txt (K : PySem.W.Frag) (mg : Str → Option Value) : Prop where
  d_common_divisor : Df K mg "common_divisor" s_common_divisor ["one", "two"]
  d_made : Df K mg "made" s_made ["top", "bottom"]
  d_added : Df K mg "added" s_added ["one", "two"]
  d_timed : Df K mg "timed" s_timed ["one", "two"]
  d_read_time : Df K mg "read_time" s_read_time ["text", "rate"]
  d_read_frames : Df K mg "read_frames" s_read_frames ["text"]
  d_read_mixed : Df K mg "read_mixed" s_read_mixed ["text"]
  d_read_clock : Df K mg "read_clock" s_read_clock ["text", "rate"]
  d_read_field : Df K mg "read_field" s_read_field ["word", "bound"]
  d_read_rest : Df K mg "read_rest" s_read_rest ["blank", "rest"]
  d_read_number : Df K mg "read_number" s_read_number ["word"]
  d_Lbegun : Df K mg "_law_begun" s_Lbegun ["_law_script"]
  d_Ltake : Df K mg "_law_take" s_Ltake ["_law_box", "_law_many"]
  d_Lalike : Df K mg "_law_alike" s_Lalike ["_law_found", "_law_due"]
  d_Lfr : Df K mg "_law_fr" s_Lfr ["_law_top", "_law_bottom"]
  d_Lmixed : Df K mg "_law_mixed" s_Lmixed ["_law_time"]
  d_Lframes_text : Df K mg "_law_frames_text" s_Lframes_text ["_law_time"]
  d_Lseconds_text : Df K mg "_law_seconds_text" s_Lseconds_text ["_law_time", "_law_rate_here"]
  d_Lclock_text : Df K mg "_law_clock_text" s_Lclock_text ["_law_time", "_law_rate_here"]
  d_Lany_time : Df K mg "_law_any_time" s_Lany_time ["_law_box"]
  d_Lrate : Df K mg "_law_rate" s_Lrate ["_law_box"]
  d_Lspoilt : Df K mg "_law_spoilt" s_Lspoilt ["_law_box", "_law_text"]
  d_Ltext_of : Df K mg "_law_text_of" s_Ltext_of ["_law_box", "_law_rate_here"]
  d_Lis_long : Df K mg "_law_is_long" s_Lis_long ["_law_rate_here"]
  d_law : Df K mg "law" s_law ["_law_script"]
  m_abs : mg "abs" = none
  m_len : mg "len" = none
  m_all : mg "all" = none
  m_int : mg "int" = none
  m_list : mg "list" = none
  m_isinstance : mg "isinstance" = none
  m_bool : mg "bool" = none
  m_str : mg "str" = none
  m_tuple : mg "tuple" = none
  m_range : mg "range" = none
  m_ValueError : mg "ValueError" = none
  e_BadTime : ∃ C, ExcT K mg "BadTime" C
  e_ReelError : ∃ C, ExcT K mg "ReelError" C
  n_BadNote : ∃ C, mg "BadNote" = some (.ref C)
  n_OffReel : ∃ C, mg "OffReel" = some (.ref C)
  n_NoDeed : ∃ C, mg "NoDeed" = some (.ref C)
  n_TooTight : ∃ C, mg "TooTight" = some (.ref C)
  x_own : ∀ C : Addr, mg "BadTime" = some (.ref C) → ExcC K C
  x_reel : ∀ C C2 : Addr, mg "BadTime" = some (.ref C) → mg "ReelError" = some (.ref C2) → PySem.W.exmOne K (.ref C) (.ref C2) = some true
  x_self : ∀ C : Addr, mg "BadTime" = some (.ref C) → PySem.W.kitOne K (.ref C) (.ref C) = some true
  x_note : ∀ C C2 : Addr, mg "BadTime" = some (.ref C) → mg "BadNote" = some (.ref C2) → PySem.W.kitOne K (.ref C) (.ref C2) = some false
  x_off : ∀ C C2 : Addr, mg "BadTime" = some (.ref C) → mg "OffReel" = some (.ref C2) → PySem.W.kitOne K (.ref C) (.ref C2) = some false
  x_deed : ∀ C C2 : Addr, mg "BadTime" = some (.ref C) → mg "NoDeed" = some (.ref C2) → PySem.W.kitOne K (.ref C) (.ref C2) = some false
  x_tight : ∀ C C2 : Addr, mg "BadTime" = some (.ref C) → mg "TooTight" = some (.ref C2) → PySem.W.kitOne K (.ref C) (.ref C2) = some false
  x_ve : ∀ C : Addr, mg "BadTime" = some (.ref C) → PySem.W.kitOne K (.ref C) (.type "ValueError") = some true
  c_SIXTY : ∃ u, mg "SIXTY" = some u ∧ RelV (.int 60) u
  c_NOUGHT : ∃ a : Addr, (∃ u, mg "NOUGHT" = some u ∧ RelV (.ref a) u) ∧ ∀ H : Hp, SqT K H a [.int 0, .int 1]
  c_MOST_FIGURES : ∃ u, mg "MOST_FIGURES" = some u ∧ RelV (.int 9) u
  c_FIGURES : ∃ u, mg "FIGURES" = some u ∧ RelV (.str "0123456789") u
/-! ### fractions on the heap -/
def dF (q : Rat) : PyData := .tuple [.int q.num, .int (q.den : Int)]
theorem dF_at {K : PySem.W.Frag} {H : Hp} {v : V} {q : Rat} (h : Dp K H v (dF q)) : ∃ a, v = .ref a ∧ SqT K H a [.int q.num, .int (q.den : Int)] := by
  unfold dF at h
  cases h with
  | tup hs ha =>
    cases ha with
    | cons h1 h2 =>
      cases h1
      cases h2 with
      | cons h3 h4 =>
        cases h3
        cases h4
        exact ⟨_, rfl, hs⟩
theorem dF_mk {K : PySem.W.Frag} {H : Hp} {p : Addr} {q : Rat} (h : SqT K H p [.int q.num, .int (q.den : Int)]) : Dp K H (.ref p) (dF q) := .tup h (.cons (.int _) (.cons (.int _) .nil))
def spGcd : Sp := fun vs H Q _ => ∃ i j : Int, vs = [.int i, .int j] ∧ Q (.int (Nat.gcd i.natAbs j.natAbs : Nat)) H
def spMade (K : PySem.W.Frag) : Sp := fun vs H Q _ => ∃ t b : Int, vs = [.int t, .int b] ∧ b ≠ 0 ∧ b.natAbs < 2 ^ 9000 ∧ ∀ H' v, Same H H' → Dp K H' v (dF (Rat.divInt t b)) → Q v H'
def spF2 (K : PySem.W.Frag) (f : Rat → Rat → Rat) (C : Rat → Rat → Prop) : Sp := fun vs H Q _ => ∃ (u v : V) (x y : Rat) (n m : Nat), vs = [u, v] ∧ Dp K H u (dF x) ∧ Dp K H v (dF y) ∧ Sz n x ∧ Sz m y ∧ n + m ≤ 9000 ∧ C x y ∧
  ∀ H' z, Same H H' → Dp K H' z (dF (f x y)) → Q z H'
def spLow (K : PySem.W.Frag) : Sp := fun vs H Q _ => ∃ (u v : V) (x y : Rat) (n m : Nat), vs = [u, v] ∧ Dp K H u (dF x) ∧ Dp K H v (dF y) ∧ Sz n x ∧ Sz m y ∧ n + m ≤ 9000 ∧ Q (.bl (decide (x < y))) H
theorem Sz.pos {n : Nat} {x : Rat} (h : Sz n x) : 0 < n := by
  have h1 := h.den
  have h2 := x.den_nz
  cases n with
  | zero =>
    have : x.den < 1 := h1
    omega
  | succ n => exact Nat.succ_pos n
theorem mnd {n m : Nat} {x y : Rat} (hx : Sz n x) (hy : Sz m y) (h : n + m ≤ 9000) : CMulW x.num (y.den : Int) := wide_mul hx.num hy.den' hx.pos hy.pos (by omega)
theorem mnd' {n m : Nat} {x y : Rat} (hx : Sz n x) (hy : Sz m y) (h : n + m ≤ 9000) : CMulW y.num (x.den : Int) := wide_mul hy.num hx.den' hy.pos hx.pos (by omega)
theorem mdd {n m : Nat} {x y : Rat} (hx : Sz n x) (hy : Sz m y) (h : n + m ≤ 9000) : CMulW (x.den : Int) (y.den : Int) := wide_mul hx.den' hy.den' hx.pos hy.pos (by omega)
theorem mnn {n m : Nat} {x y : Rat} (hx : Sz n x) (hy : Sz m y) (h : n + m ≤ 9000) : CMulW x.num y.num := wide_mul hx.num hy.num hx.pos hy.pos (by omega)
theorem mdn {n m : Nat} {x y : Rat} (hx : Sz n x) (hy : Sz m y) (h : n + m ≤ 9000) : CMulW (x.den : Int) y.num := wide_mul hx.den' hy.num hx.pos hy.pos (by omega)
theorem up9 {i : Int} {n : Nat} (h : i.natAbs < 2 ^ n) (k : n ≤ 9000) : i.natAbs < 2 ^ 9000 := Nat.lt_of_lt_of_le h (Nat.pow_le_pow_right (by decide) k)
theorem num_zero {y : Rat} (h : y.num ≠ 0) : y ≠ 0 := fun e => h (by rw [e]; rfl)
theorem p20 {i : Int} (h : i.natAbs < 2 ^ 20) : i.natAbs < 2 ^ 9000 := Nat.lt_of_lt_of_le h (Nat.pow_le_pow_right (by decide) (by decide))
/-! ### the box of draws: a list of ints and a number, at b and l -/
def hid (b l : Addr) (H : Hp) : Hp := fun a => if a = b ∨ a = l then none else H a
structure Bx (H : Hp) (b l : Addr) : Prop where
  ne : b ≠ l
  ex : ∃ (xs : List Int) (st : Int), H b = some (.lst [.ref l, .int st]) ∧ H l = some (.lst (xs.map V.int))
theorem hid_b {b l : Addr} {H : Hp} {o : HO} : hid b l (upd H b o) = hid b l H := by
  funext a
  unfold hid upd
  split
  · rfl
  · rename_i h
    rw [if_neg (fun e => h (.inl e))]
theorem hid_l {b l : Addr} {H : Hp} {o : HO} : hid b l (upd H l o) = hid b l H := by
  funext a
  unfold hid upd
  split
  · rfl
  · rename_i h
    rw [if_neg (fun e => h (.inr e))]
theorem Same.hid {b l : Addr} {H H' : Hp} (s : Same H H') : Same (hid b l H) (hid b l H') := fun a o h => by
  unfold R.hid at h ⊢
  split at h
  · cases h
  · rename_i k
    rw [if_neg k]
    exact s _ _ h
theorem hid_same {b l : Addr} {H : Hp} : Same (hid b l H) H := fun a o h => by
  unfold hid at h
  split at h
  · cases h
  · exact h
theorem Bx.mono {b l : Addr} {H H' : Hp} (B : Bx H b l) (s : Same H H') : Bx H' b l := by
  obtain ⟨xs, st, h1, h2⟩ := B.ex
  exact ⟨B.ne, xs, st, s _ _ h1, s _ _ h2⟩
theorem dpa_ints {K : PySem.W.Frag} {H : Hp} : ∀ xs : List Int, DpAll K H (xs.map V.int) (xs.map PyData.int)
  | [] => .nil
  | _ :: r => .cons (.int _) (dpa_ints r)
theorem lay_ints : ∀ xs : List Int, PyData.canLayAll0 (xs.map PyData.int) = true
  | [] => rfl
  | _ :: r => by
    show (PyData.canLay0 _ && PyData.canLayAll0 (r.map PyData.int)) = true
    rw [lay_ints r]
    rfl
theorem depth_ints : ∀ xs : List Int, PyData.depthAll (xs.map PyData.int) = 0
  | [] => rfl
  | _ :: r => by
    show max (PyData.depth _) (PyData.depthAll (r.map PyData.int)) = 0
    rw [depth_ints r]
    rfl
theorem shaped_ints (xs : List Int) : SeqAt.shaped (.list (xs.map PyData.int)) = true := by
  unfold SeqAt.shaped
  rw [show PyData.canLay0 (.list (xs.map PyData.int)) = true from lay_ints xs, show PyData.depth (.list (xs.map PyData.int)) = 1 by
    show PyData.depthAll (xs.map PyData.int) + 1 = 1
    rw [depth_ints]]
  rfl
theorem fmod_rg {x m : Int} (h : 0 < m) : 0 ≤ x.fmod m ∧ x.fmod m < m := by
  rw [Int.fmod_eq_emod_of_nonneg _ (by omega)]
  exact ⟨Int.emod_nonneg _ (by omega), Int.emod_lt_of_pos _ h⟩
def spBegun (K : PySem.W.Frag) : Sp := fun vs H Q _ => ∃ (a : Addr) (ns : List Int), vs = [.ref a] ∧ SqL K H a (ns.map V.int) ∧ ∀ H' b l, Same H H' → H b = none → H l = none → Bx H' b l → Q (.ref b) H'
def spTake (K : PySem.W.Frag) : Sp := fun vs H Q _ => ∃ (b l : Addr) (m : Int), vs = [.ref b, .int m] ∧ Bx H b l ∧ 0 < m ∧ m < 1073741824 ∧ ∀ H' (r : Int), Same (hid b l H) (hid b l H') → Bx H' b l → 0 ≤ r → r < m → Q (.int r) H'
theorem ixN0 {n : Nat} : ixN (n + 1) 0 = some 0 := by
  unfold ixN
  rw [if_pos (by decide), if_pos (by omega)]
  rfl
theorem hid_at {b l p : Addr} {H : Hp} {o : HO} (B : Bx H b l) (hp : H p = none) : hid b l (upd H p o) p = some o := by
  obtain ⟨xs, st, h1, h2⟩ := B.ex
  unfold hid
  rw [if_neg, upd_same]
  rintro (e | e)
  · rw [e, h1] at hp
    cases hp
  · rw [e, h2] at hp
    cases hp
theorem hid_tup {K : PySem.W.Frag} {b l a : Addr} {H : Hp} {xs : List V} (B : Bx H b l) (h : SqT K H a xs) : SqT K (hid b l H) a xs := by
  obtain ⟨ys, st, h1, h2⟩ := B.ex
  have key : ∀ u : HO, H a = some u → (∀ zs, u ≠ .lst zs) → hid b l H a = some u := by
    intro u hu hn
    unfold hid
    rw [if_neg, hu]
    rintro (e | e)
    · rw [e, h1] at hu
      exact hn _ (Option.some.inj hu).symm
    · rw [e, h2] at hu
      exact hn _ (Option.some.inj hu).symm
  rcases h with (h | ⟨o, h⟩) | h
  · exact .inl (.inl (key _ h (fun _ z => nomatch z)))
  · exact .inl (.inr ⟨o, key _ h (fun _ z => nomatch z)⟩)
  · exact .inr h
theorem frac_hid {K : PySem.W.Frag} {b l : Addr} {H : Hp} {v : V} {q : Rat} (B : Bx H b l) (h : Dp K H v (dF q)) : Dp K (hid b l H) v (dF q) := by
  obtain ⟨a, rfl, h2⟩ := dF_at h
  exact dF_mk (hid_tup B h2)
theorem frac_keep {K : PySem.W.Frag} {b l : Addr} {H H' : Hp} {v : V} {q : Rat} (h : Dp K H v (dF q)) (B : Bx H b l) (s : Same (hid b l H) (hid b l H')) : Dp K H' v (dF q) := dp_mono hid_same _ _ (dp_mono s _ _ (frac_hid B h))
/-! ### alike: the same data -/
theorem iteY {c : Bool} {A B : Prop} (h : c = true) (a : A) : if c = true then A else B := by
  rw [if_pos h]
  exact a
theorem iteN {c : Bool} {A B : Prop} (h : c = false) (b : B) : if c = true then A else B := by
  rw [if_neg (by rw [h]; exact Bool.false_ne_true)]
  exact b
theorem tyL {K : PySem.W.Frag} {H : Hp} {a : Addr} {xs : List V} (h : SqL K H a xs) : TyX K H (.ref a) (.type "list") := by
  rcases h with (h | ⟨o, h⟩) | ⟨o, its, n, h1, h2, _⟩
  · exact .base (.lst h)
  · exact .base (.frz h)
  · exact .kList h1 h2
theorem tyT {K : PySem.W.Frag} {H : Hp} {a : Addr} {xs : List V} (h : SqT K H a xs) : TyX K H (.ref a) (.type "tuple") := by
  rcases h with (h | ⟨o, h⟩) | ⟨o, its, n, h1, h2, _⟩
  · exact .base (.tup h)
  · exact .fTuple h
  · exact .kTuple h1 h2
theorem rIx_of {K : PySem.W.Frag} {H : Hp} {a : Addr} {xs : List V} {j : Nat} {v : V} {Q : VK} (h : SqL K H a xs ∨ SqT K H a xs) (hv : xs[j]? = some v) (q : Q v H) : rIx K (.ref a) (.int (j : Int)) H Q := by
  rcases h with h | h
  · exact .inl ⟨_, _, _, _, rfl, rfl, h, atI_nat hv, q⟩
  · exact .inr (.inl ⟨_, _, _, _, rfl, rfl, h, atI_nat hv, q⟩)
mutual
def szOk : PyData → Bool
  | .list xs | .tuple xs => decide (xs.length < 2 ^ 62) && szAll xs
  | _ => true
def szAll : List PyData → Bool
  | [] => true
  | x :: xs => szOk x && szAll xs
end
theorem szAll_at : ∀ {ds : List PyData} {i : Nat} {d : PyData}, szAll ds = true → ds[i]? = some d → szOk d = true
  | [], _, _, _, h => by simp at h
  | x :: r, 0, d, a, h => by
    have e : x = d := Option.some.inj h
    have := Bool.and_eq_true_iff.mp (show (szOk x && szAll r) = true from a)
    rw [← e]
    exact this.1
  | x :: r, i + 1, d, a, h => szAll_at (ds := r) (i := i) (Bool.and_eq_true_iff.mp (show (szOk x && szAll r) = true from a)).2 h
theorem depth_at : ∀ {ds : List PyData} {i : Nat} {d : PyData}, ds[i]? = some d → d.depth ≤ PyData.depthAll ds
  | [], _, _, h => by simp at h
  | x :: r, 0, d, h => by
    have e : x = d := Option.some.inj h
    rw [← e]
    exact Nat.le_max_left _ _
  | x :: r, i + 1, d, h => Nat.le_trans (depth_at (ds := r) (i := i) h) (Nat.le_max_right _ _)
theorem dpa_at {K : PySem.W.Frag} {H : Hp} : ∀ {vs : List V} {ds : List PyData} {i : Nat} {v : V}, DpAll K H vs ds → vs[i]? = some v → ∃ d, ds[i]? = some d ∧ Dp K H v d
  | [], _, _, _, _, h => by simp at h
  | x :: r, _, 0, v, .cons h1 h2, h => by
    have e : x = v := Option.some.inj h
    rw [← e]
    exact ⟨_, rfl, h1⟩
  | x :: r, _, i + 1, v, .cons h1 h2, h => dpa_at (vs := r) (i := i) h2 h
theorem dpa_len {K : PySem.W.Frag} {H : Hp} : ∀ {vs : List V} {ds : List PyData}, DpAll K H vs ds → vs.length = ds.length
  | _, _, .nil => rfl
  | _, _, .cons _ h => by rw [List.length_cons, List.length_cons, dpa_len h]
def spAlike (K : PySem.W.Frag) (n : Nat) : Sp := fun vs H Q _ => ∃ (u v : V) (d : PyData), vs = [u, v] ∧ Dp K H u d ∧ Dp K H v d ∧ d.depth < n ∧ szOk d = true ∧ Q (.bl true) H
def spRest : Sp := fun vs H Q _ => ∃ (x : Str) (t b : Int), vs = [.str x, .int t, .int b] ∧ x.length ≤ 500 ∧ 0 ≤ t ∧ t < 10 ^ 30 ∧ 0 ≤ b ∧ b < 10 ^ 30 ∧ Q (.str (x ++ rs t b)) H
def spMix (K : PySem.W.Frag) (n : Int) (g : Rat → Str) : Sp := fun vs H Q _ => ∃ (v : V) (q : Rat), vs = [v] ∧ Dp K H v (dF q) ∧ Bd n q ∧ Q (.str (g q)) H
def spTxt2 (K : PySem.W.Frag) (g : Rat → Int → Str) : Sp := fun vs H Q _ => ∃ (v : V) (q : Rat) (r : Int), vs = [v, .int r] ∧ Dp K H v (dF q) ∧ Bd (10 ^ 27) q ∧ 0 < r ∧ r ≤ 120 ∧ ∀ H', Same H H' → Q (.str (g q r)) H'
/-! ### the table of read_number's code may grow; all else stays -/
def Tb (P : Addr) (H H' : Hp) : Prop := GxR.TabG H' P ∧ ∀ a o, a ≠ P → H a = some o → H' a = some o
theorem Tb.refl {P : Addr} {H : Hp} (t : GxR.TabG H P) : Tb P H H := ⟨t, fun _ _ _ h => h⟩
theorem Tb.trans {P : Addr} {H H1 H2 : Hp} (a : Tb P H H1) (b : Tb P H1 H2) : Tb P H H2 := ⟨b.1, fun x o n h => b.2 x o n (a.2 x o n h)⟩
theorem tabG_same {P : Addr} {H H' : Hp} (t : GxR.TabG H P) (s : Same H H') : GxR.TabG H' P := let ⟨ps, h, q⟩ := t; ⟨ps, s _ _ h, q⟩
theorem Tb.same {P : Addr} {H H' : Hp} (t : GxR.TabG H P) (s : Same H H') : Tb P H H' := ⟨tabG_same t s, fun a o _ h => s a o h⟩
theorem Tb.tabbed {P : Addr} {H H' : Hp} (t : GxR.Tabbed P H H') : Tb P H H' := ⟨t.1, fun a o n h => by rw [t.2 a n]; exact h⟩
theorem Tb.at {P a : Addr} {H H' : Hp} {o : HO} (t : GxR.TabG H P) (s : Tb P H H') (h : H a = some o) (ho : ∀ q, o ≠ .tbl q) : H' a = some o := by
  refine s.2 a o (fun e => ?_) h
  obtain ⟨ps, hp, _⟩ := t
  rw [e, hp] at h
  exact ho _ (Option.some.inj h).symm
theorem tb_list {K : PySem.W.Frag} {P a : Addr} {H H' : Hp} {xs : List V} (t : GxR.TabG H P) (s : Tb P H H') (h : SqL K H a xs) : SqL K H' a xs := by
  rcases h with (h | ⟨o, h⟩) | h
  · exact .inl (.inl (s.at t h (fun _ z => nomatch z)))
  · exact .inl (.inr ⟨o, s.at t h (fun _ z => nomatch z)⟩)
  · exact .inr h
theorem tb_tup {K : PySem.W.Frag} {P a : Addr} {H H' : Hp} {xs : List V} (t : GxR.TabG H P) (s : Tb P H H') (h : SqT K H a xs) : SqT K H' a xs := by
  rcases h with (h | ⟨o, h⟩) | h
  · exact .inl (.inl (s.at t h (fun _ z => nomatch z)))
  · exact .inl (.inr ⟨o, s.at t h (fun _ z => nomatch z)⟩)
  · exact .inr h
theorem tb_dF {K : PySem.W.Frag} {P : Addr} {H H' : Hp} {v : V} {q : Rat} (t : GxR.TabG H P) (s : Tb P H H') (h : Dp K H v (dF q)) : Dp K H' v (dF q) := by
  obtain ⟨a, rfl, h2⟩ := dF_at h
  exact dF_mk (tb_tup t s h2)
/-! ### the promises of the reading defs -/
def spNum (P C : Addr) : Sp := fun vs H Q E => ∃ x : Str, vs = [.str x] ∧ x.length ≤ 1000 ∧ GxR.TabG H P ∧ (∀ i, rdNum x = some i → ∀ H', Tb P H H' → Q (.int i) H') ∧ (rdNum x = none → ∀ H', Tb P H H' → E (.ref C) none H')
def spField (P C : Addr) : Sp := fun vs H Q E => ∃ (x : Str) (b : Int), vs = [.str x, .int b] ∧ x.length ≤ 1000 ∧ GxR.TabG H P ∧ (∀ i, rdField x b = some i → ∀ H', Tb P H H' → Q (.int i) H') ∧ (rdField x b = none → ∀ H', Tb P H H' → E (.ref C) none H')
def spRst (K : PySem.W.Frag) (P C : Addr) : Sp := fun vs H Q E => ∃ (x y : Str), vs = [.str x, .str y] ∧ y.length ≤ 1000 ∧ GxR.TabG H P ∧ (∀ q, rdRest x y = some q → ∀ H' z, Tb P H H' → Dp K H' z (dF q) → Q z H') ∧ (rdRest x y = none → ∀ H', Tb P H H' → E (.ref C) none H')
def spMixed (K : PySem.W.Frag) (P C : Addr) : Sp := fun vs H Q E => ∃ (x : Str), vs = [.str x] ∧ x.length ≤ 1000 ∧ GxR.TabG H P ∧ (∀ q, rdMixed x = some q → ∀ H' z, Tb P H H' → Dp K H' z (dF q) → Q z H') ∧ (rdMixed x = none → ∀ H', Tb P H H' → E (.ref C) none H')
def spClock (K : PySem.W.Frag) (P C : Addr) (g : Str → Int → Option Rat) : Sp := fun vs H Q E => ∃ (x : Str) (r : Int), vs = [.str x, .int r] ∧ x.length ≤ 1000 ∧ 0 < r ∧ r ≤ 120 ∧ GxR.TabG H P ∧ (∀ q, g x r = some q → ∀ H' z, Tb P H H' → Dp K H' z (dF q) → Q z H') ∧ (g x r = none → ∀ H', Tb P H H' → E (.ref C) none H')
structure Dfc (K : PySem.W.Frag) (mg : Str → Option Value) (x : Str) (st : Stmt) (ps : List Str) (c : Addr) : Prop where
  ex : ∃ (f : Addr) (oc : Value) (od : Option Addr) (kV doc pm : Value) (an : Option Addr) (ct : Value) (osl : Array (Option Value)),
    K.lookup f = some ⟨oc, od, .func (PySem.W.fnOf x x (defArgs st) (defBody st) (defScope st) .none kV doc pm an (.ref c) ct), osl⟩ ∧ PySem.W.codeIn K (.ref c) x = true ∧ PySem.W.keepIn K (.ref f) = true ∧ mg x = some (.ref f) ∧
    Binds K (PySem.W.fnOf x x (defArgs st) (defBody st) (defScope st) .none kV doc pm an (.ref c) ct) ps []
section
variable {P : Program} {w : World} {K : PySem.W.Frag} {mg : Str → Option Value} {base : Heap}
theorem Dfc.clX {x : Str} {st : Stmt} {N ps : List Str} {k : Nat} {sp : Sp} {c : Addr} (D : Dfc K mg x st ps c) (S : FnScope N ps (defScope st)) (len : ∀ vs H Q E, sp vs H Q E → vs.length = ps.length)
    (hbody : ∀ (f : Addr) (A : Around) (outer : List Env) (s : Shared) (H : Hp) (vs : List V) (Q : VK) (E : XK), Room k (A.deeper (envOfC x (defScope st) s.heap.objs.size f (.ref c))) → sp vs H Q E →
      ∃ t, PSs (cxOf (L2.CX P w) P w K mg base N x (defScope st) f (.ref c) A outer s H E) (defBody st) t ∧ t { nx := fun _ H' => Q .non H', rt := Q } (start N vs) H) : Cl P w K mg base (L2.CX P w) (k + 1) x sp := by
  obtain ⟨f, oc, od, kV, doc, pm, an, ct, osl, lk, hcd, kp, g, b⟩ := D.ex
  exact ⟨f, _, ps, fn_of lk hcd S len fun A outer s H vs Q E hr hsp => hbody f A outer s H vs Q E hr hsp, g, kp, b⟩
end
theorem fig_dig (c : Nat) : decide (c ∈ ("0123456789" : Str).cps.toList) = dig c := by
  show decide (c ∈ [48, 49, 50, 51, 52, 53, 54, 55, 56, 57]) = dig c
  rw [Bool.eq_iff_iff, decide_eq_true_eq]
  unfold dig
  simp only [List.mem_cons, List.not_mem_nil, or_false, Bool.and_eq_true, decide_eq_true_eq]
  omega
theorem le1000 {n : Nat} (h : n ≤ 1000) : n ≤ sizeLine := Nat.le_trans h (by decide)
section
variable {P : Program} {w : World} {K : PySem.W.Frag} {mg : Str → Option Value} {base : Heap}
theorem cl_common_divisor (T : Txt K mg) : Cl P w K mg base CX0 1 "common_divisor" spGcd := by
  refine T.d_common_divisor.cl sc_common_divisor (fun vs H Q E h => ?_) (fun f cdv A outer s H vs Q E hr h => ?_)
  · obtain ⟨i, j, rfl, _⟩ := h
    rfl
  · obtain ⟨i, j, rfl, q⟩ := h
    refine ⟨_, (pss_cons (ps_set (i := 0) sc_common_divisor.nd rfl (.inl rfl) (pe_callB call_abs (by rfl) T.m_abs (by decide +kernel) (pa_cons (pv 0) pa_nil)))
      (pss_cons (ps_set (i := 1) sc_common_divisor.nd rfl (.inl rfl) (pe_callB call_abs (by rfl) T.m_abs (by decide +kernel) (pa_cons (pv 1) pa_nil)))
      (pss_cons (ps_while PassesOwn.never (pt_cmpR op_gt (pv 1) pe_int (nomark _))
        (pss_one (ps_par (i := 0) (j := 1) (by rfl) sc_common_divisor.nd rfl rfl (by decide) rfl rfl (pa_cons (pv 1) (pa_cons (pe_op op_modN (pv 0) (pv 1)) pa_nil)) (by rfl))))
      (pss_one (ps_ret (pv 0)))))), ?_⟩
    refine ⟨_, rfl, _, rfl, _, rfl, _, rfl, ?_⟩
    refine while_by (fun σ H' => ∃ a b : Nat, σ = [some (.int (a : Int)), some (.int (b : Int))] ∧ H' = H ∧ Nat.gcd a b = Nat.gcd i.natAbs j.natAbs) (fun σ _ => match σ with | [_, some (.int b)] => b.natAbs | _ => 0) ?_ ?_ ?_
    · refine ⟨i.natAbs, j.natAbs, ?_, rfl, rfl⟩
      show [some (V.int (if i < 0 then -i else i)), some (V.int (if j < 0 then -j else j))] = _
      rw [abs_nat, abs_nat]
    · intro σ H' h
      obtain ⟨a, b, rfl, rfl, e⟩ := h
      refine ⟨_, rfl, _, _, rfl, rfl, _, rfl, ite2 (fun z => ?_) (fun z => ?_)⟩
      · have hb : 0 < b := by
          have := of_decide_eq_true z
          omega
        refine ⟨_, rfl, _, rfl, _, rfl, _, _, rfl, rfl, (by omega), _, _, rfl, ⟨b, a % b, ?_, rfl, ?_⟩, ?_⟩
        · show [some (V.int (b : Int)), some (V.int ((a : Int).fmod (b : Int)))] = _
          rw [fmod_nat]
        · rw [gcd_turn]
          exact e
        · show Int.natAbs (Int.fmod (a : Int) (b : Int)) < Int.natAbs (b : Int)
          rw [fmod_nat]
          have := Nat.mod_lt a hb
          omega
      · have hb : b = 0 := by
          have z2 : ¬ ((0 : Int) < (b : Int)) := fun y => z (decide_eq_true y)
          omega
        subst hb
        refine ⟨_, rfl, ?_⟩
        rw [Nat.gcd_zero_right] at e
        rw [← e] at q
        exact q
    · intro σ H' Q1 Q2 h12 h
      obtain ⟨v, e, i, j, e1, e2, k, e3, h⟩ := h
      exact ⟨v, e, i, j, e1, e2, k, e3, h12 _ _ h⟩
theorem cl_made (T : Txt K mg) : Cl P w K mg base CX0 2 "made" (spMade K) := by
  have c_common_divisor := cl_common_divisor (P := P) (w := w) (base := base) T
  refine T.d_made.cl sc_made (fun vs H Q E h => ?_) (fun f cdv A outer s H vs Q E hr h => ?_)
  · obtain ⟨i, j, rfl, _⟩ := h
    rfl
  · obtain ⟨t, b, rfl, hb, hs, q⟩ := h
    refine ⟨_, (pss_cons (ps_set (i := 2) sc_made.nd rfl (.inl rfl) (pe_cl c_common_divisor hr (by decide) (by rfl) (pa_cons (pv 0) (pa_cons (pv 1) pa_nil))))
      (pss_cons (ps_if (pt_cmpR op_lt (pv 1) pe_int (nomark _))
        (pss_one (ps_set (i := 2) sc_made.nd rfl (.inl rfl) (pe_un un_neg (pv 2))))
        pss_nil)
      (pss_one (ps_ret (pe_tup (pa_cons (pe_op op_fdivX (pv 0) (pv 2)) (pa_cons (pe_op op_fdivX (pv 1) (pv 2)) pa_nil))))))), ?_⟩
    have last : ∀ d : Int, d = frI t b → ∀ p, H p = none → Q (.ref p) (upd H p (.tup [.int (t.fdiv d), .int (b.fdiv d)])) := by
      intro d e p hp
      subst e
      refine q _ _ (Same.new hp) (dF_mk ?_)
      rw [fr_num hb, fr_den hb]
      exact .inl (.inl upd_same)
    have hd : ∀ d : Int, d = frI t b → CDivX t d ∧ CDivX b d := by
      intro d e
      subst e
      have h1 := Nat.lt_of_le_of_lt (frI_natAbs (t := t) hb) hs
      exact ⟨cdiv (frI_ne hb) h1 (by decide) (by decide), cdiv (frI_ne hb) h1 (by decide) (by decide)⟩
    refine ⟨_, rfl, _, rfl, _, _, rfl, _, rfl, _, _, rfl, rfl, _, rfl, ite2 (fun z => ?_) (fun z => ?_)⟩
    · have z1 : b < 0 := of_decide_eq_true z
      have e : -((Nat.gcd t.natAbs b.natAbs : Nat) : Int) = frI t b := by
        unfold frI
        rw [if_pos z1]
      refine ⟨_, rfl, _, rfl, _, rfl, _, rfl, _, _, rfl, rfl, (hd _ e).1, _, rfl, _, rfl, _, _, rfl, rfl, (hd _ e).2, (show 2 ≤ sizeLine by decide), fun p hp => last _ e p hp⟩
    · have z1 : ¬ b < 0 := fun y => z (decide_eq_true y)
      have e : ((Nat.gcd t.natAbs b.natAbs : Nat) : Int) = frI t b := by
        unfold frI
        rw [if_neg z1]
      refine ⟨_, rfl, _, rfl, _, _, rfl, rfl, (hd _ e).1, _, rfl, _, rfl, _, _, rfl, rfl, (hd _ e).2, (show 2 ≤ sizeLine by decide), fun p hp => last _ e p hp⟩
theorem cl_added (T : Txt K mg) : Cl P w K mg base CX0 2 "added" (spF2 K (fun x y => x + y) (fun x y => True)) := by
  have c_common_divisor := cl_common_divisor (P := P) (w := w) (base := base) T
  refine T.d_added.cl sc_added (fun vs H Q E h => ?_) (fun f cdv A outer s H vs Q E hr h => ?_)
  · obtain ⟨u, v, x, y, n, m, rfl, _⟩ := h
    rfl
  · obtain ⟨u, v, x, y, n, m, rfl, hu, hv, sx, sy, hnm, hc, q⟩ := h
    obtain ⟨a, rfl, h0⟩ := dF_at hu
    obtain ⟨b, rfl, h1⟩ := dF_at hv
    refine ⟨_, (pss_cons (ps_set (i := 2) sc_added.nd rfl (.inl rfl) (pe_cl c_common_divisor hr (by decide) (by rfl) (pa_cons (pe_ix ix_tup (pv 0) pe_int (fun _ _ => rfl)) (pa_cons (pe_ix ix_tup (pv 1) pe_int (fun _ _ => rfl)) pa_nil))))
      (pss_cons (ps_set (i := 3) sc_added.nd rfl (.inl rfl) (pe_op op_add (pe_op op_mulW (pe_ix ix_tup (pv 0) pe_int (fun _ _ => rfl)) (pe_op op_fdivX (pe_ix ix_tup (pv 1) pe_int (fun _ _ => rfl)) (pv 2))) (pe_op op_mulW (pe_ix ix_tup (pv 1) pe_int (fun _ _ => rfl)) (pe_op op_fdivX (pe_ix ix_tup (pv 0) pe_int (fun _ _ => rfl)) (pv 2)))))
      (pss_cons (ps_set (i := 4) sc_added.nd rfl (.inl rfl) (pe_cl c_common_divisor hr (by decide) (by rfl) (pa_cons (pv 3) (pa_cons (pv 2) pa_nil))))
      (pss_one (ps_ret (pe_tup (pa_cons (pe_op op_fdivX (pv 3) (pv 4)) (pa_cons (pe_op op_mulW (pe_op op_fdivX (pe_ix ix_tup (pv 0) pe_int (fun _ _ => rfl)) (pv 2)) (pe_op op_fdivX (pe_ix ix_tup (pv 1) pe_int (fun _ _ => rfl)) (pv 4))) pa_nil)))))))), ?_⟩
    have g0 := sG_pos x y
    have d0 := sD_pos x y
    have gn : ((sG x y : Nat) : Int).natAbs < 2 ^ n := Nat.lt_of_le_of_lt (sG_le x y) sx.den
    have dn : ((sD x y : Nat) : Int).natAbs < 2 ^ n := Nat.lt_of_le_of_lt (sD_le x y) sx.den
    have cg : ∀ i : Int, CDivX i ((sG x y : Nat) : Int) := fun i => cdiv (by omega) gn sx.pos (by omega)
    have cd : ∀ i : Int, CDivX i ((sD x y : Nat) : Int) := fun i => cdiv (by omega) dn sx.pos (by omega)
    have m1 : CMulW x.num (((y.den : Nat) : Int).fdiv ((sG x y : Nat) : Int)) := by
      rw [fdiv_nat]
      exact wide_mul sx.num (Nat.lt_of_le_of_lt (Nat.div_le_self _ _) sy.den) sx.pos sy.pos (by omega)
    have m2 : CMulW y.num (((x.den : Nat) : Int).fdiv ((sG x y : Nat) : Int)) := by
      rw [fdiv_nat]
      exact wide_mul sy.num (Nat.lt_of_le_of_lt (Nat.div_le_self _ _) sx.den) sy.pos sx.pos (by omega)
    have m3 : CMulW (((x.den : Nat) : Int).fdiv ((sG x y : Nat) : Int)) (((y.den : Nat) : Int).fdiv ((sD x y : Nat) : Int)) := by
      rw [fdiv_nat, fdiv_nat]
      exact wide_mul (Nat.lt_of_le_of_lt (Nat.div_le_self _ _) sx.den) (Nat.lt_of_le_of_lt (Nat.div_le_self _ _) sy.den) sx.pos sy.pos (by omega)
    refine ⟨_, rfl, _, _, _, _, rfl, rfl, h0, atI_nat (j := 1) rfl, _, rfl, _, _, _, _, rfl, rfl, h1, atI_nat (j := 1) rfl, _, _, rfl, ?_⟩
    refine ⟨_, rfl, _, _, _, _, rfl, rfl, h0, atI_nat (j := 0) rfl, _, rfl, _, _, _, _, rfl, rfl, h1, atI_nat (j := 1) rfl, _, rfl, _, _, rfl, rfl, cg _, _, _, rfl, rfl, m1, _, rfl, _, _, _, _, rfl, rfl, h1, atI_nat (j := 0) rfl, _, rfl, _, _, _, _, rfl, rfl, h0, atI_nat (j := 1) rfl, _, rfl, _, _, rfl, rfl, cg _, _, _, rfl, rfl, m2, _, _, rfl, rfl, ?_⟩
    have e : x.num * ((y.den : Int).fdiv ((sG x y : Nat) : Int)) + y.num * ((x.den : Int).fdiv ((sG x y : Nat) : Int)) = sT x y := by
      rw [fdiv_nat, fdiv_nat]
      rfl
    refine ⟨.int (sT x y), ?_, .int ((sG x y : Nat) : Int), rfl, _, _, rfl, ?_⟩
    · exact congrArg (fun z => some (some (V.int z))) e
    refine ⟨.int (sT x y), congrArg (fun z => some (some (V.int z))) e, .int ((sD x y : Nat) : Int), rfl, _, _, rfl, rfl, cd _, _, rfl, _, _, _, _, rfl, rfl, h0, atI_nat (j := 1) rfl, .int ((sG x y : Nat) : Int), rfl, _, _, rfl, rfl, cg _, _, rfl, _, _, _, _, rfl, rfl, h1, atI_nat (j := 1) rfl, .int ((sD x y : Nat) : Int), rfl, _, _, rfl, rfl, cd _, _, _, rfl, rfl, m3, (show 2 ≤ sizeLine by decide), fun p hp => ?_⟩
    refine q _ _ (Same.new hp) (dF_mk ?_)
    rw [← sum_num, ← sum_den, ← fdiv_nat, ← fdiv_nat]
    exact .inl (.inl upd_same)
theorem cl_timed (T : Txt K mg) : Cl P w K mg base CX0 3 "timed" (spF2 K (fun x y => x * y) (fun x y => True)) := by
  have c_made := cl_made (P := P) (w := w) (base := base) T
  refine T.d_timed.cl sc_timed (fun vs H Q E h => ?_) (fun f cdv A outer s H vs Q E hr h => ?_)
  · obtain ⟨u, v, x, y, n, m, rfl, _⟩ := h
    rfl
  · obtain ⟨u, v, x, y, n, m, rfl, hu, hv, sx, sy, hnm, hc, q⟩ := h
    obtain ⟨a, rfl, h0⟩ := dF_at hu
    obtain ⟨b, rfl, h1⟩ := dF_at hv
    refine ⟨_, (pss_one (ps_ret (pe_cl c_made hr (by decide) (by rfl) (pa_cons (pe_op op_mulW (pe_ix ix_tup (pv 0) pe_int (fun _ _ => rfl)) (pe_ix ix_tup (pv 1) pe_int (fun _ _ => rfl))) (pa_cons (pe_op op_mulW (pe_ix ix_tup (pv 0) pe_int (fun _ _ => rfl)) (pe_ix ix_tup (pv 1) pe_int (fun _ _ => rfl))) pa_nil))))), ?_⟩
    refine ⟨_, rfl, _, _, _, _, rfl, rfl, h0, atI_nat (j := 0) rfl, _, rfl, _, _, _, _, rfl, rfl, h1, atI_nat (j := 0) rfl, _, _, rfl, rfl, mnn sx sy hnm, _, rfl, _, _, _, _, rfl, rfl, h0, atI_nat (j := 1) rfl, _, rfl, _, _, _, _, rfl, rfl, h1, atI_nat (j := 1) rfl, _, _, rfl, rfl, mdd sx sy hnm, _, _, rfl, ?_, ?_, fun H2 z s2 r2 => ?_⟩
    · exact den_mul_ne x y
    · exact up9 (mul_bits sx.den' sy.den') hnm
    · change Dp K H2 z (dF (Rat.divInt (x.num * y.num) ((x.den : Int) * (y.den : Int)))) at r2
      rw [mul_parts] at r2
      exact q _ _ s2 r2
theorem cl_read_number (T : Txt K mg) {c P0 C : Addr} (D : Dfc K mg "read_number" s_read_number ["word"] c) (TB : GxR.TabB base mg c P0) (e_BadTime : ExcT K mg "BadTime" C) : Cl P w K mg base (L2.CX P w) 1 "read_number" (spNum P0 C) := by
  refine D.clX sc_read_number (fun vs H Q E h => ?_) (fun f A outer s H vs Q E hr h => ?_)
  · obtain ⟨x, rfl, _⟩ := h
    rfl
  · obtain ⟨x, rfl, hl, tb, q, qE⟩ := h
    refine ⟨_, (pss_cons (ps_if (pt_not (pt_val (pe_allG hr (by rfl) T.m_all TB rfl ⟨rfl, rfl, by decide +kernel, rfl, rfl, noFree (by decide +kernel)⟩ (pv 0) (elt_in rfl rfl rfl T.c_FIGURES) (fun _ => rfl))))
        (pss_one (ps_raise rfl (takes_of rfl rfl rfl rfl) (pmk_own PySem.F.excBase_ValueError e_BadTime.x e_BadTime.g e_BadTime.k (raises_own e_BadTime.b e_BadTime.t) rfl)))
        pss_nil)
      (pss_cons (ps_if (PW.pt (pw_or (pt_cmpR op_eq (pv 0) pe_str (nomark _)) (pw_or1 (pt_cmpR op_gt (pe_callB call_len_str (by rfl) T.m_len (by decide +kernel) (pa_cons (pv 0) pa_nil)) (pe_gl (by rfl) T.c_MOST_FIGURES) (nomark _)))))
        (pss_one (ps_raise rfl (takes_of rfl rfl rfl rfl) (pmk_own PySem.F.excBase_ValueError e_BadTime.x e_BadTime.g e_BadTime.k (raises_own e_BadTime.b e_BadTime.t) rfl)))
        pss_nil)
      (pss_cons (ps_if (PW.pt (pw_and (pt_cmpR op_eq (pe_ix ix_str (pv 0) pe_int (fun _ _ => rfl)) pe_str (nomark _)) (pw_and1 (pt_cmpR op_ne (pv 0) pe_str (nomark _)))))
        (pss_one (ps_raise rfl (takes_of rfl rfl rfl rfl) (pmk_own PySem.F.excBase_ValueError e_BadTime.x e_BadTime.g e_BadTime.k (raises_own e_BadTime.b e_BadTime.t) rfl)))
        pss_nil)
      (pss_one (ps_ret (pe_callTy call_int_str (by rfl) T.m_int (by decide +kernel) (pa_cons (pv 0) pa_nil))))))), ?_⟩
    have lt := len_tl' x
    refine ⟨_, rfl, x, rfl, tb, fun H1 tbd => ?_⟩
    have t1 : Tb P0 H H1 := Tb.tabbed tbd
    have ea : ((tl x).all fun c => decide (c ∈ ("0123456789" : Str).cps.toList)) = (tl x).all dig := by
      congr 1
      funext c
      exact fig_dig c
    refine ⟨_, rfl, ?_⟩
    change if (!((tl x).all fun c => decide (c ∈ ("0123456789" : Str).cps.toList))) = true then _ else _
    rw [ea]
    by_cases c1 : (tl x).all dig = true
    · rw [c1]
      refine iteN rfl ?_
      refine ⟨_, rfl, rfl, _, rfl, ite2 (fun z => ?_) (fun z => ?_)⟩
      · have ex : x = Str.empty := V.str.inj (of_decide_eq_true z)
        refine qE ?_ _ t1
        rw [ex]
        rfl
      · have ne : (tl x) ≠ [] := fun e => z (by
          rw [show x = Str.empty from str_ext e]
          rfl)
        refine ⟨_, rfl, _, rfl, le1000 hl, _, _, rfl, rfl, _, rfl, ite2 (fun z => ?_) (fun z => ?_)⟩
        · have z : (9 : Int) < (x.length : Int) := of_decide_eq_true z
          refine qE ?_ _ t1
          unfold rdNum numOk
          rw [decide_eq_false (show ¬ (tl x).length ≤ 9 by omega)]
          simp
        · have z : ¬ (9 : Int) < (x.length : Int) := fun c => z (decide_eq_true c)
          obtain ⟨d, r, ed⟩ : ∃ d r, tl x = d :: r := by
            cases e : tl x with
            | nil => exact absurd e ne
            | cons d r => exact ⟨d, r, rfl⟩
          have base : ∀ b : Bool, (!(d == 48 && (d :: r) != [48])) = b → numOk (tl x) = b := fun b hb => by
            unfold numOk
            rw [c1, decide_eq_true (show (tl x).length ≤ 9 by omega), ed]
            show (true && true && true && !((some d == some 48) && (d :: r) != [48])) = b
            rw [← hb]
            simp
          have fin : numOk (tl x) = true → ∀ D : Ends, D.rt = Q → tRet (tCB (fun xs H Q => ∃ a n, xs = [.str a] ∧ PySem.intText? a = some n ∧ a.length ≤ 640 ∧ Q (.int n) H) (tCons (tVar 0) tNil)) D [some (.str x)] H1 := by
            intro ok D eD
            obtain ⟨n, en, n9, ev⟩ := num_of ok
            have ex : x = Str.ofString (toString ((n : Nat) : Int)) := str_ext (by rw [en]; exact (tl_sI n).symm)
            refine ⟨_, rfl, x, (n : Int), rfl, ?_, by omega, ?_⟩
            · rw [ex]
              exact TL.int_num (Nat.le_trans (TL.numL_len (k := 9) (by decide) n9) (by decide))
            · rw [eD]
              refine q _ ?_ _ t1
              unfold rdNum
              rw [if_pos ok, ev]
          refine ⟨_, rfl, _, _, d, rfl, rfl, le1000 hl, ?_, rfl, _, rfl, ?_⟩
          · exact atI_nat (j := 0) (by rw [show x.cps.toList = d :: r from ed]; rfl)
          by_cases c2 : d = 48
          · subst c2
            refine iteY (by decide) ?_
            refine ⟨_, rfl, rfl, _, rfl, ite2 (fun z => ?_) (fun z => ?_)⟩
            · refine qE ?_ _ t1
              unfold rdNum
              rw [base false ?_, if_neg Bool.false_ne_true]
              have : (48 :: r) ≠ [48] := fun e => by
                have ex : x = ("0" : Str) := str_ext (ed.trans e)
                rw [ex] at z
                exact absurd z (by decide)
              simp [this]
            · refine fin (base true ?_) _ rfl
              have ex : x = ("0" : Str) := by
                refine Decidable.byContradiction fun n => z ?_
                rw [decide_eq_false (fun e => n (V.str.inj e))]
                rfl
              have e2 : (48 :: r) = [48] := by rw [← ed, ex]; rfl
              rw [e2]
              rfl
          · refine iteN ?_ (iteN rfl ?_)
            · refine decide_eq_false fun e => c2 ?_
              have := congrArg (fun z : Str => z.cps.toList) (V.str.inj e)
              exact (List.cons.inj this).1
            · exact fin (base true (by simp [c2])) _ rfl
    · have c1 : (tl x).all dig = false := by
        cases h : (tl x).all dig with
        | false => rfl
        | true => exact absurd h c1
      rw [c1]
      refine iteY rfl ?_
      refine qE ?_ _ t1
      unfold rdNum numOk
      rw [c1]
      rfl
theorem cl_read_field (T : Txt K mg) {c P0 C : Addr} (D : Dfc K mg "read_number" s_read_number ["word"] c) (TB : GxR.TabB base mg c P0) (e_BadTime : ExcT K mg "BadTime" C) : Cl P w K mg base (L2.CX P w) 2 "read_field" (spField P0 C) := by
  have c_read_number := cl_read_number (P := P) (w := w) (base := base) T D TB e_BadTime
  refine T.d_read_field.clX sc_read_field (fun vs H Q E h => ?_) (fun f cdv A outer s H vs Q E hr h => ?_)
  · obtain ⟨x, b, rfl, _⟩ := h
    rfl
  · obtain ⟨x, b, rfl, hl, tb, q, qE⟩ := h
    refine ⟨_, (pss_cons (ps_if (pt_cmpR op_lt (pe_callB call_len_str (by rfl) T.m_len (by decide +kernel) (pa_cons (pv 0) pa_nil)) pe_int (nomark _))
        (pss_one (ps_raise rfl (takes_of rfl rfl rfl rfl) (pmk_own PySem.F.excBase_ValueError e_BadTime.x e_BadTime.g e_BadTime.k (raises_own e_BadTime.b e_BadTime.t) rfl)))
        pss_nil)
      (pss_cons (ps_set (i := 2) sc_read_field.nd rfl (.inl rfl) (pe_and (pe_cmpR op_eq (pe_callB call_len_str (by rfl) T.m_len (by decide +kernel) (pa_cons (pv 0) pa_nil)) pe_int (nomark _)) (pe_one (pe_cmpR op_eq (pe_ix ix_str (pv 0) pe_int (fun _ _ => rfl)) pe_str (nomark _)))))
      (pss_cons (ps_set (i := 3) sc_read_field.nd rfl (.inl rfl) (pe_clS c_read_number hr (by decide) (by rfl) (takes_of rfl rfl rfl rfl) (pa_cons (pe_ifExp (pt_val (pv 2)) (pe_slice sl_str (pv 0) (po_some pe_int) po_none) (pv 0)) pa_nil)))
      (pss_cons (ps_if (pt_cmpR op_ge (pv 3) (pv 1) (nomark _))
        (pss_one (ps_raise rfl (takes_of rfl rfl rfl rfl) (pmk_own PySem.F.excBase_ValueError e_BadTime.x e_BadTime.g e_BadTime.k (raises_own e_BadTime.b e_BadTime.t) rfl)))
        pss_nil)
      (pss_one (ps_ret (pv 3))))))), ?_⟩
    have lt := len_tl' x
    refine ⟨_, rfl, _, rfl, le1000 hl, _, _, rfl, rfl, _, rfl, ite2 (fun z => ?_) (fun z => ?_)⟩
    · have z : (x.length : Int) < 2 := of_decide_eq_true z
      refine qE ?_ _ (Tb.refl tb)
      unfold rdField
      rw [if_pos (by omega)]
    · have z : ¬ (x.length : Int) < 2 := fun c => z (decide_eq_true c)
      obtain ⟨d, r, ed⟩ : ∃ d r, tl x = d :: r := by
        cases e : tl x with
        | nil =>
          rw [e] at lt
          have : x.length = 0 := lt
          omega
        | cons d r => exact ⟨d, r, rfl⟩
      -- the number's reading, for the word that is read
      have rest : ∀ (g : Bool) (y : Str), y.length ≤ 1000 → (if (tl x).length = 2 ∧ (tl x).head? = some 48 then cutS x (some 1) none else x) = y →
          spNum P0 C [.str y] H (fun v H' => tSeq (tIfS (tTest (tOp (rI0 fun i j => .bl (decide (j ≤ i))) (tVar 3) (tVar 1))) (fun _ _ H' => E (.ref C) none H') tNext) (tRet (tVar 3)) { nx := fun _ H' => Q .non H', rt := Q } [some (.str x), some (.int b), some (.bl g), some v] H') E := by
        intro g y hy ey
        refine ⟨y, rfl, hy, tb, fun i hi H1 t1 => ?_, fun hi H1 t1 => ?_⟩
        · have er : rdField x b = if b ≤ i then none else some i := by
            unfold rdField
            rw [if_neg (by omega), ey, hi]
          refine ⟨_, rfl, _, rfl, _, _, rfl, rfl, _, rfl, ite2 (fun z2 => ?_) (fun z2 => ?_)⟩
          · rw [if_pos (of_decide_eq_true z2)] at er
            exact qE er _ t1
          · rw [if_neg (fun c => z2 (decide_eq_true c))] at er
            exact ⟨_, rfl, q _ er _ t1⟩
        · refine qE ?_ _ t1
          unfold rdField
          rw [if_neg (by omega), ey, hi]
      refine ⟨_, rfl, _, rfl, le1000 hl, rfl, _, rfl, ?_⟩
      by_cases c1 : (tl x).length = 2
      · have e1 : decide (V.int (x.length : Int) = V.int 2) = true := decide_eq_true (by rw [lt, c1]; rfl)
        rw [e1]
        refine iteY rfl ?_
        refine ⟨_, rfl, _, _, d, rfl, rfl, le1000 hl, atI_nat (j := 0) (by rw [show x.cps.toList = d :: r from ed]; rfl), rfl, ?_⟩
        by_cases c2 : d = 48
        · subst c2
          rw [show decide (V.str (⟨#[48]⟩ : Str) = V.str "0") = true by decide]
          refine ⟨_, rfl, _, rfl, iteY rfl ?_⟩
          refine ⟨_, rfl, _, rfl, _, rfl, le1000 hl, ?_⟩
          refine rest true _ (Nat.le_trans (cutS_length _ _ _) hl) ?_
          rw [if_pos ⟨c1, by rw [ed]; rfl⟩]
        · have e2 : decide (V.str (⟨#[d]⟩ : Str) = V.str "0") = false := decide_eq_false fun e => c2 (List.cons.inj (congrArg (fun z : Str => z.cps.toList) (V.str.inj e))).1
          rw [e2]
          refine ⟨_, rfl, _, rfl, iteN rfl ?_⟩
          refine ⟨_, rfl, ?_⟩
          refine rest false _ hl ?_
          rw [if_neg (fun z => c2 (by rw [ed] at z; exact Option.some.inj z.2))]
      · have e1 : decide (V.int (x.length : Int) = V.int 2) = false := decide_eq_false fun e => c1 (by
          have := V.int.inj e
          omega)
        rw [e1]
        refine iteN rfl ?_
        refine ⟨_, rfl, _, rfl, iteN rfl ?_⟩
        refine ⟨_, rfl, ?_⟩
        refine rest false _ hl ?_
        rw [if_neg (fun z => c1 z.1)]
theorem part_len (x y : Str) {s : Nat} (ey : tl y = [s]) : (Txt.partition x y).1.length ≤ x.length ∧ (Txt.partition x y).2.2.length ≤ x.length := by
  rcases part_cases x y ey with ⟨_, e⟩ | ⟨a, b, e1, _, e⟩
  · rw [e]
    exact ⟨Nat.le_refl _, Nat.zero_le _⟩
  · rw [e, e1, slen, slen]
    dsimp only
    omega
theorem eqv_pair (q : Rat) (t b : Int) : PyData.eqv (dF q) (.tuple [.int t, .int b]) = (decide (q.num = t) && decide ((q.den : Int) = b)) := by
  show ((q.num == t) && (((q.den : Int) == b) && true)) = _
  rw [Bool.and_true]
  rfl
theorem cl_read_rest (T : Txt K mg) {c P0 C : Addr} (D : Dfc K mg "read_number" s_read_number ["word"] c) (TB : GxR.TabB base mg c P0) (e_BadTime : ExcT K mg "BadTime" C) : Cl P w K mg base (L2.CX P w) 3 "read_rest" (spRst K P0 C) := by
  have c_read_number := cl_read_number (P := P) (w := w) (base := base) T D TB e_BadTime
  have c_made := cl_made (P := P) (w := w) (base := base) T
  obtain ⟨aN, g_NOUGHT, hN⟩ := T.c_NOUGHT
  refine T.d_read_rest.clX sc_read_rest (fun vs H Q E h => ?_) (fun f cdv A outer s H vs Q E hr h => ?_)
  · obtain ⟨x, y, rfl, _⟩ := h
    rfl
  · obtain ⟨x, y, rfl, hl, tb, q, qE⟩ := h
    refine ⟨_, (pss_cons (ps_if (pt_cmpR op_eq (pv 0) pe_str (nomark _))
        (pss_one (ps_ret (pe_gl (by rfl) g_NOUGHT)))
        pss_nil)
      (pss_cons (ps_asg (pe_partition (pv 1) pe_str) (pg_tup rfl (pgs_cons (pg_name (i := 2) sc_read_rest.nd rfl (.inl rfl)) (pgs_cons (pg_name (i := 3) sc_read_rest.nd rfl (.inl rfl)) (pgs_cons (pg_name (i := 4) sc_read_rest.nd rfl (.inl rfl)) pgs_nil)))))
      (pss_cons (ps_set (i := 5) sc_read_rest.nd rfl (.inl rfl) (pe_clS c_read_number hr (by decide) (by rfl) (takes_of rfl rfl rfl rfl) (pa_cons (pv 2) pa_nil)))
      (pss_cons (ps_set (i := 6) sc_read_rest.nd rfl (.inl rfl) (pe_clS c_read_number hr (by decide) (by rfl) (takes_of rfl rfl rfl rfl) (pa_cons (pv 4) pa_nil)))
      (pss_cons (ps_if (PW.pt (pw_or (pt_cmpR op_eq (pv 5) pe_int (nomark _)) (pw_or1 (pt_cmpR op_ge (pv 5) (pv 6) (nomark _)))))
        (pss_one (ps_raise rfl (takes_of rfl rfl rfl rfl) (pmk_own PySem.F.excBase_ValueError e_BadTime.x e_BadTime.g e_BadTime.k (raises_own e_BadTime.b e_BadTime.t) rfl)))
        pss_nil)
      (pss_cons (ps_if (pt_cmpR (op_neD hr.units) (pe_cl c_made hr (by decide) (by rfl) (pa_cons (pv 5) (pa_cons (pv 6) pa_nil))) (pe_tup (pa_cons (pv 5) (pa_cons (pv 6) pa_nil))) (nomark _))
        (pss_one (ps_raise rfl (takes_of rfl rfl rfl rfl) (pmk_own PySem.F.excBase_ValueError e_BadTime.x e_BadTime.g e_BadTime.k (raises_own e_BadTime.b e_BadTime.t) rfl)))
        pss_nil)
      (pss_one (ps_ret (pe_tup (pa_cons (pv 5) (pa_cons (pv 6) pa_nil))))))))))), ?_⟩
    refine ⟨_, rfl, rfl, _, rfl, ite2 (fun z => ?_) (fun z => ?_)⟩
    · have ex : x = Str.empty := V.str.inj (of_decide_eq_true z)
      refine q 0 ?_ _ _ (Tb.refl tb) (dF_mk (hN H))
      unfold rdRest
      rw [if_pos ex]
    · have ex : ¬ x = Str.empty := fun e => z (by rw [e]; rfl)
      have pl := part_len y "/" (s := 47) rfl
      have er : rdRest x y = (match rdNum (Txt.partition y "/").1, rdNum (Txt.partition y "/").2.2 with
        | some t, some b => if t = 0 ∨ b ≤ t then none else if (Rat.divInt t b).num = t ∧ ((Rat.divInt t b).den : Int) = b then some (Rat.divInt t b) else none
        | _, _ => none) := by
        unfold rdRest
        exact if_neg ex
      refine ⟨_, rfl, ⟨_, rfl⟩, _, _, rfl, rfl, rfl, le1000 hl, fun p hp => ?_⟩
      generalize Txt.partition y "/" = pr at pl er ⊢
      have t1 : Tb P0 H (upd H p (.tup [.str pr.1, .str pr.2.1, .str pr.2.2])) := Tb.same tb (Same.new hp)
      refine ⟨p, _, rfl, .inl (.inl upd_same), rfl, _, _, rfl, _, _, rfl, _, _, rfl, rfl, ?_⟩
      generalize upd H p (.tup [.str pr.1, .str pr.2.1, .str pr.2.2]) = H1 at t1 ⊢
      refine ⟨_, rfl, pr.1, rfl, by omega, t1.1, fun t ht H2 t2 => ?_, fun hn H2 t2 => qE (by rw [er, hn]) _ (t1.trans t2)⟩
      have t12 := t1.trans t2
      refine ⟨_, rfl, pr.2.2, rfl, by omega, t12.1, fun b hb H3 t3 => ?_, fun hn H3 t3 => qE (by rw [er, ht, hn]) _ (t12.trans t3)⟩
      have t13 := t12.trans t3
      rw [ht, hb] at er
      dsimp only at er
      obtain ⟨_, ta0, ta1⟩ := rdNum_some ht
      obtain ⟨_, tb0, tb1⟩ := rdNum_some hb
      refine ⟨_, rfl, rfl, _, rfl, ?_⟩
      by_cases h0 : t = 0
      · refine iteY (decide_eq_true (by rw [h0])) (iteY rfl ?_)
        exact qE (by rw [er, if_pos (.inl h0)]) _ t13
      · refine iteN (decide_eq_false fun e => h0 (V.int.inj e)) ?_
        refine ⟨_, rfl, _, rfl, _, _, rfl, rfl, _, rfl, ite2 (fun z => ?_) (fun z => ?_)⟩
        · exact qE (by rw [er, if_pos (.inr (of_decide_eq_true z))]) _ t13
        · have hbt : ¬ b ≤ t := fun c => z (decide_eq_true c)
          rw [if_neg (fun c => c.elim h0 hbt)] at er
          refine ⟨_, rfl, _, rfl, t, b, rfl, by omega, up9 (n := 30) (by omega) (by decide), fun H4 z4 s4 d4 => ?_⟩
          refine ⟨_, rfl, _, rfl, (show 2 ≤ sizeLine by decide), fun p2 hp2 => ?_⟩
          have s5 := Same.new (o := .tup [.int t, .int b]) hp2
          have t15 := t13.trans (Tb.same t13.1 (s4.trans s5))
          have d5 := dp_mono s5 _ _ d4
          have e5 : Dp K (upd H4 p2 (.tup [.int t, .int b])) (.ref p2) (.tuple [.int t, .int b]) := .tup (.inl (.inl upd_same)) (.cons (.int _) (.cons (.int _) .nil))
          generalize upd H4 p2 (.tup [.int t, .int b]) = H5 at t15 d5 e5 ⊢
          refine ⟨_, _, d5, e5, rfl, rfl, _, rfl, ?_⟩
          rw [eqv_pair]
          by_cases c : (Rat.divInt t b).num = t ∧ ((Rat.divInt t b).den : Int) = b
          · rw [decide_eq_true c.1, decide_eq_true c.2]
            refine iteN rfl ?_
            rw [if_pos c] at er
            refine ⟨_, rfl, _, rfl, (show 2 ≤ sizeLine by decide), fun p3 hp3 => ?_⟩
            refine q _ er _ _ (t15.trans (Tb.same t15.1 (Same.new hp3))) (dF_mk ?_)
            rw [c.1, c.2]
            exact .inl (.inl upd_same)
          · rw [if_neg c] at er
            have e : (!(decide ((Rat.divInt t b).num = t) && decide (((Rat.divInt t b).den : Int) = b))) = true := by
              by_cases c1 : (Rat.divInt t b).num = t
              · rw [decide_eq_true c1, decide_eq_false (fun c2 => c ⟨c1, c2⟩)]
                rfl
              · rw [decide_eq_false c1]
                rfl
            rw [e]
            exact iteY rfl (qE er _ t15)
theorem rest_sz {x y : Str} {q : Rat} (h : rdRest x y = some q) : Sz 30 q := by
  rcases rest_some h with ⟨_, e⟩ | ⟨t, b, _, h1, h2, h3, _, e⟩
  · rw [e]
    exact ⟨by decide, by decide⟩
  · rw [e]
    exact sz_divInt (by omega) (by omega) (by omega)
theorem cl_read_mixed (T : Txt K mg) {c P0 C : Addr} (D : Dfc K mg "read_number" s_read_number ["word"] c) (TB : GxR.TabB base mg c P0) (e_BadTime : ExcT K mg "BadTime" C) : Cl P w K mg base (L2.CX P w) 4 "read_mixed" (spMixed K P0 C) := by
  have c_read_number := cl_read_number (P := P) (w := w) (base := base) T D TB e_BadTime
  have c_read_rest := cl_read_rest (P := P) (w := w) (base := base) T D TB e_BadTime
  have c_added := cl_added (P := P) (w := w) (base := base) T
  refine T.d_read_mixed.clX sc_read_mixed (fun vs H Q E h => ?_) (fun f cdv A outer s H vs Q E hr h => ?_)
  · obtain ⟨x, rfl, _⟩ := h
    rfl
  · obtain ⟨x, rfl, hl, tb, q, qE⟩ := h
    refine ⟨_, (pss_cons (ps_asg (pe_partition (pv 0) pe_str) (pg_tup rfl (pgs_cons (pg_name (i := 1) sc_read_mixed.nd rfl (.inl rfl)) (pgs_cons (pg_name (i := 2) sc_read_mixed.nd rfl (.inl rfl)) (pgs_cons (pg_name (i := 3) sc_read_mixed.nd rfl (.inl rfl)) pgs_nil)))))
      (pss_one (ps_ret (pe_cl c_added hr (by decide) (by rfl) (pa_cons (pe_tup (pa_cons (pe_clS c_read_number hr (by decide) (by rfl) (takes_of rfl rfl rfl rfl) (pa_cons (pv 1) pa_nil)) (pa_cons pe_int pa_nil))) (pa_cons (pe_clS c_read_rest hr (by decide) (by rfl) (takes_of rfl rfl rfl rfl) (pa_cons (pv 2) (pa_cons (pv 3) pa_nil))) pa_nil)))))), ?_⟩
    have pl := part_len x " " (s := 32) rfl
    have er : rdMixed x = (match rdNum (Txt.partition x " ").1 with
      | none => none
      | some n => (rdRest (Txt.partition x " ").2.1 (Txt.partition x " ").2.2).map fun y => (n : Rat) + y) := rfl
    refine ⟨_, rfl, ⟨_, rfl⟩, _, _, rfl, rfl, rfl, le1000 hl, fun p hp => ?_⟩
    generalize Txt.partition x " " = pr at pl er ⊢
    have t1 : Tb P0 H (upd H p (.tup [.str pr.1, .str pr.2.1, .str pr.2.2])) := Tb.same tb (Same.new hp)
    refine ⟨p, _, rfl, .inl (.inl upd_same), rfl, _, _, rfl, _, _, rfl, _, _, rfl, rfl, ?_⟩
    generalize upd H p (.tup [.str pr.1, .str pr.2.1, .str pr.2.2]) = H1 at t1 ⊢
    refine ⟨_, rfl, pr.1, rfl, by omega, t1.1, fun n hn H2 t2 => ?_, fun hn H2 t2 => qE (by rw [er, hn]) _ (t1.trans t2)⟩
    have t12 := t1.trans t2
    rw [hn] at er
    dsimp only at er
    obtain ⟨_, n0, n1⟩ := rdNum_some hn
    refine ⟨(show 2 ≤ sizeLine by decide), fun p2 hp2 => ?_⟩
    have t13 := t12.trans (Tb.same t12.1 (Same.new (o := .tup [.int n, .int 1]) hp2))
    have d2 : Dp K (upd H2 p2 (.tup [.int n, .int 1])) (.ref p2) (dF (n : Rat)) := dF_mk (.inl (.inl upd_same))
    generalize upd H2 p2 (.tup [.int n, .int 1]) = H3 at t13 d2 ⊢
    refine ⟨_, rfl, _, rfl, pr.2.1, pr.2.2, rfl, by omega, t13.1, fun y hy H4 z4 t4 d4 => ?_, fun hy H4 t4 => qE (by rw [er, hy]; rfl) _ (t13.trans t4)⟩
    have t14 := t13.trans t4
    rw [hy] at er
    refine ⟨_, _, (n : Rat), y, 30, 30, rfl, tb_dF t13.1 t4 d2, d4, sz_int (by decide) (by omega), rest_sz hy, by decide, trivial, fun H5 z5 s5 d5 => ?_⟩
    exact q _ er _ _ (t14.trans (Tb.same t14.1 s5)) d5
theorem joinL_len {S p : List Nat} : ∀ {ps : List (List Nat)}, p ∈ ps → p.length ≤ (TL.joinL S ps).length
  | [], h => by cases h
  | [q], h => by
    rw [List.mem_singleton.mp h]
    exact Nat.le_refl _
  | q :: r :: t, h => by
    show p.length ≤ (q ++ (S ++ TL.joinL S (r :: t))).length
    rw [List.length_append, List.length_append]
    rcases List.mem_cons.mp h with e | e
    · rw [e]
      omega
    · have := joinL_len (S := S) (ps := r :: t) e
      omega
theorem split_len (x y p : Str) {s : Nat} (ey : tl y = [s]) (hk : y.cps.all (· < 256) = true) (h : p ∈ Txt.split x y) : p.length ≤ x.length := by
  obtain ⟨ps, _, _, ej, es⟩ := split_parts x y ey hk
  rw [es] at h
  rw [ej, len_tl', len_tl', TL.tl_join]
  exact joinL_len (List.mem_map.mpr ⟨p, h, rfl⟩)
theorem cl_read_clock (T : Txt K mg) {c P0 C : Addr} (D : Dfc K mg "read_number" s_read_number ["word"] c) (TB : GxR.TabB base mg c P0) (e_BadTime : ExcT K mg "BadTime" C) : Cl P w K mg base (L2.CX P w) 4 "read_clock" (spClock K P0 C rdClock) := by
  have c_read_number := cl_read_number (P := P) (w := w) (base := base) T D TB e_BadTime
  have c_read_rest := cl_read_rest (P := P) (w := w) (base := base) T D TB e_BadTime
  have c_read_field := cl_read_field (P := P) (w := w) (base := base) T D TB e_BadTime
  have c_added := cl_added (P := P) (w := w) (base := base) T
  refine T.d_read_clock.clX sc_read_clock (fun vs H Q E h => ?_) (fun f cdv A outer s H vs Q E hr h => ?_)
  · obtain ⟨x, r, rfl, _⟩ := h
    rfl
  · obtain ⟨x, r, rfl, hl, r0, r1, tb, q, qE⟩ := h
    refine ⟨_, (pss_cons (ps_asg (pe_partition (pv 0) pe_str) (pg_tup rfl (pgs_cons (pg_name (i := 2) sc_read_clock.nd rfl (.inl rfl)) (pgs_cons (pg_name (i := 3) sc_read_clock.nd rfl (.inl rfl)) (pgs_cons (pg_name (i := 4) sc_read_clock.nd rfl (.inl rfl)) pgs_nil)))))
      (pss_cons (ps_set (i := 5) sc_read_clock.nd rfl (.inl rfl) (pe_split (pv 2) pe_str))
      (pss_cons (ps_if (pt_cmpR op_ne (pe_callB call_len_seq (by rfl) T.m_len (by decide +kernel) (pa_cons (pv 5) pa_nil)) pe_int (nomark _))
        (pss_one (ps_raise rfl (takes_of rfl rfl rfl rfl) (pmk_own PySem.F.excBase_ValueError e_BadTime.x e_BadTime.g e_BadTime.k (raises_own e_BadTime.b e_BadTime.t) rfl)))
        pss_nil)
      (pss_cons (ps_set (i := 6) sc_read_clock.nd rfl (.inl rfl) (pe_clS c_read_number hr (by decide) (by rfl) (takes_of rfl rfl rfl rfl) (pa_cons (pe_ix ix_list (pv 5) pe_int (fun _ _ => rfl)) pa_nil)))
      (pss_cons (ps_set (i := 7) sc_read_clock.nd rfl (.inl rfl) (pe_op op_add (pe_op op_mul (pv 6) (pe_gl (by rfl) T.c_SIXTY)) (pe_clS c_read_field hr (by decide) (by rfl) (takes_of rfl rfl rfl rfl) (pa_cons (pe_ix ix_list (pv 5) pe_int (fun _ _ => rfl)) (pa_cons (pe_gl (by rfl) T.c_SIXTY) pa_nil)))))
      (pss_cons (ps_set (i := 8) sc_read_clock.nd rfl (.inl rfl) (pe_op op_add (pe_op op_mul (pv 7) (pe_gl (by rfl) T.c_SIXTY)) (pe_clS c_read_field hr (by decide) (by rfl) (takes_of rfl rfl rfl rfl) (pa_cons (pe_ix ix_list (pv 5) pe_int (fun _ _ => rfl)) (pa_cons (pe_gl (by rfl) T.c_SIXTY) pa_nil)))))
      (pss_cons (ps_set (i := 9) sc_read_clock.nd rfl (.inl rfl) (pe_op op_add (pe_op op_mulW (pv 8) (pv 1)) (pe_clS c_read_field hr (by decide) (by rfl) (takes_of rfl rfl rfl rfl) (pa_cons (pe_ix ix_list (pv 5) pe_int (fun _ _ => rfl)) (pa_cons (pv 1) pa_nil)))))
      (pss_one (ps_ret (pe_cl c_added hr (by decide) (by rfl) (pa_cons (pe_tup (pa_cons (pv 9) (pa_cons pe_int pa_nil))) (pa_cons (pe_clS c_read_rest hr (by decide) (by rfl) (takes_of rfl rfl rfl rfl) (pa_cons (pv 3) (pa_cons (pv 4) pa_nil))) pa_nil)))))))))))), ?_⟩
    have pl := part_len x " " (s := 32) rfl
    have er : rdClock x r = (match Txt.split (Txt.partition x " ").1 ":" with
      | [f0, f1, f2, f3] => match rdNum f0, rdField f1 60, rdField f2 60, rdField f3 r with
        | some h, some m, some s, some f => (rdRest (Txt.partition x " ").2.1 (Txt.partition x " ").2.2).map fun y => ((((h * 60 + m) * 60 + s) * r + f : Int) : Rat) + y
        | _, _, _, _ => none
      | _ => none) := rfl
    refine ⟨_, rfl, ⟨_, rfl⟩, _, _, rfl, rfl, rfl, le1000 hl, fun p hp => ?_⟩
    generalize Txt.partition x " " = pr at pl er ⊢
    have t1 : Tb P0 H (upd H p (.tup [.str pr.1, .str pr.2.1, .str pr.2.2])) := Tb.same tb (Same.new hp)
    refine ⟨p, _, rfl, .inl (.inl upd_same), rfl, _, _, rfl, _, _, rfl, _, _, rfl, rfl, ?_⟩
    generalize upd H p (.tup [.str pr.1, .str pr.2.1, .str pr.2.2]) = H1 at t1 ⊢
    have sl : ∀ p ∈ Txt.split pr.1 ":", p.length ≤ 1000 := fun p hp => Nat.le_trans (split_len pr.1 ":" p (s := 58) rfl (by decide +kernel) hp) (by omega)
    refine ⟨_, rfl, ⟨_, rfl⟩, _, _, rfl, rfl, rfl, Nat.le_trans (show pr.1.length + 2 ≤ 1002 by omega) (by decide), fun k hk => ?_⟩
    generalize Txt.split pr.1 ":" = fs at sl er ⊢
    have t2 := t1.trans (Tb.same t1.1 (Same.new (o := .lst (fs.map V.str)) hk))
    have hF : SqL K (upd H1 k (.lst (fs.map V.str))) k (fs.map V.str) := .inl (.inl upd_same)
    generalize upd H1 k (.lst (fs.map V.str)) = H2 at t2 hF ⊢
    refine ⟨_, rfl, _, _, rfl, .inl hF, rfl, _, rfl, ite2 (fun z => ?_) (fun z => ?_)⟩
    · refine qE ?_ _ t2
      rw [er]
      match fs, z with
      | [], _ => rfl
      | [_], _ => rfl
      | [_, _], _ => rfl
      | [_, _, _], _ => rfl
      | [_, _, _, _], z => exact absurd z (by simp)
      | _ :: _ :: _ :: _ :: _ :: _, _ => rfl
    · obtain ⟨f0, f1, f2, f3, rfl⟩ : ∃ f0 f1 f2 f3, fs = [f0, f1, f2, f3] := by
        have hz : fs.length = 4 := by
          refine Decidable.byContradiction fun n => z ?_
          rw [decide_eq_false (fun e => n (by
            have := V.int.inj e
            rw [List.length_map] at this
            omega))]
          rfl
        match fs, hz with
        | [f0, f1, f2, f3], _ => exact ⟨f0, f1, f2, f3, rfl⟩
      dsimp only at er
      have l0 := sl f0 (by simp)
      have l1 := sl f1 (by simp)
      have l2 := sl f2 (by simp)
      have l3 := sl f3 (by simp)
      refine ⟨_, rfl, _, _, _, _, rfl, rfl, hF, atI_nat (j := 0) rfl, f0, rfl, l0, t2.1, fun h hh H3 t3 => ?_, fun hh H3 t3 => qE (by rw [er, hh]) _ (t2.trans t3)⟩
      have hF := tb_list t2.1 t3 hF
      have t3 := t2.trans t3
      obtain ⟨_, a0, a1⟩ := rdNum_some hh
      refine ⟨_, rfl, _, _, rfl, rfl, .inr ⟨by decide, by decide⟩, ?_⟩
      refine ⟨_, rfl, _, _, _, _, rfl, rfl, hF, atI_nat (j := 1) rfl, f1, 60, rfl, l1, t3.1, fun m hm H4 t4 => ?_, fun hm H4 t4 => qE (by rw [er, hh, hm]) _ (t3.trans t4)⟩
      have hF := tb_list t3.1 t4 hF
      have t4 := t3.trans t4
      obtain ⟨_, m0, m1, _⟩ := field_of hm
      refine ⟨_, _, rfl, rfl, ?_⟩
      refine ⟨_, rfl, _, _, rfl, rfl, .inr ⟨by decide, by decide⟩, ?_⟩
      refine ⟨_, rfl, _, _, _, _, rfl, rfl, hF, atI_nat (j := 2) rfl, f2, 60, rfl, l2, t4.1, fun s hs H5 t5 => ?_, fun hs H5 t5 => qE (by rw [er, hh, hm, hs]) _ (t4.trans t5)⟩
      have hF := tb_list t4.1 t5 hF
      have t5 := t4.trans t5
      obtain ⟨_, s0, s1, _⟩ := field_of hs
      refine ⟨_, _, rfl, rfl, ?_⟩
      refine ⟨_, rfl, _, rfl, _, _, rfl, rfl, wide_mul (a := 60) (b := 60) (show ((h * 60 + m) * 60 + s).natAbs < 2 ^ 60 by omega) (by omega) (by decide) (by decide) (by decide), ?_⟩
      refine ⟨_, rfl, _, _, _, _, rfl, rfl, hF, atI_nat (j := 3) rfl, _, rfl, f3, r, rfl, l3, t5.1, fun f hf H6 t6 => ?_, fun hf H6 t6 => qE (by rw [er, hh, hm, hs, hf]) _ (t5.trans t6)⟩
      have t6 := t5.trans t6
      obtain ⟨_, f0', f1', _⟩ := field_of hf
      rw [hh, hm, hs, hf] at er
      dsimp only at er
      refine ⟨_, _, rfl, rfl, ?_⟩
      have bN : (((h * 60 + m) * 60 + s) * r + f).natAbs < 2 ^ 60 := by
        have h1 := Int.mul_le_mul_of_nonneg_left r1 (show 0 ≤ (h * 60 + m) * 60 + s by omega)
        have h2 := Int.mul_nonneg (show 0 ≤ (h * 60 + m) * 60 + s by omega) (show 0 ≤ r by omega)
        omega
      refine ⟨_, rfl, (show 2 ≤ sizeLine by decide), fun p2 hp2 => ?_⟩
      have t7 := t6.trans (Tb.same t6.1 (Same.new (o := .tup [.int (((h * 60 + m) * 60 + s) * r + f), .int 1]) hp2))
      have d7 : Dp K (upd H6 p2 (.tup [.int (((h * 60 + m) * 60 + s) * r + f), .int 1])) (.ref p2) (dF (((((h * 60 + m) * 60 + s) * r + f) : Int) : Rat)) := dF_mk (.inl (.inl upd_same))
      change tCons _ _ _ (upd H6 p2 (.tup [.int (((h * 60 + m) * 60 + s) * r + f), .int 1])) _
      generalize upd H6 p2 (.tup [.int (((h * 60 + m) * 60 + s) * r + f), .int 1]) = H7 at t7 d7 ⊢
      refine ⟨_, rfl, _, rfl, pr.2.1, pr.2.2, rfl, by omega, t7.1, fun y hy H8 z8 t8 d8 => ?_, fun hy H8 t8 => qE (by rw [er, hy]; rfl) _ (t7.trans t8)⟩
      rw [hy] at er
      have d7 := tb_dF t7.1 t8 d7
      have t8 := t7.trans t8
      refine ⟨_, _, (((((h * 60 + m) * 60 + s) * r + f) : Int) : Rat), y, 60, 30, rfl, d7, d8, sz_int (by decide) bN, rest_sz hy, by decide, trivial, fun H9 z9 s9 d9 => ?_⟩
      exact q _ er _ _ (t8.trans (Tb.same t8.1 s9)) d9
def rdFrames (x : Str) : Option Rat := if Txt.endswith x "f" = true then rdMixed (cutS x none (some (-1))) else none
def spFrames (K : PySem.W.Frag) (P C : Addr) : Sp := fun vs H Q E => ∃ (x : Str), vs = [.str x] ∧ x.length ≤ 1000 ∧ GxR.TabG H P ∧ (∀ q, rdFrames x = some q → ∀ H' z, Tb P H H' → Dp K H' z (dF q) → Q z H') ∧ (rdFrames x = none → ∀ H', Tb P H H' → E (.ref C) none H')
theorem cl_read_frames (T : Txt K mg) {c P0 C : Addr} (D : Dfc K mg "read_number" s_read_number ["word"] c) (TB : GxR.TabB base mg c P0) (e_BadTime : ExcT K mg "BadTime" C) : Cl P w K mg base (L2.CX P w) 5 "read_frames" (spFrames K P0 C) := by
  have c_read_mixed := cl_read_mixed (P := P) (w := w) (base := base) T D TB e_BadTime
  refine T.d_read_frames.clX sc_read_frames (fun vs H Q E h => ?_) (fun f cdv A outer s H vs Q E hr h => ?_)
  · obtain ⟨x, rfl, _⟩ := h
    rfl
  · obtain ⟨x, rfl, hl, tb, q, qE⟩ := h
    refine ⟨_, (pss_cons (ps_if (pt_not (pt_val (pe_m1 PySem.F.slot_str_endswith PySem.F.type_str_endswith mt_endswith (pv 0) pe_str)))
        (pss_one (ps_raise rfl (takes_of rfl rfl rfl rfl) (pmk_own PySem.F.excBase_ValueError e_BadTime.x e_BadTime.g e_BadTime.k (raises_own e_BadTime.b e_BadTime.t) rfl)))
        pss_nil)
      (pss_one (ps_ret (pe_clS c_read_mixed hr (by decide) (by rfl) (takes_of rfl rfl rfl rfl) (pa_cons (pe_slice sl_str (pv 0) po_none (po_some (pe_un un_neg pe_int))) pa_nil))))), ?_⟩
    have er : rdFrames x = if Txt.endswith x "f" = true then rdMixed (cutS x none (some (-1))) else none := rfl
    have lc : (cutS x none (some (-1))).length ≤ 1000 := Nat.le_trans (cutS_length _ _ _) hl
    refine ⟨_, rfl, ⟨_, rfl⟩, _, _, rfl, rfl, _, rfl, ite2 (fun z => ?_) (fun z => ?_)⟩
    · have z1 : ¬ Txt.endswith x "f" = true := fun y => by rw [y] at z; cases z
      rw [if_neg z1] at er
      exact qE er _ (Tb.refl tb)
    · have z1 : Txt.endswith x "f" = true := by
        cases e : Txt.endswith x "f" with
        | true => rfl
        | false =>
          rw [e] at z
          exact absurd rfl z
      rw [if_pos z1] at er
      refine ⟨_, rfl, _, rfl, _, rfl, _, rfl, le1000 hl, _, rfl, lc, tb, fun y hy H1 z1 t1 d1 => q _ (er.trans hy) _ _ t1 d1, fun hy H1 t1 => qE (er.trans hy) _ t1⟩
theorem mixed_sz {x : Str} {q : Rat} (h : rdMixed x = some q) : Sz 61 q := by
  obtain ⟨_, h0, hw, hd⟩ := mix_of h
  have hp := den_pos q
  refine ⟨?_, by omega⟩
  have h1 := Int.mul_ediv_add_emod q.num (q.den : Int)
  have h2 := Int.emod_lt_of_pos q.num hp
  have h3 : qw q = q.num / (q.den : Int) := rfl
  rw [← h3] at h1
  have h4 : (q.den : Int) * qw q ≤ 10 ^ 9 * qw q := Int.mul_le_mul_of_nonneg_right (by omega) (by
    rw [h3]
    exact Int.ediv_nonneg h0 (by omega))
  omega
theorem cl_read_time (T : Txt K mg) {c P0 C : Addr} (D : Dfc K mg "read_number" s_read_number ["word"] c) (TB : GxR.TabB base mg c P0) (e_BadTime : ExcT K mg "BadTime" C) : Cl P w K mg base (L2.CX P w) 6 "read_time" (spClock K P0 C rdTime) := by
  have c_read_mixed := cl_read_mixed (P := P) (w := w) (base := base) T D TB e_BadTime
  have c_read_frames := cl_read_frames (P := P) (w := w) (base := base) T D TB e_BadTime
  have c_read_clock := cl_read_clock (P := P) (w := w) (base := base) T D TB e_BadTime
  have c_timed := cl_timed (P := P) (w := w) (base := base) T
  refine T.d_read_time.clX sc_read_time (fun vs H Q E h => ?_) (fun f cdv A outer s H vs Q E hr h => ?_)
  · obtain ⟨x, r, rfl, _⟩ := h
    rfl
  · obtain ⟨x, r, rfl, hl, r0, r1, tb, q, qE⟩ := h
    refine ⟨_, (pss_cons (ps_if (pt_val (pe_m1 PySem.F.slot_str_endswith PySem.F.type_str_endswith mt_endswith (pv 0) pe_str))
        (pss_one (ps_ret (pe_clS c_read_frames hr (by decide) (by rfl) (takes_of rfl rfl rfl rfl) (pa_cons (pv 0) pa_nil))))
        pss_nil)
      (pss_cons (ps_if (pt_val (pe_m1 PySem.F.slot_str_endswith PySem.F.type_str_endswith mt_endswith (pv 0) pe_str))
        (pss_one (ps_ret (pe_cl c_timed hr (by decide) (by rfl) (pa_cons (pe_clS c_read_mixed hr (by decide) (by rfl) (takes_of rfl rfl rfl rfl) (pa_cons (pe_slice sl_str (pv 0) po_none (po_some (pe_un un_neg pe_int))) pa_nil)) (pa_cons (pe_tup (pa_cons (pv 1) (pa_cons pe_int pa_nil))) pa_nil)))))
        pss_nil)
      (pss_one (ps_ret (pe_clS c_read_clock hr (by decide) (by rfl) (takes_of rfl rfl rfl rfl) (pa_cons (pv 0) (pa_cons (pv 1) pa_nil))))))), ?_⟩
    have er : rdTime x r = if Txt.endswith x "f" = true then rdMixed (cutS x none (some (-1))) else if Txt.endswith x "s" = true then (rdMixed (cutS x none (some (-1)))).map (· * (r : Rat)) else rdClock x r := rfl
    have lc : (cutS x none (some (-1))).length ≤ 1000 := Nat.le_trans (cutS_length _ _ _) hl
    refine ⟨_, rfl, ⟨_, rfl⟩, _, _, rfl, rfl, _, rfl, ite2 (fun z => ?_) (fun z => ?_)⟩
    · rw [if_pos z] at er
      have ef : rdTime x r = rdFrames x := er.trans (if_pos z).symm
      refine ⟨_, rfl, x, rfl, hl, tb, fun y hy H1 z1 t1 d1 => q _ (ef.trans hy) _ _ t1 d1, fun hy H1 t1 => qE (ef.trans hy) _ t1⟩
    · rw [if_neg z] at er
      refine ⟨_, rfl, ⟨_, rfl⟩, _, _, rfl, rfl, _, rfl, ite2 (fun z2 => ?_) (fun z2 => ?_)⟩
      · rw [if_pos z2] at er
        refine ⟨_, rfl, _, rfl, _, rfl, _, rfl, le1000 hl, _, rfl, lc, tb, fun y hy H1 z1 t1 d1 => ?_, fun hy H1 t1 => qE (by rw [er, hy]; rfl) _ t1⟩
        rw [hy] at er
        refine ⟨_, rfl, (show 2 ≤ sizeLine by decide), fun p2 hp2 => ?_⟩
        have s2 := Same.new (o := .tup [.int r, .int 1]) hp2
        have t2 := t1.trans (Tb.same t1.1 s2)
        have d2 : Dp K (upd H1 p2 (.tup [.int r, .int 1])) (.ref p2) (dF (r : Rat)) := dF_mk (.inl (.inl upd_same))
        refine ⟨_, _, y, (r : Rat), 61, 10, rfl, dp_mono s2 _ _ d1, d2, mixed_sz hy, sz_int (by decide) (by omega), by decide, trivial, fun H3 z3 s3 d3 => ?_⟩
        exact q _ er _ _ (t2.trans (Tb.same t2.1 s3)) d3
      · rw [if_neg z2] at er
        refine ⟨_, rfl, _, rfl, x, r, rfl, hl, r0, r1, tb, fun y hy H1 z1 t1 d1 => q _ (er.trans hy) _ _ t1 d1, fun hy H1 t1 => qE (er.trans hy) _ t1⟩
theorem cl_Lbegun (T : Txt K mg) : Cl P w K mg base CX0 1 "_law_begun" (spBegun K) := by
  refine T.d_Lbegun.cl sc_Lbegun (fun vs H Q E h => ?_) (fun f cdv A outer s H vs Q E hr h => ?_)
  · obtain ⟨i, j, rfl, _⟩ := h
    rfl
  · obtain ⟨a, ns, rfl, hS, q⟩ := h
    refine ⟨_, (pss_cons (ps_set (i := 1) sc_Lbegun.nd rfl (.inl rfl) pe_int)
      (pss_cons (ps_for PassesOwn.never rfl (pi_list (pv 0)) (pg_name (i := 2) sc_Lbegun.nd rfl (.inl rfl))
        (pss_one (ps_set (i := 1) sc_Lbegun.nd rfl (.inl rfl) (pe_op op_mod (pe_op op_add (pe_op op_add (pe_op op_mul (pv 1) pe_int) (pe_op op_mul (pv 2) pe_int)) pe_int) pe_int))))
      (pss_one (ps_ret (pe_lst (pa_cons (pe_callTy call_list_of (by rfl) T.m_list (by decide +kernel) (pa_cons (pv 0) pa_nil)) (pa_cons (pe_op op_mul (pv 1) (pe_callTy call_int1 (by rfl) T.m_int (by decide +kernel) (pa_cons (pe_cmpR op_gt (pe_callB call_len_seq (by rfl) T.m_len (by decide +kernel) (pa_cons (pv 0) pa_nil)) pe_int (nomark _)) pa_nil))) pa_nil))))))), ?_⟩
    refine ⟨_, rfl, a, rfl, ⟨_, hS⟩, for_list (K := K) (a := a) (xs := ns.map V.int) (fun i σ H' => ∃ (x : Int) (c : Option V), σ = [some (.ref a), some (.int x), c] ∧ H' = H) ⟨0, none, rfl, rfl⟩ (fun i σ H' _ h => ?_) (fun i x σ H' hx h => ?_) (fun σ H' h => ?_)⟩
    · obtain ⟨x, c, rfl, rfl⟩ := h
      exact hS
    · obtain ⟨y, c, rfl, rfl⟩ := h
      obtain ⟨z, hz, rfl⟩ : ∃ z : Int, z ∈ ns ∧ V.int z = x := by
        have := List.mem_of_getElem? hx
        exact List.mem_map.mp this
      refine ⟨_, rfl, _, _, rfl, rfl, .inr ⟨by decide, by decide⟩, _, rfl, _, _, rfl, rfl, .inr ⟨by decide, by decide⟩, _, _, rfl, rfl, _, _, rfl, rfl, _, _, rfl, rfl, (show (0 : Int) < 2147483647 by decide), _, _, rfl, rfl⟩
    · obtain ⟨y, c, rfl, rfl⟩ := h
      refine ⟨_, rfl, a, _, rfl, .inl hS, fun l hl => ?_⟩
      have hS2 : SqL K (upd H' l (.lst (ns.map V.int))) a (ns.map V.int) := (Same.new hl).seq hS
      refine ⟨_, rfl, _, rfl, a, _, rfl, .inl hS2, _, _, rfl, rfl, .inr ⟨_, rfl, _, _, rfl, rfl, .inr ?_, (show 2 ≤ sizeLine by decide), fun b hb => ?_⟩⟩
      · split <;> exact ⟨by decide, by decide⟩
      · refine q _ b l ((Same.new hl).trans (Same.new hb)) ((Same.new hl).free hb) hl ⟨fun e => ?_, ns, _, upd_same, ?_⟩
        · rw [e, upd_same] at hb
          cases hb
        · rw [upd_ne (fun e => ?_), upd_same]
          rw [← e, upd_same] at hb
          cases hb
theorem cl_Ltake (T : Txt K mg) : Cl P w K mg base CX0 1 "_law_take" (spTake K) := by
  refine T.d_Ltake.cl sc_Ltake (fun vs H Q E h => ?_) (fun f cdv A outer s H vs Q E hr h => ?_)
  · obtain ⟨b, l, m, rfl, _⟩ := h
    rfl
  · obtain ⟨b, l, m, rfl, B, m0, m1, q⟩ := h
    obtain ⟨xs, st, hb, hl⟩ := B.ex
    have ne := B.ne
    refine ⟨_, (pss_cons (ps_if (pt_cmpR (op_eqD hr.units) (pe_ix ix_list (pv 0) pe_int (fun _ _ => rfl)) (pe_lst pa_nil) (nomark _))
        (pss_cons (ps_asg (pe_op op_mod (pe_op op_mul (pe_ix ix_list (pv 0) pe_int (fun _ _ => rfl)) pe_int) pe_int) (pg_sub (pv 0) pe_int set_list))
      (pss_one (ps_ret (pe_op op_modN (pe_op op_fdiv (pe_ix ix_list (pv 0) pe_int (fun _ _ => rfl)) pe_int) (pv 1)))))
        pss_nil)
      (pss_cons (ps_set (i := 2) sc_Ltake.nd rfl (.inl rfl) (pe_ix ix_list (pe_ix ix_list (pv 0) pe_int (fun _ _ => rfl)) pe_int (fun _ _ => rfl)))
      (pss_cons (ps_asg (pe_op op_fdivX (pv 2) (pv 1)) (pg_sub (pe_ix ix_list (pv 0) pe_int (fun _ _ => rfl)) pe_int set_list))
      (pss_cons (ps_if (PW.pt (pw_or (pt_cmpR op_eq (pe_ix ix_list (pe_ix ix_list (pv 0) pe_int (fun _ _ => rfl)) pe_int (fun _ _ => rfl)) pe_int (nomark _)) (pw_or1 (pt_cmpR op_eq (pe_ix ix_list (pe_ix ix_list (pv 0) pe_int (fun _ _ => rfl)) pe_int (fun _ _ => rfl)) (pe_un un_neg pe_int) (nomark _)))))
        (pss_one (ps_expr (pe_bm PySem.F.plainAttrs_list PySem.F.slot_list_pop PySem.F.type_list_pop mt_popAt (pe_ix ix_list (pv 0) pe_int (fun _ _ => rfl)) (pa_cons pe_int pa_nil))))
        pss_nil)
      (pss_one (ps_ret (pe_op op_modN (pv 2) (pv 1)))))))), ?_⟩
    refine ⟨_, rfl, _, _, _, _, rfl, rfl, .inl (.inl hb), atI_nat (j := 0) rfl, Nat.zero_le _, fun o no => ?_⟩
    have sH : Same H (upd H o (.lst [])) := Same.new no
    have hb1 := sH _ _ hb
    have hl1 := sH _ _ hl
    have s0 : Same (hid b l H) (hid b l (upd H o (.lst []))) := Same.hid sH
    have he : SqL K (upd H o (.lst [])) o [] := .inl (.inl upd_same)
    generalize upd H o (.lst []) = H1 at hb1 hl1 s0 he ⊢
    refine ⟨.list (xs.map PyData.int), .list [], .lst (.inl (.inl hl1)) (dpa_ints xs), .lst he .nil, shaped_ints xs, rfl, _, rfl, ite2 (fun z => ?_) (fun z => ?_)⟩
    · refine ⟨_, rfl, _, _, _, _, rfl, rfl, .inl (.inl hb1), atI_nat (j := 1) rfl, _, _, rfl, rfl, .inr ⟨by decide, by decide⟩, _, _, rfl, rfl, (show (0 : Int) < 2147483647 by decide), _, rfl, _, _, _, 1, rfl, rfl, hb1, rfl, ?_⟩
      refine ⟨_, rfl, _, _, _, _, rfl, rfl, .inl (.inl upd_same), atI_nat (j := 1) rfl, _, _, rfl, rfl, ⟨by decide, by decide⟩, _, rfl, _, _, rfl, rfl, (by omega), ?_⟩
      refine q _ _ ?_ ⟨ne, xs, _, upd_same, ?_⟩ (fmod_rg m0).1 (fmod_rg m0).2
      · rw [hid_b]
        exact s0
      · rw [upd_ne ne.symm]
        exact hl1
    · cases xs with
      | nil => exact absurd rfl z
      | cons x r =>
        have fin : ∀ H', Same (hid b l H) (hid b l H') → Bx H' b l → Q (.int (x.fmod m)) H' := fun H' s1 B1 => q _ _ s1 B1 (fmod_rg m0).1 (fmod_rg m0).2
        refine ⟨_, rfl, _, _, _, _, rfl, rfl, .inl (.inl hb1), atI_nat (j := 0) rfl, _, _, _, _, rfl, rfl, .inl (.inl hl1), atI_nat (j := 0) rfl, ?_⟩
        refine ⟨_, rfl, _, rfl, _, _, rfl, rfl, cdiv (b := 30) (by omega) (by omega) (by decide) (by decide), _, rfl, _, _, _, _, rfl, rfl, .inl (.inl hb1), atI_nat (j := 0) rfl, _, _, _, 0, rfl, rfl, hl1, ixN0, ?_⟩
        have hb2 : (upd H1 l (.lst ((V.int (x.fdiv m)) :: r.map V.int))) b = some (.lst [.ref l, .int st]) := by
          rw [upd_ne ne]
          exact hb1
        have hl2 : (upd H1 l (.lst ((V.int (x.fdiv m)) :: r.map V.int))) l = some (.lst ((V.int (x.fdiv m)) :: r.map V.int)) := upd_same
        have s2 : Same (hid b l H) (hid b l (upd H1 l (.lst ((V.int (x.fdiv m)) :: r.map V.int)))) := by
          rw [hid_l]
          exact s0
        change tSeq _ _ _ _ (upd H1 l (.lst ((V.int (x.fdiv m)) :: r.map V.int)))
        generalize upd H1 l (.lst ((V.int (x.fdiv m)) :: r.map V.int)) = H2 at hb2 hl2 s2 ⊢
        have pop : ∀ D : Ends, D.nx [some (.ref b), some (.int m), some (.int x)] (upd H2 l (.lst (r.map V.int))) → tDrop (tBM K "list" rPopAt (tOp (rIxL K) (tVar 0) (tC (.int 0))) (tCons (tC (.int 0)) tNil)) D [some (.ref b), some (.int m), some (.int x)] H2 := by
          intro D hD
          exact ⟨_, rfl, _, _, _, _, rfl, rfl, .inl (.inl hb2), atI_nat (j := 0) rfl, .inl ⟨rfl, _, .inl (.inl hl2)⟩, l, _, 0, 0, _, rfl, rfl, hl2, by decide, by decide, (ixN_seq ixN0).1, rfl, hD⟩
        have fin2 : Q (.int (x.fmod m)) (upd H2 l (.lst (r.map V.int))) := by
          refine fin _ ?_ ⟨ne, r, st, ?_, upd_same⟩
          · rw [hid_l]
            exact s2
          · rw [upd_ne ne]
            exact hb2
        refine ⟨_, rfl, _, _, _, _, rfl, rfl, .inl (.inl hb2), atI_nat (j := 0) rfl, _, _, _, _, rfl, rfl, .inl (.inl hl2), atI_nat (j := 0) rfl, rfl, _, rfl, ite2 (fun z => ?_) (fun z => ?_)⟩
        · refine iteT (pop _ ?_)
          exact ⟨_, rfl, _, rfl, _, _, rfl, rfl, (by omega), fin2⟩
        · refine ⟨_, rfl, _, _, _, _, rfl, rfl, .inl (.inl hb2), atI_nat (j := 0) rfl, _, _, _, _, rfl, rfl, .inl (.inl hl2), atI_nat (j := 0) rfl, _, rfl, rfl, _, rfl, ite2 (fun z => ?_) (fun z => ?_)⟩
          · refine pop _ ?_
            exact ⟨_, rfl, _, rfl, _, _, rfl, rfl, (by omega), fin2⟩
          · exact ⟨_, rfl, _, rfl, _, _, rfl, rfl, (by omega), fin _ s2 ⟨ne, x.fdiv m :: r, st, hb2, hl2⟩⟩
theorem cl_Lalike (T : Txt K mg) : ∀ n : Nat, Cl P w K mg base CX0 (n + 1) "_law_alike" (spAlike K n)
  | 0 => by
    refine T.d_Lalike.cl sc_Lalike (fun vs H Q E h => ?_) (fun f cdv A outer s H vs Q E hr h => ?_)
    · obtain ⟨u, v, d, rfl, _⟩ := h
      rfl
    · obtain ⟨u, v, d, rfl, _, _, h, _⟩ := h
      exact absurd h (Nat.not_lt_zero _)
  | n + 1 => by
    have c_Lalike := cl_Lalike T n
    refine T.d_Lalike.cl sc_Lalike (fun vs H Q E h => ?_) (fun f cdv A outer s H vs Q E hr h => ?_)
    · obtain ⟨u, v, d, rfl, _⟩ := h
      rfl
    · obtain ⟨u, v, d, rfl, hu, hv, hd, hz, q⟩ := h
      refine ⟨_, (pss_cons (ps_if (pt_cmpR op_isN (pv 1) pe_non (nomark _))
        (pss_one (ps_ret (pe_cmpR op_isN (pv 0) pe_non (nomark _))))
        pss_nil)
      (pss_cons (ps_if (pt_val (pe_callB call_isi (by rfl) T.m_isinstance (by decide +kernel) (pa_cons (pv 1) (pa_cons (pe_bltn (v := .ty "bool") (by rfl) T.m_bool (by decide +kernel) rfl) pa_nil))))
        (pss_one (ps_ret (pe_and (pe_callB call_isi (by rfl) T.m_isinstance (by decide +kernel) (pa_cons (pv 0) (pa_cons (pe_bltn (v := .ty "bool") (by rfl) T.m_bool (by decide +kernel) rfl) pa_nil))) (pe_one (pe_cmpR op_eq (pv 0) (pv 1) (nomark _))))))
        pss_nil)
      (pss_cons (ps_if (pt_val (pe_callB call_isi (by rfl) T.m_isinstance (by decide +kernel) (pa_cons (pv 1) (pa_cons (pe_bltn (v := .ty "int") (by rfl) T.m_int (by decide +kernel) rfl) pa_nil))))
        (pss_one (ps_ret (pe_and (pe_callB call_isi (by rfl) T.m_isinstance (by decide +kernel) (pa_cons (pv 0) (pa_cons (pe_bltn (v := .ty "int") (by rfl) T.m_int (by decide +kernel) rfl) pa_nil))) (pe_and (pe_not (pe_callB call_isi (by rfl) T.m_isinstance (by decide +kernel) (pa_cons (pv 0) (pa_cons (pe_bltn (v := .ty "bool") (by rfl) T.m_bool (by decide +kernel) rfl) pa_nil)))) (pe_one (pe_cmpR op_eq (pv 0) (pv 1) (nomark _)))))))
        pss_nil)
      (pss_cons (ps_if (pt_val (pe_callB call_isi (by rfl) T.m_isinstance (by decide +kernel) (pa_cons (pv 1) (pa_cons (pe_bltn (v := .ty "str") (by rfl) T.m_str (by decide +kernel) rfl) pa_nil))))
        (pss_one (ps_ret (pe_and (pe_callB call_isi (by rfl) T.m_isinstance (by decide +kernel) (pa_cons (pv 0) (pa_cons (pe_bltn (v := .ty "str") (by rfl) T.m_str (by decide +kernel) rfl) pa_nil))) (pe_one (pe_cmpR op_eq (pv 0) (pv 1) (nomark _))))))
        pss_nil)
      (pss_cons (ps_if (PW.pt (pw_or (pt_cmpR op_ne (pe_callB call_isi (by rfl) T.m_isinstance (by decide +kernel) (pa_cons (pv 1) (pa_cons (pe_bltn (v := .ty "tuple") (by rfl) T.m_tuple (by decide +kernel) rfl) pa_nil))) (pe_callB call_isi (by rfl) T.m_isinstance (by decide +kernel) (pa_cons (pv 0) (pa_cons (pe_bltn (v := .ty "tuple") (by rfl) T.m_tuple (by decide +kernel) rfl) pa_nil))) (nomark _)) (pw_or1 (pt_cmpR op_ne (pe_callB call_isi (by rfl) T.m_isinstance (by decide +kernel) (pa_cons (pv 1) (pa_cons (pe_bltn (v := .ty "list") (by rfl) T.m_list (by decide +kernel) rfl) pa_nil))) (pe_callB call_isi (by rfl) T.m_isinstance (by decide +kernel) (pa_cons (pv 0) (pa_cons (pe_bltn (v := .ty "list") (by rfl) T.m_list (by decide +kernel) rfl) pa_nil))) (nomark _)))))
        (pss_one (ps_ret pe_bl))
        pss_nil)
      (pss_cons (ps_if (pt_cmpR op_ne (pe_callB call_len_seq (by rfl) T.m_len (by decide +kernel) (pa_cons (pv 0) pa_nil)) (pe_callB call_len_seq (by rfl) T.m_len (by decide +kernel) (pa_cons (pv 1) pa_nil)) (nomark _))
        (pss_one (ps_ret pe_bl))
        pss_nil)
      (pss_cons (ps_for PassesOwn.never rfl (pi_range1 (by rfl) T.m_range (pa_cons (pe_callB call_len_seq (by rfl) T.m_len (by decide +kernel) (pa_cons (pv 1) pa_nil)) pa_nil)) (pg_name (i := 2) sc_Lalike.nd rfl (.inl rfl))
        (pss_one (ps_if (pt_not (pt_val (pe_cl c_Lalike hr (Nat.le_refl _) (by rfl) (pa_cons (pe_ix ix_seq (pv 0) (pv 2) (fun _ _ => rfl)) (pa_cons (pe_ix ix_seq (pv 1) (pv 2) (fun _ _ => rfl)) pa_nil)))))
        (pss_one (ps_ret pe_bl))
        pss_nil)))
      (pss_one (ps_ret pe_bl))))))))), ?_⟩
      cases d with
      | none =>
        cases hu
        cases hv
        exact ⟨_, rfl, rfl, _, rfl, iteY rfl ⟨_, rfl, rfl, q⟩⟩
      | bool b =>
        cases hu
        cases hv
        refine ⟨_, rfl, rfl, _, rfl, iteN rfl ?_⟩
        refine ⟨_, rfl, _, _, _, _, _, rfl, .ty _, .base (.bl b), kit_ty (r := true) (by decide +kernel), _, rfl, iteY rfl ?_⟩
        exact ⟨_, rfl, _, _, _, _, _, rfl, .ty _, .base (.bl b), kit_ty (r := true) (by decide +kernel), _, rfl, iteY rfl ⟨_, rfl, _, rfl, rfl, by rw [decide_eq_true rfl]; exact q⟩⟩
      | int i =>
        cases hu
        cases hv
        refine ⟨_, rfl, rfl, _, rfl, iteN rfl ?_⟩
        refine ⟨_, rfl, _, _, _, _, _, rfl, .ty _, .base (.int i), kit_ty (r := false) (by decide +kernel), _, rfl, iteN rfl ?_⟩
        refine ⟨_, rfl, _, _, _, _, _, rfl, .ty _, .base (.int i), kit_ty (r := true) (by decide +kernel), _, rfl, iteY rfl ?_⟩
        refine ⟨_, rfl, _, _, _, _, _, rfl, .ty _, .base (.int i), kit_ty (r := true) (by decide +kernel), _, rfl, iteY rfl ?_⟩
        exact ⟨_, rfl, _, _, _, _, _, rfl, .ty _, .base (.int i), kit_ty (r := false) (by decide +kernel), _, rfl, _, rfl, iteY rfl ⟨_, rfl, _, rfl, rfl, by rw [decide_eq_true rfl]; exact q⟩⟩
      | str x =>
        cases hu
        cases hv
        refine ⟨_, rfl, rfl, _, rfl, iteN rfl ?_⟩
        refine ⟨_, rfl, _, _, _, _, _, rfl, .ty _, .base (.str x), kit_ty (r := false) (by decide +kernel), _, rfl, iteN rfl ?_⟩
        refine ⟨_, rfl, _, _, _, _, _, rfl, .ty _, .base (.str x), kit_ty (r := false) (by decide +kernel), _, rfl, iteN rfl ?_⟩
        refine ⟨_, rfl, _, _, _, _, _, rfl, .ty _, .base (.str x), kit_ty (r := true) (by decide +kernel), _, rfl, iteY rfl ?_⟩
        exact ⟨_, rfl, _, _, _, _, _, rfl, .ty _, .base (.str x), kit_ty (r := true) (by decide +kernel), _, rfl, iteY rfl ⟨_, rfl, _, rfl, rfl, by rw [decide_eq_true rfl]; exact q⟩⟩
      | list ds =>
        cases hu with
        | lst s1 a1 =>
          rename_i a xs
          cases hv with
          | lst s2 a2 =>
            rename_i b ys
            have t1 := tyL s1
            have t2 := tyL s2
            have w1 : SqL K H a xs ∨ SqT K H a xs := .inl s1
            have w2 : SqL K H b ys ∨ SqT K H b ys := .inl s2
            have e1 := dpa_len a1
            have e2 := dpa_len a2
            have hl : ds.length < 2 ^ 62 := of_decide_eq_true (Bool.and_eq_true_iff.mp (show (decide (ds.length < 2 ^ 62) && szAll ds) = true from hz)).1
            have hz2 : szAll ds = true := (Bool.and_eq_true_iff.mp (show (decide (ds.length < 2 ^ 62) && szAll ds) = true from hz)).2
            have hd2 : PyData.depthAll ds < n := Nat.lt_of_succ_lt_succ (show PyData.depthAll ds + 1 < n + 1 from hd)
            refine ⟨_, rfl, rfl, _, rfl, iteN rfl ?_⟩
            refine ⟨_, rfl, _, _, _, _, _, rfl, .ty _, t2, kit_ty (r := false) (by decide +kernel), _, rfl, iteN rfl ?_⟩
            refine ⟨_, rfl, _, _, _, _, _, rfl, .ty _, t2, kit_ty (r := false) (by decide +kernel), _, rfl, iteN rfl ?_⟩
            refine ⟨_, rfl, _, _, _, _, _, rfl, .ty _, t2, kit_ty (r := false) (by decide +kernel), _, rfl, iteN rfl ?_⟩
            refine ⟨_, rfl, _, _, _, _, _, rfl, .ty _, t2, kit_ty (r := false) (by decide +kernel), _, rfl, _, _, _, _, _, rfl, .ty _, t1, kit_ty (r := false) (by decide +kernel), rfl, _, rfl, iteN rfl ?_⟩
            refine ⟨_, rfl, _, _, _, _, _, rfl, .ty _, t2, kit_ty (r := true) (by decide +kernel), _, rfl, _, _, _, _, _, rfl, .ty _, t1, kit_ty (r := true) (by decide +kernel), rfl, _, rfl, iteN rfl ?_⟩
            refine ⟨_, rfl, _, _, rfl, w1, _, rfl, _, _, rfl, w2, rfl, _, rfl, iteN (by rw [e1, e2, decide_eq_true rfl]; rfl) ?_⟩
            refine ⟨_, rfl, _, _, rfl, w2, (ys.length : Int), rfl, (by omega), (by omega), for_range (lo := 0) (n := ys.length) (fun i σ H' => H' = H ∧ ∃ o, σ = [some (.ref a), some (.ref b), o]) ⟨rfl, none, rfl⟩ (fun i σ H' hi h => ?_) (fun σ H' h => ?_)⟩
            · obtain ⟨rfl, o, rfl⟩ := h
              obtain ⟨v1, g1⟩ : ∃ v1, xs[i]? = some v1 := ⟨_, List.getElem?_eq_getElem (show i < xs.length by omega)⟩
              obtain ⟨v2, g2⟩ : ∃ v2, ys[i]? = some v2 := ⟨_, List.getElem?_eq_getElem hi⟩
              obtain ⟨d1, k1, p1⟩ := dpa_at a1 g1
              obtain ⟨d2, k2, p2⟩ := dpa_at a2 g2
              have ed : d1 = d2 := Option.some.inj (k1.symm.trans k2)
              subst ed
              have ei : (0 : Int) + (i : Int) = (i : Int) := Int.zero_add _
              rw [ei]
              refine ⟨_, rfl, _, rfl, rIx_of w1 g1 ?_⟩
              refine ⟨_, rfl, _, rfl, rIx_of w2 g2 ?_⟩
              refine ⟨_, _, d1, rfl, p1, p2, Nat.lt_of_le_of_lt (depth_at k1) hd2, szAll_at hz2 k1, _, rfl, iteN rfl ⟨rfl, _, rfl⟩⟩
            · obtain ⟨rfl, o, rfl⟩ := h
              exact q
      | tuple ds =>
        cases hu with
        | tup s1 a1 =>
          rename_i a xs
          cases hv with
          | tup s2 a2 =>
            rename_i b ys
            have t1 := tyT s1
            have t2 := tyT s2
            have w1 : SqL K H a xs ∨ SqT K H a xs := .inr s1
            have w2 : SqL K H b ys ∨ SqT K H b ys := .inr s2
            have e1 := dpa_len a1
            have e2 := dpa_len a2
            have hl : ds.length < 2 ^ 62 := of_decide_eq_true (Bool.and_eq_true_iff.mp (show (decide (ds.length < 2 ^ 62) && szAll ds) = true from hz)).1
            have hz2 : szAll ds = true := (Bool.and_eq_true_iff.mp (show (decide (ds.length < 2 ^ 62) && szAll ds) = true from hz)).2
            have hd2 : PyData.depthAll ds < n := Nat.lt_of_succ_lt_succ (show PyData.depthAll ds + 1 < n + 1 from hd)
            refine ⟨_, rfl, rfl, _, rfl, iteN rfl ?_⟩
            refine ⟨_, rfl, _, _, _, _, _, rfl, .ty _, t2, kit_ty (r := false) (by decide +kernel), _, rfl, iteN rfl ?_⟩
            refine ⟨_, rfl, _, _, _, _, _, rfl, .ty _, t2, kit_ty (r := false) (by decide +kernel), _, rfl, iteN rfl ?_⟩
            refine ⟨_, rfl, _, _, _, _, _, rfl, .ty _, t2, kit_ty (r := false) (by decide +kernel), _, rfl, iteN rfl ?_⟩
            refine ⟨_, rfl, _, _, _, _, _, rfl, .ty _, t2, kit_ty (r := true) (by decide +kernel), _, rfl, _, _, _, _, _, rfl, .ty _, t1, kit_ty (r := true) (by decide +kernel), rfl, _, rfl, iteN rfl ?_⟩
            refine ⟨_, rfl, _, _, _, _, _, rfl, .ty _, t2, kit_ty (r := false) (by decide +kernel), _, rfl, _, _, _, _, _, rfl, .ty _, t1, kit_ty (r := false) (by decide +kernel), rfl, _, rfl, iteN rfl ?_⟩
            refine ⟨_, rfl, _, _, rfl, w1, _, rfl, _, _, rfl, w2, rfl, _, rfl, iteN (by rw [e1, e2, decide_eq_true rfl]; rfl) ?_⟩
            refine ⟨_, rfl, _, _, rfl, w2, (ys.length : Int), rfl, (by omega), (by omega), for_range (lo := 0) (n := ys.length) (fun i σ H' => H' = H ∧ ∃ o, σ = [some (.ref a), some (.ref b), o]) ⟨rfl, none, rfl⟩ (fun i σ H' hi h => ?_) (fun σ H' h => ?_)⟩
            · obtain ⟨rfl, o, rfl⟩ := h
              obtain ⟨v1, g1⟩ : ∃ v1, xs[i]? = some v1 := ⟨_, List.getElem?_eq_getElem (show i < xs.length by omega)⟩
              obtain ⟨v2, g2⟩ : ∃ v2, ys[i]? = some v2 := ⟨_, List.getElem?_eq_getElem hi⟩
              obtain ⟨d1, k1, p1⟩ := dpa_at a1 g1
              obtain ⟨d2, k2, p2⟩ := dpa_at a2 g2
              have ed : d1 = d2 := Option.some.inj (k1.symm.trans k2)
              subst ed
              have ei : (0 : Int) + (i : Int) = (i : Int) := Int.zero_add _
              rw [ei]
              refine ⟨_, rfl, _, rfl, rIx_of w1 g1 ?_⟩
              refine ⟨_, rfl, _, rfl, rIx_of w2 g2 ?_⟩
              refine ⟨_, _, d1, rfl, p1, p2, Nat.lt_of_le_of_lt (depth_at k1) hd2, szAll_at hz2 k1, _, rfl, iteN rfl ⟨rfl, _, rfl⟩⟩
            · obtain ⟨rfl, o, rfl⟩ := h
              exact q
      | dict _ => cases hu
theorem cl_Lfr (T : Txt K mg) : Cl P w K mg base CX0 1 "_law_fr" (spMade K) := by
  refine T.d_Lfr.cl sc_Lfr (fun vs H Q E h => ?_) (fun f cdv A outer s H vs Q E hr h => ?_)
  · obtain ⟨i, j, rfl, _⟩ := h
    rfl
  · obtain ⟨t, b, rfl, hb, hs, q⟩ := h
    refine ⟨_, (pss_cons (ps_set (i := 2) sc_Lfr.nd rfl (.inl rfl) (pe_callB call_abs (by rfl) T.m_abs (by decide +kernel) (pa_cons (pv 0) pa_nil)))
      (pss_cons (ps_set (i := 3) sc_Lfr.nd rfl (.inl rfl) (pe_callB call_abs (by rfl) T.m_abs (by decide +kernel) (pa_cons (pv 1) pa_nil)))
      (pss_cons (ps_while PassesOwn.never (pt_cmpR op_gt (pv 3) pe_int (nomark _))
        (pss_cons (ps_set (i := 4) sc_Lfr.nd rfl (.inl rfl) (pe_op op_modN (pv 2) (pv 3)))
      (pss_cons (ps_set (i := 2) sc_Lfr.nd rfl (.inl rfl) (pv 3))
      (pss_one (ps_set (i := 3) sc_Lfr.nd rfl (.inl rfl) (pv 4))))))
      (pss_cons (ps_if (pt_cmpR op_lt (pv 1) pe_int (nomark _))
        (pss_one (ps_set (i := 2) sc_Lfr.nd rfl (.inl rfl) (pe_op op_sub pe_int (pv 2))))
        pss_nil)
      (pss_one (ps_ret (pe_tup (pa_cons (pe_op op_fdivX (pv 0) (pv 2)) (pa_cons (pe_op op_fdivX (pv 1) (pv 2)) pa_nil))))))))), ?_⟩
    have last : ∀ d : Int, d = frI t b → ∀ p, H p = none → Q (.ref p) (upd H p (.tup [.int (t.fdiv d), .int (b.fdiv d)])) := by
      intro d e p hp
      subst e
      refine q _ _ (Same.new hp) (dF_mk ?_)
      rw [fr_num hb, fr_den hb]
      exact .inl (.inl upd_same)
    have hd : ∀ d : Int, d = frI t b → CDivX t d ∧ CDivX b d := by
      intro d e
      subst e
      have h1 := Nat.lt_of_le_of_lt (frI_natAbs (t := t) hb) hs
      exact ⟨cdiv (frI_ne hb) h1 (by decide) (by decide), cdiv (frI_ne hb) h1 (by decide) (by decide)⟩
    refine ⟨_, rfl, _, rfl, _, rfl, _, rfl, ?_⟩
    refine while_by (fun σ H' => ∃ (a c : Nat) (o : Option V), σ = [some (.int t), some (.int b), some (.int (a : Int)), some (.int (c : Int)), o] ∧ H' = H ∧ Nat.gcd a c = Nat.gcd t.natAbs b.natAbs) (fun σ _ => match σ with | [_, _, _, some (.int b), _] => b.natAbs | _ => 0) ?_ ?_ ?_
    · refine ⟨t.natAbs, b.natAbs, none, ?_, rfl, rfl⟩
      show [some (V.int t), some (V.int b), some (V.int (if t < 0 then -t else t)), some (V.int (if b < 0 then -b else b)), none] = _
      rw [abs_nat, abs_nat]
    · intro σ H' h
      obtain ⟨a, c, o, rfl, rfl, e⟩ := h
      refine ⟨_, rfl, _, _, rfl, rfl, _, rfl, ite2 (fun z => ?_) (fun z => ?_)⟩
      · have hc : 0 < c := by
          have := of_decide_eq_true z
          omega
        refine ⟨_, rfl, _, rfl, _, _, rfl, rfl, (by omega), _, rfl, _, rfl, ⟨c, a % c, some (V.int ((a : Int).fmod (c : Int))), ?_, rfl, ?_⟩, ?_⟩
        · show [some (V.int t), some (V.int b), some (V.int (c : Int)), some (V.int ((a : Int).fmod (c : Int))), some (V.int ((a : Int).fmod (c : Int)))] = _
          rw [fmod_nat]
        · rw [gcd_turn]
          exact e
        · show Int.natAbs (Int.fmod (a : Int) (c : Int)) < Int.natAbs (c : Int)
          rw [fmod_nat]
          have := Nat.mod_lt a hc
          omega
      · have hc : c = 0 := by
          have z2 : ¬ ((0 : Int) < (c : Int)) := fun y => z (decide_eq_true y)
          omega
        subst hc
        rw [Nat.gcd_zero_right] at e
        refine ⟨_, rfl, _, _, rfl, rfl, _, rfl, ite2 (fun z => ?_) (fun z => ?_)⟩
        · have z1 : b < 0 := of_decide_eq_true z
          have e : 0 - (a : Int) = frI t b := by
            unfold frI
            rw [if_pos z1, ← e]
            omega
          refine ⟨_, rfl, _, _, rfl, rfl, _, rfl, _, rfl, _, _, rfl, rfl, (hd _ e).1, _, rfl, _, rfl, _, _, rfl, rfl, (hd _ e).2, (show 2 ≤ sizeLine by decide), fun p hp => last _ e p hp⟩
        · have z1 : ¬ b < 0 := fun y => z (decide_eq_true y)
          have e : (a : Int) = frI t b := by
            unfold frI
            rw [if_neg z1, ← e]
          refine ⟨_, rfl, _, rfl, _, _, rfl, rfl, (hd _ e).1, _, rfl, _, rfl, _, _, rfl, rfl, (hd _ e).2, (show 2 ≤ sizeLine by decide), fun p hp => last _ e p hp⟩
    · intro σ H' Q1 Q2 h12 h
      obtain ⟨v, e, i, j, e1, e2, k, e3, h⟩ := h
      exact ⟨v, e, i, j, e1, e2, k, e3, h12 _ _ h⟩
theorem cl_Lmixed (T : Txt K mg) : Cl P w K mg base CX0 1 "_law_mixed" (spMix K (10 ^ 30) mixT) := by
  refine T.d_Lmixed.cl sc_Lmixed (fun vs H Q E h => ?_) (fun f cdv A outer s H vs Q E hr h => ?_)
  · obtain ⟨v, q, rfl, _⟩ := h
    rfl
  · obtain ⟨v, x, rfl, hv, bd, q⟩ := h
    obtain ⟨a, rfl, h0⟩ := dF_at hv
    have e1 : (fun i j : Int => V.int (i.fdiv j)) x.num (x.den : Int) = .int (qw x) := by
      show V.int (x.num.fdiv (x.den : Int)) = _
      rw [qf]
    have e2 : (fun i j : Int => V.int (i.fmod j)) x.num (x.den : Int) = .int (qr x) := by
      show V.int (x.num.fmod (x.den : Int)) = _
      rw [qm]
    have gw := qw_rg bd
    have gr := qr_rg bd
    have l1 := sI_len gw.1 gw.2
    have l2 := sI_len gr.1 gr.2
    have l3 := sI_len (show 0 ≤ (x.den : Int) by omega) bd.den
    refine ⟨_, (pss_cons (ps_set (i := 1) sc_Lmixed.nd rfl (.inl rfl) (pe_op op_fdivX (pe_ix ix_tup (pv 0) pe_int (fun _ _ => rfl)) (pe_ix ix_tup (pv 0) pe_int (fun _ _ => rfl))))
      (pss_cons (ps_set (i := 2) sc_Lmixed.nd rfl (.inl rfl) (pe_op op_modN (pe_ix ix_tup (pv 0) pe_int (fun _ _ => rfl)) (pe_ix ix_tup (pv 0) pe_int (fun _ _ => rfl))))
      (pss_cons (ps_if (pt_cmpR op_eq (pv 2) pe_int (nomark _))
        (pss_one (ps_ret (pe_callTy call_str_int (by rfl) T.m_str (by decide +kernel) (pa_cons (pv 1) pa_nil))))
        pss_nil)
      (pss_one (ps_ret (pe_op op_add_str (pe_op op_add_str (pe_op op_add_str (pe_op op_add_str (pe_callTy call_str_int (by rfl) T.m_str (by decide +kernel) (pa_cons (pv 1) pa_nil)) pe_str) (pe_callTy call_str_int (by rfl) T.m_str (by decide +kernel) (pa_cons (pv 2) pa_nil))) pe_str) (pe_callTy call_str_int (by rfl) T.m_str (by decide +kernel) (pa_cons (pe_ix ix_tup (pv 0) pe_int (fun _ _ => rfl)) pa_nil)))))))), ?_⟩
    refine ⟨_, rfl, _, _, _, _, rfl, rfl, h0, atI_nat (j := 0) rfl, _, rfl, _, _, _, _, rfl, rfl, h0, atI_nat (j := 1) rfl, _, _, rfl, rfl, cdq bd, ?_⟩
    rw [e1]
    refine ⟨_, rfl, _, _, _, _, rfl, rfl, h0, atI_nat (j := 0) rfl, _, rfl, _, _, _, _, rfl, rfl, h0, atI_nat (j := 1) rfl, _, _, rfl, rfl, den_ne x, ?_⟩
    rw [e2]
    refine ⟨_, rfl, rfl, _, rfl, ite2 (fun z => ?_) (fun z => ?_)⟩
    · have e : qr x = 0 := V.int.inj (of_decide_eq_true z)
      refine ⟨_, rfl, _, rfl, lg gw.1 gw.2, ?_⟩
      unfold mixT rs at q
      rw [if_pos e, sapp_nil] at q
      exact q
    · have e : qr x ≠ 0 := fun e => z (by rw [e]; rfl)
      unfold mixT rs at q
      rw [if_neg e] at q
      refine ⟨_, rfl, _, rfl, lg gw.1 gw.2, _, _, rfl, rfl, sz60 (show (sI (qw x)).length + 1 ≤ 1000 by omega), ?_⟩
      refine ⟨_, rfl, _, rfl, lg gr.1 gr.2, _, _, rfl, rfl, sz60 (by rw [slen]; show (sI (qw x)).length + 1 + (sI (qr x)).length ≤ 1000; omega), ?_⟩
      refine ⟨_, _, rfl, rfl, sz60 (by rw [slen, slen]; show (sI (qw x)).length + 1 + (sI (qr x)).length + 1 ≤ 1000; omega), ?_⟩
      refine ⟨_, rfl, _, _, _, _, rfl, rfl, h0, atI_nat (j := 1) rfl, _, rfl, lg (show 0 ≤ (x.den : Int) by omega) bd.den, _, _, rfl, rfl, sz60 (by rw [slen, slen, slen]; show (sI (qw x)).length + 1 + (sI (qr x)).length + 1 + (sI (x.den : Int)).length ≤ 1000; omega), ?_⟩
      show Q (.str ((((sI (qw x) ++ (" " : Str)) ++ sI (qr x)) ++ ("/" : Str)) ++ sI (x.den : Int))) H
      rw [sapp, sapp, sapp]
      exact q
theorem cl_Lframes_text (T : Txt K mg) : Cl P w K mg base CX0 2 "_law_frames_text" (spMix K (10 ^ 30) framesT) := by
  have c_Lmixed := cl_Lmixed (P := P) (w := w) (base := base) T
  refine T.d_Lframes_text.cl sc_Lframes_text (fun vs H Q E h => ?_) (fun f cdv A outer s H vs Q E hr h => ?_)
  · obtain ⟨v, q, rfl, _⟩ := h
    rfl
  · obtain ⟨v, x, rfl, hv, bd, q⟩ := h
    refine ⟨_, (pss_one (ps_ret (pe_op op_add_str (pe_cl c_Lmixed hr (by decide) (by rfl) (pa_cons (pv 0) pa_nil)) pe_str))), ?_⟩
    refine ⟨_, rfl, _, x, rfl, hv, bd, _, _, rfl, rfl, ?_, q⟩
    have := mix_len bd
    exact sz60 (show (mixT x).length + 1 ≤ 1000 by omega)
theorem cl_Lseconds_text (T : Txt K mg) : Cl P w K mg base CX0 2 "_law_seconds_text" (spTxt2 K secondsT) := by
  have c_Lmixed := cl_Lmixed (P := P) (w := w) (base := base) T
  have c_Lfr := cl_Lfr (P := P) (w := w) (base := base) T
  refine T.d_Lseconds_text.cl sc_Lseconds_text (fun vs H Q E h => ?_) (fun f cdv A outer s H vs Q E hr h => ?_)
  · obtain ⟨v, q, r, rfl, _⟩ := h
    rfl
  · obtain ⟨v, x, r, rfl, hv, bd, r0, r1, q⟩ := h
    obtain ⟨a, rfl, h0⟩ := dF_at hv
    refine ⟨_, (pss_one (ps_ret (pe_op op_add_str (pe_cl c_Lmixed hr (by decide) (by rfl) (pa_cons (pe_cl c_Lfr hr (by decide) (by rfl) (pa_cons (pe_ix ix_tup (pv 0) pe_int (fun _ _ => rfl)) (pa_cons (pe_op op_mulW (pe_ix ix_tup (pv 0) pe_int (fun _ _ => rfl)) (pv 1)) pa_nil))) pa_nil)) pe_str))), ?_⟩
    have b1 : ((x.den : Int)).natAbs < 2 ^ 100 := by have := bd.den; omega
    have b2 : r.natAbs < 2 ^ 100 := by omega
    refine ⟨_, rfl, _, _, _, _, rfl, rfl, h0, atI_nat (j := 0) rfl, _, rfl, _, _, _, _, rfl, rfl, h0, atI_nat (j := 1) rfl, _, rfl, _, _, rfl, rfl, wide_mul b1 b2 (by decide) (by decide) (by decide), ?_⟩
    refine ⟨_, _, rfl, Int.mul_ne_zero (den_ne x) (by omega), up9 (mul_bits b1 b2) (by decide), fun H2 z s2 z2 => ?_⟩
    rw [div_rate] at z2
    refine ⟨_, _, rfl, z2, bd_rate bd r0 r1, _, _, rfl, rfl, ?_, q _ s2⟩
    have := mix_len (bd_rate bd r0 r1)
    exact sz60 (show (mixT (x / (r : Rat))).length + 1 ≤ 1000 by omega)
theorem padI (i : Int) (x : Str) : (x ++ (":" : Str)) ++ ((if i < 10 then ("0" : Str) else ("" : Str)) ++ sI i) = x ++ ((":" : Str) ++ pad2 i) := by
  unfold pad2
  rw [sapp]
  split
  · rfl
  · rw [show (("" : Str) ++ sI i) = sI i from nil_sapp _]
def clkN (x : Rat) (r : Int) : Nat → Str
  | 0 => sI (qw x / r / 3600)
  | 1 => sI (qw x / r / 3600) ++ ((":" : Str) ++ pad2 (qw x / r / 60 % 60))
  | 2 => (sI (qw x / r / 3600) ++ ((":" : Str) ++ pad2 (qw x / r / 60 % 60))) ++ ((":" : Str) ++ pad2 (qw x / r % 60))
  | _ => ((sI (qw x / r / 3600) ++ ((":" : Str) ++ pad2 (qw x / r / 60 % 60))) ++ ((":" : Str) ++ pad2 (qw x / r % 60))) ++ ((":" : Str) ++ pad2 (qw x % r))
theorem clkN_all (x : Rat) (r : Int) : clkN x r 3 ++ rs (qr x) (x.den : Int) = clockT x r := by
  unfold clkN clockT
  simp only [sapp]
theorem cl_Lclock_text (T : Txt K mg) : Cl P w K mg base CX0 1 "_law_clock_text" (spTxt2 K clockT) := by
  refine T.d_Lclock_text.cl sc_Lclock_text (fun vs H Q E h => ?_) (fun f cdv A outer s H vs Q E hr h => ?_)
  · obtain ⟨v, q, r, rfl, _⟩ := h
    rfl
  · obtain ⟨v, x, r, rfl, hv, bd, r0, r1, q⟩ := h
    obtain ⟨a, rfl, h0⟩ := dF_at hv
    have bd2 : Bd (10 ^ 30) x := bd.mono (by decide)
    refine ⟨_, (pss_cons (ps_set (i := 2) sc_Lclock_text.nd rfl (.inl rfl) (pe_op op_fdivX (pe_ix ix_tup (pv 0) pe_int (fun _ _ => rfl)) (pe_ix ix_tup (pv 0) pe_int (fun _ _ => rfl))))
      (pss_cons (ps_set (i := 3) sc_Lclock_text.nd rfl (.inl rfl) (pe_lst (pa_cons (pe_op op_fdiv (pe_op op_fdivX (pv 2) (pv 1)) pe_int) (pa_cons (pe_op op_mod (pe_op op_fdiv (pe_op op_fdivX (pv 2) (pv 1)) pe_int) pe_int) (pa_cons (pe_op op_mod (pe_op op_fdivX (pv 2) (pv 1)) pe_int) (pa_cons (pe_op op_modN (pv 2) (pv 1)) pa_nil))))))
      (pss_cons (ps_set (i := 4) sc_Lclock_text.nd rfl (.inl rfl) (pe_callTy call_str_int (by rfl) T.m_str (by decide +kernel) (pa_cons (pe_ix ix_list (pv 3) pe_int (fun _ _ => rfl)) pa_nil)))
      (pss_cons (ps_for PassesOwn.never rfl (pi_list (pe_slice sl_list (pv 3) (po_some pe_int) po_none)) (pg_name (i := 5) sc_Lclock_text.nd rfl (.inl rfl))
        (pss_one (ps_set (i := 4) sc_Lclock_text.nd rfl (.inl rfl) (pe_op op_add_str (pe_op op_add_str (pe_op op_add_str (pv 4) pe_str) (pe_ix ix_list (pe_lst (pa_cons pe_str (pa_cons pe_str pa_nil))) (pe_callTy call_int1 (by rfl) T.m_int (by decide +kernel) (pa_cons (pe_cmpR op_lt (pv 5) pe_int (nomark _)) pa_nil)) (fun _ _ => rfl))) (pe_callTy call_str_int (by rfl) T.m_str (by decide +kernel) (pa_cons (pv 5) pa_nil))))))
      (Evl.pss_cut (ps_if (pt_cmpR op_gt (pe_op op_modN (pe_ix ix_tup (pv 0) pe_int (fun _ _ => rfl)) (pe_ix ix_tup (pv 0) pe_int (fun _ _ => rfl))) pe_int (nomark _))
        (pss_one (ps_set (i := 4) sc_Lclock_text.nd rfl (.inl rfl) (pe_op op_add_str (pe_op op_add_str (pe_op op_add_str (pe_op op_add_str (pv 4) pe_str) (pe_callTy call_str_int (by rfl) T.m_str (by decide +kernel) (pa_cons (pe_op op_modN (pe_ix ix_tup (pv 0) pe_int (fun _ _ => rfl)) (pe_ix ix_tup (pv 0) pe_int (fun _ _ => rfl))) pa_nil))) pe_str) (pe_callTy call_str_int (by rfl) T.m_str (by decide +kernel) (pa_cons (pe_ix ix_tup (pv 0) pe_int (fun _ _ => rfl)) pa_nil)))))
        pss_nil)
      (pss_one (ps_ret (pv 4)))))))), ?_⟩
    have e1 : (fun i j : Int => V.int (i.fdiv j)) x.num (x.den : Int) = .int (qw x) := by
      show V.int (x.num.fdiv (x.den : Int)) = _
      rw [qf]
    have e2 : (fun i j : Int => V.int (i.fmod j)) x.num (x.den : Int) = .int (qr x) := by
      show V.int (x.num.fmod (x.den : Int)) = _
      rw [qm]
    have e3 : (fun i j : Int => V.int (i.fdiv j)) (qw x) r = .int (qw x / r) := by
      show V.int ((qw x).fdiv r) = _
      rw [Int.fdiv_eq_ediv_of_nonneg _ (by omega)]
    have e4 : (fun i j : Int => V.int (i.fmod j)) (qw x) r = .int (qw x % r) := by
      show V.int ((qw x).fmod r) = _
      rw [Int.fmod_eq_emod_of_nonneg _ (by omega)]
    have cd : CDivX (qw x) r := cdiv (b := 100) (by omega) (by omega) (by decide) (by decide)
    have g := qw_rg bd
    have hwn : 0 ≤ qw x / r := Int.ediv_nonneg g.1 (by omega)
    have hwl : qw x / r ≤ qw x := Int.ediv_le_self _ g.1
    have hm0 : 0 ≤ qw x % r := Int.emod_nonneg _ (by omega)
    have hm1 : qw x % r < r := Int.emod_lt_of_pos _ r0
    have a0 : 0 ≤ qw x / r / 3600 := by omega
    have a1 : qw x / r / 3600 < 10 ^ 30 := by omega
    refine ⟨_, rfl, _, _, _, _, rfl, rfl, h0, atI_nat (j := 0) rfl, _, rfl, _, _, _, _, rfl, rfl, h0, atI_nat (j := 1) rfl, _, _, rfl, rfl, cdq bd2, ?_⟩
    rw [e1]
    refine ⟨_, rfl, _, rfl, _, _, rfl, rfl, cd, ?_⟩
    rw [e3]
    refine ⟨_, _, rfl, rfl, ⟨by decide, by decide⟩, _, rfl, _, rfl, _, _, rfl, rfl, cd, ?_⟩
    rw [e3]
    refine ⟨_, _, rfl, rfl, ⟨by decide, by decide⟩, _, _, rfl, rfl, (show (0 : Int) < 60 by decide), _, rfl, _, rfl, _, _, rfl, rfl, cd, ?_⟩
    rw [e3]
    refine ⟨_, _, rfl, rfl, (show (0 : Int) < 60 by decide), _, rfl, _, rfl, _, _, rfl, rfl, (show r ≠ 0 by omega), ?_⟩
    rw [e4]
    refine ⟨(show 4 ≤ sizeLine by decide), fun n hn => ?_⟩
    have s1 : Same H (upd H n (.lst [.int (qw x / r / 3600), .int (qw x / r / 60 % 60), .int (qw x / r % 60), .int (qw x % r)])) := Same.new hn
    have hN : SqL K (upd H n (.lst [.int (qw x / r / 3600), .int (qw x / r / 60 % 60), .int (qw x / r % 60), .int (qw x % r)])) n [.int (qw x / r / 3600), .int (qw x / r / 60 % 60), .int (qw x / r % 60), .int (qw x % r)] := .inl (.inl upd_same)
    change tSeq _ _ _ _ (upd H n (.lst [.int (qw x / r / 3600), .int (qw x / r / 60 % 60), .int (qw x / r % 60), .int (qw x % r)]))
    generalize upd H n (.lst [.int (qw x / r / 3600), .int (qw x / r / 60 % 60), .int (qw x / r % 60), .int (qw x % r)]) = H1 at s1 hN ⊢
    refine ⟨_, rfl, _, _, _, _, rfl, rfl, hN, atI_nat (j := 0) rfl, _, rfl, lg a0 a1, ?_⟩
    refine ⟨_, rfl, _, rfl, n, _, rfl, hN, fun c hc => ?_⟩
    have s2 := s1.trans (Same.new (o := .lst (cutV [.int (qw x / r / 3600), .int (qw x / r / 60 % 60), .int (qw x / r % 60), .int (qw x % r)] (some 1) none)) hc)
    have hC : SqL K (upd H1 c (.lst (cutV [.int (qw x / r / 3600), .int (qw x / r / 60 % 60), .int (qw x / r % 60), .int (qw x % r)] (some 1) none))) c ([qw x / r / 60 % 60, qw x / r % 60, qw x % r].map V.int) := .inl (.inl upd_same)
    generalize upd H1 c (.lst (cutV [.int (qw x / r / 3600), .int (qw x / r / 60 % 60), .int (qw x / r % 60), .int (qw x % r)] (some 1) none)) = H2 at s2 hC ⊢
    have h2 : SqT K H2 a [.int x.num, .int (x.den : Int)] := Same.tup s2 h0
    refine ⟨c, rfl, ⟨_, hC⟩, for_list (K := K) (a := c) (xs := [qw x / r / 60 % 60, qw x / r % 60, qw x % r].map V.int) (fun i σ H' => ∃ o, σ = [some (.ref a), some (.int r), some (.int (qw x)), some (.ref n), some (.str (clkN x r i)), o] ∧ Same H2 H' ∧ (clkN x r i).length ≤ 30 + 32 * i) ⟨none, rfl, Same.refl _, sI_len a0 a1⟩ (fun i σ H' _ h => ?_) (fun i y σ H' hy h => ?_) (fun σ H' h => ?_)⟩
    · obtain ⟨o, rfl, s3, _⟩ := h
      exact s3.seq hC
    · obtain ⟨o, rfl, s3, hl⟩ := h
      obtain ⟨z, z0, z1, rfl, hi, ek⟩ : ∃ z : Int, 0 ≤ z ∧ z < 10 ^ 30 ∧ V.int z = y ∧ i ≤ 2 ∧ clkN x r (i + 1) = clkN x r i ++ ((":" : Str) ++ pad2 z) := by
        match i, hy with
        | 0, hy => exact ⟨_, by omega, by omega, Option.some.inj hy, by decide, rfl⟩
        | 1, hy => exact ⟨_, by omega, by omega, Option.some.inj hy, by decide, rfl⟩
        | 2, hy => exact ⟨_, by omega, by omega, Option.some.inj hy, by decide, rfl⟩
        | k + 3, hy => simp at hy
      have lz := sI_len z0 z1
      have lp := pad2_len z0 z1
      refine ⟨_, rfl, _, _, rfl, rfl, sz60 (show (clkN x r i).length + 1 ≤ 1000 by omega), ?_⟩
      refine ⟨(show 2 ≤ sizeLine by decide), fun p hp => ?_⟩
      have s4 := s3.trans (Same.new (o := .lst [.str "", .str "0"]) hp)
      have hP : SqL K (upd H' p (.lst [.str "", .str "0"])) p [.str "", .str "0"] := .inl (.inl upd_same)
      refine ⟨_, rfl, _, _, rfl, rfl, .inr ⟨_, rfl, ?_⟩⟩
      refine ⟨p, _, _, .str (if z < 10 then "0" else ""), rfl, rfl, hP, ?_, ?_⟩
      · by_cases h10 : z < 10
        · rw [decide_eq_true h10, if_pos h10]
          exact atI_nat (j := 1) rfl
        · rw [decide_eq_false h10, if_neg h10]
          exact atI_nat (j := 0) rfl
      have lq : (if z < 10 then ("0" : Str) else ("" : Str)).length ≤ 1 := by
        split <;> decide
      refine ⟨_, _, rfl, rfl, sz60 (by rw [slen]; show (clkN x r i).length + 1 + (if z < 10 then ("0" : Str) else ("" : Str)).length ≤ 1000; omega), ?_⟩
      refine ⟨_, rfl, _, rfl, lg z0 z1, _, _, rfl, rfl, sz60 (by rw [slen, slen]; show (clkN x r i).length + 1 + (if z < 10 then ("0" : Str) else ("" : Str)).length + (sI z).length ≤ 1000; omega), some (.int z), ?_, s4, ?_⟩
      · show ([some (.ref a), some (.int r), some (.int (qw x)), some (.ref n), some (.str (((clkN x r i ++ (":" : Str)) ++ (if z < 10 then ("0" : Str) else ("" : Str))) ++ sI z)), some (.int z)] : List (Option V)) = _
        rw [sapp (clkN x r i ++ (":" : Str)), padI, ek]
      · rw [ek, slen, slen]
        show (clkN x r i).length + (1 + (pad2 z).length) ≤ 30 + 32 * (i + 1)
        omega
    · obtain ⟨o, rfl, s3, hl⟩ := h
      have h3 : SqT K H' a [.int x.num, .int (x.den : Int)] := Same.tup s3 h2
      have gr := qr_rg bd2
      have l2 := sI_len gr.1 gr.2
      have l3 := sI_len (show 0 ≤ (x.den : Int) by omega) bd2.den
      have q2 := q _ (s2.trans s3)
      rw [← clkN_all] at q2
      change (clkN x r 3).length ≤ 30 + 32 * 3 at hl
      refine ⟨fun σ' H'' => H'' = H' ∧ σ' = [some (.ref a), some (.int r), some (.int (qw x)), some (.ref n), some (.str (clkN x r 3 ++ rs (qr x) (x.den : Int))), o], ?_, fun σ' H'' hM => ?_⟩
      · refine ⟨_, rfl, _, _, _, _, rfl, rfl, h3, atI_nat (j := 0) rfl, _, rfl, _, _, _, _, rfl, rfl, h3, atI_nat (j := 1) rfl, _, _, rfl, rfl, den_ne x, ?_⟩
        rw [e2]
        refine ⟨_, _, rfl, rfl, _, rfl, ite2 (fun z => ?_) (fun z => ?_)⟩
        · have z1 : 0 < qr x := of_decide_eq_true z
          refine ⟨_, rfl, _, _, rfl, rfl, sz60 (show (clkN x r 3).length + 1 ≤ 1000 by omega), ?_⟩
          refine ⟨_, rfl, _, _, _, _, rfl, rfl, h3, atI_nat (j := 0) rfl, _, rfl, _, _, _, _, rfl, rfl, h3, atI_nat (j := 1) rfl, _, _, rfl, rfl, den_ne x, ?_⟩
          rw [e2]
          refine ⟨_, rfl, lg gr.1 gr.2, _, _, rfl, rfl, sz60 (by rw [slen]; show (clkN x r 3).length + 1 + (sI (qr x)).length ≤ 1000; omega), ?_⟩
          refine ⟨_, _, rfl, rfl, sz60 (by rw [slen, slen]; show (clkN x r 3).length + 1 + (sI (qr x)).length + 1 ≤ 1000; omega), ?_⟩
          refine ⟨_, rfl, _, _, _, _, rfl, rfl, h3, atI_nat (j := 1) rfl, _, rfl, lg (show 0 ≤ (x.den : Int) by omega) bd2.den, _, _, rfl, rfl, sz60 (by rw [slen, slen, slen]; show (clkN x r 3).length + 1 + (sI (qr x)).length + 1 + (sI (x.den : Int)).length ≤ 1000; omega), rfl, ?_⟩
          show ([some (.ref a), some (.int r), some (.int (qw x)), some (.ref n), some (.str ((((clkN x r 3 ++ (" " : Str)) ++ sI (qr x)) ++ ("/" : Str)) ++ sI (x.den : Int))), o] : List (Option V)) = _
          rw [sapp, sapp, sapp]
          unfold rs
          rw [if_neg (by omega)]
        · have z1 : qr x = 0 := by
            have : ¬ (0 < qr x) := fun y => z (decide_eq_true y)
            omega
          refine ⟨rfl, ?_⟩
          unfold rs
          rw [if_pos z1, sapp_nil]
          rfl
      · obtain ⟨rfl, rfl⟩ := hM
        exact ⟨_, rfl, q2⟩
def spRate (K : PySem.W.Frag) : Sp := fun vs H Q _ => ∃ (b l : Addr), vs = [.ref b] ∧ Bx H b l ∧ ∀ H' (r : Int), Same (hid b l H) (hid b l H') → Bx H' b l → 0 < r → r ≤ 120 → Q (.int r) H'
theorem cl_Lrate (T : Txt K mg) : Cl P w K mg base CX0 2 "_law_rate" (spRate K) := by
  have c_Ltake := cl_Ltake (P := P) (w := w) (base := base) T
  refine T.d_Lrate.cl sc_Lrate (fun vs H Q E h => ?_) (fun f cdv A outer s H vs Q E hr h => ?_)
  · obtain ⟨b, l, rfl, _⟩ := h
    rfl
  · obtain ⟨b, l, rfl, B, q⟩ := h
    refine ⟨_, (pss_one (ps_ret (pe_ix ix_list (pe_lst (pa_cons pe_int (pa_cons pe_int (pa_cons pe_int (pa_cons (pe_op op_add pe_int (pe_cl c_Ltake hr (by decide) (by rfl) (pa_cons (pv 0) (pa_cons pe_int pa_nil)))) pa_nil))))) (pe_cl c_Ltake hr (by decide) (by rfl) (pa_cons (pv 0) (pa_cons pe_int pa_nil))) (fun _ _ => rfl)))), ?_⟩
    refine ⟨_, rfl, _, l, _, rfl, B, by decide, by decide, fun H1 r1 s1 B1 a1 b1 => ?_⟩
    refine ⟨_, _, rfl, rfl, (show 4 ≤ sizeLine by decide), fun p hp => ?_⟩
    have s2 := Same.new (o := .lst [.int 24, .int 25, .int 30, .int (1 + r1)]) hp
    have B2 := B1.mono s2
    have hP : hid b l (upd H1 p (.lst [.int 24, .int 25, .int 30, .int (1 + r1)])) p = some (.lst [.int 24, .int 25, .int 30, .int (1 + r1)]) := hid_at B1 hp
    refine ⟨_, rfl, _, l, _, rfl, B2, by decide, by decide, fun H3 r3 s3 B3 a3 b3 => ?_⟩
    have hP3 : SqL K H3 p [.int 24, .int 25, .int 30, .int (1 + r1)] := .inl (.inl (hid_same _ _ (s3 _ _ hP)))
    have sA := (s1.trans (Same.hid s2)).trans s3
    obtain e | e | e | e : r3 = 0 ∨ r3 = 1 ∨ r3 = 2 ∨ r3 = 3 := by omega
    · subst e
      exact ⟨_, _, _, _, rfl, rfl, hP3, atI_nat (j := 0) rfl, q _ _ sA B3 (by decide) (by decide)⟩
    · subst e
      exact ⟨_, _, _, _, rfl, rfl, hP3, atI_nat (j := 1) rfl, q _ _ sA B3 (by decide) (by decide)⟩
    · subst e
      exact ⟨_, _, _, _, rfl, rfl, hP3, atI_nat (j := 2) rfl, q _ _ sA B3 (by decide) (by decide)⟩
    · subst e
      exact ⟨_, _, _, _, rfl, rfl, hP3, atI_nat (j := 3) rfl, q _ _ sA B3 (by omega) (by omega)⟩
def spAnyTime (K : PySem.W.Frag) : Sp := fun vs H Q _ => ∃ (b l : Addr), vs = [.ref b] ∧ Bx H b l ∧ ∀ H' v (x : Rat), Same (hid b l H) (hid b l H') → Bx H' b l → Dp K H' v (dF x) → Bd 1000000 x → Q v H'
theorem bd_fr {t b n : Int} (t0 : 0 ≤ t) (t1 : t < n) (b0 : 0 < b) (b1 : b < n) : Bd n (Rat.divInt t b) := by
  have hne : b ≠ 0 := by omega
  have h1 := divInt_num_le t b
  have h2 := divInt_den_le (t := t) hne
  refine ⟨?_, by omega, by omega⟩
  rw [← fr_num hne]
  unfold frI
  rw [if_neg (by omega), Int.fdiv_eq_ediv_of_nonneg _ (by omega)]
  exact Int.ediv_nonneg t0 (by omega)
theorem cl_Lany_time (T : Txt K mg) : Cl P w K mg base CX0 2 "_law_any_time" (spAnyTime K) := by
  have c_Ltake := cl_Ltake (P := P) (w := w) (base := base) T
  have c_Lfr := cl_Lfr (P := P) (w := w) (base := base) T
  refine T.d_Lany_time.cl sc_Lany_time (fun vs H Q E h => ?_) (fun f cdv A outer s H vs Q E hr h => ?_)
  · obtain ⟨b, l, rfl, _⟩ := h
    rfl
  · obtain ⟨b, l, rfl, B, q⟩ := h
    refine ⟨_, (pss_cons (ps_set (i := 1) sc_Lany_time.nd rfl (.inl rfl) (pe_cl c_Ltake hr (by decide) (by rfl) (pa_cons (pv 0) (pa_cons pe_int pa_nil))))
      (Evl.pss_cut (ps_if (pt_cmpR op_eq (pe_cl c_Ltake hr (by decide) (by rfl) (pa_cons (pv 0) (pa_cons pe_int pa_nil))) pe_int (nomark _))
        (pss_one (ps_set (i := 1) sc_Lany_time.nd rfl (.inl rfl) (pe_cl c_Ltake hr (by decide) (by rfl) (pa_cons (pv 0) (pa_cons pe_int pa_nil)))))
        pss_nil)
      (pss_one (ps_ret (pe_cl c_Lfr hr (by decide) (by rfl) (pa_cons (pv 1) (pa_cons (pe_ix ix_list (pe_lst (pa_cons pe_int (pa_cons (pe_op op_add pe_int (pe_cl c_Ltake hr (by decide) (by rfl) (pa_cons (pv 0) (pa_cons pe_int pa_nil)))) (pa_cons (pe_op op_add pe_int (pe_cl c_Ltake hr (by decide) (by rfl) (pa_cons (pv 0) (pa_cons pe_int pa_nil)))) pa_nil)))) (pe_cl c_Ltake hr (by decide) (by rfl) (pa_cons (pv 0) (pa_cons pe_int pa_nil))) (fun _ _ => rfl)) pa_nil))))))), ?_⟩
    refine ⟨_, rfl, _, l, _, rfl, B, by decide, by decide, fun H1 r1 s1 B1 a1 b1 => ?_⟩
    refine ⟨fun σ' H' => ∃ t : Int, σ' = [some (.ref b), some (.int t)] ∧ Same (hid b l H) (hid b l H') ∧ Bx H' b l ∧ 0 ≤ t ∧ t < 1000000, ?_, fun σ' H' hM => ?_⟩
    · refine ⟨_, rfl, _, l, _, rfl, B1, by decide, by decide, fun H2 r2 s2 B2 a2 b2 => ?_⟩
      refine ⟨rfl, _, rfl, ite2 (fun z => ?_) (fun z => ?_)⟩
      · refine ⟨_, rfl, _, l, _, rfl, B2, by decide, by decide, fun H3 r3 s3 B3 a3 b3 => ?_⟩
        exact ⟨r3, rfl, (s1.trans s2).trans s3, B3, a3, by omega⟩
      · exact ⟨r1, rfl, s1.trans s2, B2, a1, b1⟩
    · obtain ⟨t, rfl, s2, B2, t0, t1⟩ := hM
      refine ⟨_, rfl, _, rfl, _, l, _, rfl, B2, by decide, by decide, fun H3 r3 s3 B3 a3 b3 => ?_⟩
      refine ⟨_, _, rfl, rfl, _, rfl, _, l, _, rfl, B3, by decide, by decide, fun H4 r4 s4 B4 a4 b4 => ?_⟩
      refine ⟨_, _, rfl, rfl, (show 3 ≤ sizeLine by decide), fun p hp => ?_⟩
      have s5 := Same.new (o := .lst [.int 1, .int (1 + r3), .int (1 + r4)]) hp
      have B5 := B4.mono s5
      have hP : hid b l (upd H4 p (.lst [.int 1, .int (1 + r3), .int (1 + r4)])) p = some (.lst [.int 1, .int (1 + r3), .int (1 + r4)]) := hid_at B4 hp
      refine ⟨_, rfl, _, l, _, rfl, B5, by decide, by decide, fun H6 r6 s6 B6 a6 b6 => ?_⟩
      have hP3 : SqL K H6 p [.int 1, .int (1 + r3), .int (1 + r4)] := .inl (.inl (hid_same _ _ (s6 _ _ hP)))
      have sA := (((s2.trans s3).trans s4).trans (Same.hid s5)).trans s6
      have fin : ∀ bt : Int, 0 < bt → bt < 1000000 → spMade K [.int t, .int bt] H6 Q E0 := fun bt b0 b1 =>
        ⟨t, bt, rfl, by omega, p20 (by omega), fun H7 v s7 d7 => q _ v _ (sA.trans (Same.hid s7)) (B6.mono s7) d7 (bd_fr t0 t1 b0 b1)⟩
      obtain e | e | e : r6 = 0 ∨ r6 = 1 ∨ r6 = 2 := by omega
      · subst e
        exact ⟨_, _, _, _, rfl, rfl, hP3, atI_nat (j := 0) rfl, fin _ (by decide) (by decide)⟩
      · subst e
        exact ⟨_, _, _, _, rfl, rfl, hP3, atI_nat (j := 1) rfl, fin _ (by omega) (by omega)⟩
      · subst e
        exact ⟨_, _, _, _, rfl, rfl, hP3, atI_nat (j := 2) rfl, fin _ (by omega) (by omega)⟩
theorem tabG_draw {P b l : Addr} {H H' : Hp} (t : GxR.TabG H P) (B : Bx H b l) (s : Same (hid b l H) (hid b l H')) : GxR.TabG H' P := by
  obtain ⟨ps, h, q⟩ := t
  obtain ⟨ys, st, h1, h2⟩ := B.ex
  refine ⟨ps, hid_same _ _ (s _ _ ?_), q⟩
  unfold hid
  rw [if_neg, h]
  rintro (e | e)
  · rw [e, h1] at h
    cases h
  · rw [e, h2] at h
    cases h
theorem mem_snoc {α : Type} {P : α → Prop} {xs : List α} {x : α} (h : ∀ s ∈ xs, P s) (hx : P x) : ∀ s ∈ xs ++ [x], P s := by
  intro s hs
  rcases List.mem_append.mp hs with h1 | h1
  · exact h s h1
  · rw [List.mem_singleton.mp h1]
    exact hx
theorem hid_upd {b l r : Addr} {H : Hp} {o : HO} {ys : List V} (h : hid b l H r = some (.lst ys)) : hid b l (upd H r o) r = some o ∧ ∀ G, (∀ a x, a ≠ r → hid b l G a = some x → hid b l H a = some x) → G r = none → Same (hid b l G) (hid b l (upd H r o)) := by
  have hr : ¬ (r = b ∨ r = l) := fun z => by
    unfold hid at h
    rw [if_pos z] at h
    cases h
  refine ⟨by unfold hid; rw [if_neg hr, upd_same], fun G k hG a x ha => ?_⟩
  have har : a ≠ r := fun e => by
    unfold hid at ha
    rw [e, if_neg hr, hG] at ha
    cases ha
  have := k a x har ha
  unfold hid at this ⊢
  split
  · rename_i z
    rw [if_pos z] at this
    cases this
  · rename_i z
    rw [if_neg z] at this
    rw [upd_ne har]
    exact this
theorem bx_upd {b l r : Addr} {H : Hp} {o : HO} {ys : List V} (B : Bx H b l) (h : hid b l H r = some (.lst ys)) : Bx (upd H r o) b l := by
  have hr : ¬ (r = b ∨ r = l) := fun z => by
    unfold hid at h
    rw [if_pos z] at h
    cases h
  obtain ⟨xs, st, h1, h2⟩ := B.ex
  exact ⟨B.ne, xs, st, by rw [upd_ne (fun e => hr (.inl e.symm))]; exact h1, by rw [upd_ne (fun e => hr (.inr e.symm))]; exact h2⟩
theorem cut_to (z : Str) (j : Nat) : (cutS z none (some (j : Int))).length ≤ min j z.length := by
  show (((z.cps.toList.drop (HT.sIx z.length 0 none)).take (HT.sIx z.length z.length (some (j : Int)) - HT.sIx z.length 0 none)).toArray).size ≤ _
  rw [HT.sIx_none, HT.sIx_nat, List.size_toArray, List.length_take, List.length_drop]
  omega
theorem cut_from (z : Str) (j : Nat) : (cutS z (some (j : Int)) none).length ≤ z.length - min j z.length := by
  show (((z.cps.toList.drop (HT.sIx z.length 0 (some (j : Int)))).take (HT.sIx z.length z.length none - HT.sIx z.length 0 (some (j : Int)))).toArray).size ≤ _
  rw [HT.sIx_none, HT.sIx_nat, List.size_toArray, List.length_take, List.length_drop]
  omega
theorem join_len : ∀ ys : List Str, (∀ y ∈ ys, y.length = 1) → (Str.join "" ys).length ≤ ys.length
  | [], _ => Nat.le_refl _
  | [x], h => by
    have := h x (List.mem_singleton.mpr rfl)
    show x.length ≤ 1
    omega
  | x :: y :: r, h => by
    have h1 := h x (List.mem_cons_self ..)
    have h2 := join_len (y :: r) (fun z hz => h z (List.mem_cons_of_mem _ hz))
    show ((x ++ ("" : Str)) ++ Str.join "" (y :: r)).length ≤ (y :: r).length + 1
    rw [slen, slen]
    have : ("" : Str).length = 0 := rfl
    omega
theorem sum_ones : ∀ ys : List Str, (∀ y ∈ ys, y.length = 1) → (ys.map (·.length)).sum = ys.length
  | [], _ => rfl
  | x :: r, h => by
    have h1 := h x (List.mem_cons_self ..)
    have h2 := sum_ones r (fun z hz => h z (List.mem_cons_of_mem _ hz))
    rw [List.map_cons, List.sum_cons, h2, h1]
    show 1 + r.length = r.length + 1
    omega
theorem frames_len {q : Rat} (h : Bd (10 ^ 30) q) : (framesT q).length ≤ 900 := by
  have := mix_len h
  unfold framesT
  rw [slen]
  show _ + 1 ≤ 900
  omega
theorem seconds_len {q : Rat} {r : Int} (h : Bd (10 ^ 30) (q / (r : Rat))) : (secondsT q r).length ≤ 900 := by
  have := mix_len h
  unfold secondsT
  rw [slen]
  show _ + 1 ≤ 900
  omega
theorem clock_len {q : Rat} {r : Int} (h : Bd (10 ^ 27) q) (r0 : 0 < r) (r1 : r ≤ 120) : (clockT q r).length ≤ 900 := by
  have g := qw_rg h
  have b2 : Bd (10 ^ 30) q := h.mono (by decide)
  have gr := qr_rg b2
  have hwn : 0 ≤ qw q / r := Int.ediv_nonneg g.1 (by omega)
  have hwl : qw q / r ≤ qw q := Int.ediv_le_self _ g.1
  have hm0 : 0 ≤ qw q % r := Int.emod_nonneg _ (by omega)
  have hm1 : qw q % r < r := Int.emod_lt_of_pos _ r0
  have l1 := sI_len (i := qw q / r / 3600) (by omega) (by omega)
  have l2 := pad2_len (i := qw q / r / 60 % 60) (by omega) (by omega)
  have l3 := pad2_len (i := qw q / r % 60) (by omega) (by omega)
  have l4 := pad2_len (i := qw q % r) (by omega) (by omega)
  have l5 := rs_len gr.1 gr.2 (show 0 ≤ (q.den : Int) by omega) b2.den
  unfold clockT
  simp only [slen]
  have : (":" : Str).length = 1 := rfl
  omega
theorem text_any {q : Rat} {r : Int} (h : Bd (10 ^ 27) q) (r0 : 0 < r) (r1 : r ≤ 120) {i : Nat} (hi : i < 3) : ∃ t : Str, [V.str (framesT q), .str (secondsT q r), .str (clockT q r)][i]? = some (.str t) ∧ t.length ≤ 900 := by
  have f2 := frames_len (h.mono (show (10 : Int) ^ 27 ≤ 10 ^ 30 by decide))
  have g2 := seconds_len (bd_rate h r0 r1)
  have k2 := clock_len h r0 r1
  generalize framesT q = t1 at f2 ⊢
  generalize secondsT q r = t2 at g2 ⊢
  generalize clockT q r = t3 at k2 ⊢
  match i, hi with
  | 0, _ => exact ⟨t1, rfl, f2⟩
  | 1, _ => exact ⟨t2, rfl, g2⟩
  | 2, _ => exact ⟨t3, rfl, k2⟩
def spSpoilt : Sp := fun vs H Q _ => ∃ (b l : Addr) (x : Str), vs = [.ref b, .str x] ∧ Bx H b l ∧ x.length ≤ 900 ∧ ∀ H' (y : Str), Same (hid b l H) (hid b l H') → Bx H' b l → y.length ≤ 1000 → Q (.str y) H'
theorem sgn_at {xs : List Nat} {r : Int} (h0 : 0 ≤ r) (h1 : r < (xs.length : Int)) : ∃ c, atI xs r = some c := by
  obtain ⟨n, rfl⟩ : ∃ n : Nat, r = (n : Int) := ⟨r.toNat, by omega⟩
  exact ⟨_, atI_nat (List.getElem?_eq_getElem (show n < xs.length by omega))⟩
theorem cl_Lspoilt (T : Txt K mg) : Cl P w K mg base CX0 2 "_law_spoilt" spSpoilt := by
  have c_Ltake := cl_Ltake (P := P) (w := w) (base := base) T
  refine T.d_Lspoilt.cl sc_Lspoilt (fun vs H Q E h => ?_) (fun f cdv A outer s H vs Q E hr h => ?_)
  · obtain ⟨b, l, x, rfl, _⟩ := h
    rfl
  · obtain ⟨b, l, x, rfl, B, hx, q⟩ := h
    refine ⟨_, (pss_cons (ps_for PassesOwn.never rfl (pi_range1 (by rfl) T.m_range (pa_cons (pe_op op_add pe_int (pe_cl c_Ltake hr (by decide) (by rfl) (pa_cons (pv 0) (pa_cons pe_int pa_nil)))) pa_nil)) (pg_name (i := 2) sc_Lspoilt.nd rfl (.inl rfl))
        (pss_cons (ps_set (i := 3) sc_Lspoilt.nd rfl (.inl rfl) (pe_cl c_Ltake hr (by decide) (by rfl) (pa_cons (pv 0) (pa_cons (pe_op op_add (pe_callB call_len_str (by rfl) T.m_len (by decide +kernel) (pa_cons (pv 1) pa_nil)) pe_int) pa_nil))))
      (pss_cons (ps_set (i := 4) sc_Lspoilt.nd rfl (.inl rfl) (pe_ix ix_str pe_str (pe_cl c_Ltake hr (by decide) (by rfl) (pa_cons (pv 0) (pa_cons pe_int pa_nil))) (fun _ _ => rfl)))
      (pss_cons (ps_set (i := 5) sc_Lspoilt.nd rfl (.inl rfl) (pe_cl c_Ltake hr (by decide) (by rfl) (pa_cons (pv 0) (pa_cons pe_int pa_nil))))
      (pss_one (ps_set (i := 1) sc_Lspoilt.nd rfl (.inl rfl) (pe_op op_add_str (pe_op op_add_str (pe_slice sl_str (pv 1) po_none (po_some (pv 3))) (pe_ix ix_list (pe_lst (pa_cons pe_str (pa_cons (pv 4) (pa_cons (pv 4) pa_nil)))) (pv 5) (fun _ _ => rfl))) (pe_slice sl_str (pv 1) (po_some (pe_op op_add (pv 3) (pe_ix ix_list (pe_lst (pa_cons pe_int (pa_cons pe_int (pa_cons pe_int pa_nil)))) (pv 5) (fun _ _ => rfl)))) po_none))))))))
      (pss_one (ps_ret (pv 1)))), ?_⟩
    refine ⟨_, rfl, b, l, _, rfl, B, by decide, by decide, fun H1 n s1 B1 n0 n1 => ?_⟩
    refine ⟨_, _, rfl, rfl, 1 + n, rfl, by omega, by omega, for_range (lo := 0) (n := (1 + n).toNat) (fun i σ H' => ∃ (t : Str) (c2 c3 c4 c5 : Option V), σ = [some (.ref b), some (.str t), c2, c3, c4, c5] ∧ Same (hid b l H) (hid b l H') ∧ Bx H' b l ∧ t.length ≤ 900 + i) ⟨x, none, none, none, none, rfl, s1, B1, hx⟩ (fun i σ H' hi h => ?_) (fun σ H' h => ?_)⟩
    · obtain ⟨t, c2, c3, c4, c5, rfl, s2, B2, lt⟩ := h
      have hi3 : i ≤ 2 := by omega
      have lz : t.length ≤ sizeLine := le1000 (by omega)
      refine ⟨_, rfl, _, rfl, t, rfl, lz, _, _, rfl, rfl, b, l, _, rfl, B2, by omega, by omega, fun H3 at' s3 B3 a0 a1 => ?_⟩
      refine ⟨_, rfl, b, l, _, rfl, B3, by decide, by decide, fun H4 sg s4 B4 g0 g1 => ?_⟩
      obtain ⟨c, hc⟩ := sgn_at (xs := ("0123459 /:fs-+.x" : Str).cps.toList) g0 g1
      refine ⟨_, _, c, rfl, rfl, (show 16 ≤ sizeLine by decide), hc, ?_⟩
      refine ⟨_, rfl, b, l, _, rfl, B4, by decide, by decide, fun H5 cu s5 B5 u0 u1 => ?_⟩
      have sA := ((s2.trans s3).trans s4).trans s5
      obtain ⟨an, rfl⟩ : ∃ an : Nat, at' = (an : Int) := ⟨at'.toNat, by omega⟩
      obtain ⟨cn, rfl⟩ : ∃ cn : Nat, cu = (cn : Int) := ⟨cu.toNat, by omega⟩
      obtain ⟨wd, hw, lw⟩ : ∃ wd : Str, [V.str "", .str ⟨#[c]⟩, .str ⟨#[c]⟩][cn]? = some (.str wd) ∧ wd.length ≤ 1 := by
        match cn, u1 with
        | 0, _ => exact ⟨_, rfl, Nat.zero_le _⟩
        | 1, _ => exact ⟨_, rfl, Nat.le_refl _⟩
        | 2, _ => exact ⟨_, rfl, Nat.le_refl _⟩
        | k + 3, h => omega
      obtain ⟨dn, hd⟩ : ∃ dn : Nat, [V.int 1, .int 0, .int 1][cn]? = some (.int (dn : Int)) := by
        match cn, u1 with
        | 0, _ => exact ⟨1, rfl⟩
        | 1, _ => exact ⟨0, rfl⟩
        | 2, _ => exact ⟨1, rfl⟩
        | k + 3, h => omega
      have k1 := cut_to t an
      have k2 := cut_from t (an + dn)
      refine ⟨_, rfl, _, rfl, _, rfl, _, rfl, lz, _, rfl, _, rfl, (show 3 ≤ sizeLine by decide), fun p hp => ?_⟩
      have t6 := Same.new (o := .lst [.str "", .str ⟨#[c]⟩, .str ⟨#[c]⟩]) hp
      have hP : SqL K (upd H5 p (.lst [.str "", .str ⟨#[c]⟩, .str ⟨#[c]⟩])) p [.str "", .str ⟨#[c]⟩, .str ⟨#[c]⟩] := .inl (.inl upd_same)
      have B6 := B5.mono t6
      generalize upd H5 p (.lst [.str "", .str ⟨#[c]⟩, .str ⟨#[c]⟩]) = H6 at t6 hP B6 ⊢
      refine ⟨_, rfl, _, _, _, _, rfl, rfl, hP, atI_nat (j := cn) hw, _, _, rfl, rfl, le1000 (by omega), ?_⟩
      refine ⟨_, rfl, _, rfl, (show 3 ≤ sizeLine by decide), fun p2 hp2 => ?_⟩
      have t7 := Same.new (o := .lst [.int 1, .int 0, .int 1]) hp2
      have hP2 : SqL K (upd H6 p2 (.lst [.int 1, .int 0, .int 1])) p2 [.int 1, .int 0, .int 1] := .inl (.inl upd_same)
      have B7 := B6.mono t7
      generalize upd H6 p2 (.lst [.int 1, .int 0, .int 1]) = H7 at t7 hP2 B7 ⊢
      have l1 : (cutS t none (some (an : Int)) ++ wd).length ≤ min an t.length + 1 := by
        rw [slen]
        omega
      refine ⟨_, rfl, _, _, _, _, rfl, rfl, hP2, atI_nat (j := cn) hd, _, _, rfl, rfl, _, rfl, _, rfl, lz, _, _, rfl, rfl, le1000 (show (cutS t none (some (an : Int)) ++ wd).length + (cutS t (some ((an + dn : Nat) : Int)) none).length ≤ 1000 by omega), ?_⟩
      refine ⟨_, _, _, _, _, rfl, sA.trans (Same.hid (t6.trans t7)), B7, ?_⟩
      rw [slen]
      show (cutS t none (some (an : Int)) ++ wd).length + (cutS t (some ((an + dn : Nat) : Int)) none).length ≤ 900 + (i + 1)
      omega
    · obtain ⟨t, c2, c3, c4, c5, rfl, s2, B2, lt⟩ := h
      exact ⟨_, rfl, q _ _ s2 B2 (by omega)⟩
def spTextOf : Sp := fun vs H Q _ => ∃ (b l : Addr) (r : Int), vs = [.ref b, .int r] ∧ Bx H b l ∧ 0 < r ∧ r ≤ 120 ∧ ∀ H' (y : Str), Same (hid b l H) (hid b l H') → Bx H' b l → y.length ≤ 1000 → Q (.str y) H'
theorem cl_Ltext_of (T : Txt K mg) : Cl P w K mg base CX0 3 "_law_text_of" spTextOf := by
  have c_Ltake := cl_Ltake (P := P) (w := w) (base := base) T
  have c_Lany_time := cl_Lany_time (P := P) (w := w) (base := base) T
  have c_Lframes_text := cl_Lframes_text (P := P) (w := w) (base := base) T
  have c_Lseconds_text := cl_Lseconds_text (P := P) (w := w) (base := base) T
  have c_Lclock_text := cl_Lclock_text (P := P) (w := w) (base := base) T
  have c_Lspoilt := cl_Lspoilt (P := P) (w := w) (base := base) T
  refine T.d_Ltext_of.cl sc_Ltext_of (fun vs H Q E h => ?_) (fun f cdv A outer s H vs Q E hr h => ?_)
  · obtain ⟨b, l, r, rfl, _⟩ := h
    rfl
  · obtain ⟨b, l, r, rfl, B, r0, r1, q⟩ := h
    refine ⟨_, (pss_cons (ps_if (pt_cmpR op_eq (pe_cl c_Ltake hr (by decide) (by rfl) (pa_cons (pv 0) (pa_cons pe_int pa_nil))) pe_int (nomark _))
        (pss_one (ps_ret (pe_join pe_str (pe_lc (own := [("_law_k", 5)]) (g := gName 5) (tt := tYes) (by rfl) sc_Ltext_of.nd (pi_range1 (by rfl) T.m_range (pa_cons (pe_cl c_Ltake hr (by decide) (by rfl) (pa_cons (pv 0) (pa_cons pe_int pa_nil))) pa_nil)) (blkOk_by (N := ["_law_box", "_law_rate_here", "_law_time", "_law_texts", "_law_text", "_law_k"]) (sc := defScope s_Ltext_of) (by decide +kernel)) (fun _ _ _ _ _ => pg_name (i := 5) sc_Ltext_of.nd rfl (Or.inl rfl)) (fun _ _ _ _ _ => pts_nil) (fun _ _ _ _ _ => (pe_ix ix_str pe_str (pe_cl c_Ltake hr (by decide) (by rfl) (pa_cons (pv 0) (pa_cons pe_int pa_nil))) (fun _ _ => rfl)))))))
        pss_nil)
      (pss_cons (ps_set (i := 2) sc_Ltext_of.nd rfl (.inl rfl) (pe_cl c_Lany_time hr (by decide) (by rfl) (pa_cons (pv 0) pa_nil)))
      (pss_cons (ps_set (i := 3) sc_Ltext_of.nd rfl (.inl rfl) (pe_lst (pa_cons (pe_cl c_Lframes_text hr (by decide) (by rfl) (pa_cons (pv 2) pa_nil)) (pa_cons (pe_cl c_Lseconds_text hr (by decide) (by rfl) (pa_cons (pv 2) (pa_cons (pv 1) pa_nil))) (pa_cons (pe_cl c_Lclock_text hr (by decide) (by rfl) (pa_cons (pv 2) (pa_cons (pv 1) pa_nil))) pa_nil)))))
      (pss_cons (ps_set (i := 4) sc_Ltext_of.nd rfl (.inl rfl) (pe_ix ix_list (pv 3) (pe_cl c_Ltake hr (by decide) (by rfl) (pa_cons (pv 0) (pa_cons pe_int pa_nil))) (fun _ _ => rfl)))
      (pss_cons (ps_if (pt_cmpR op_eq (pe_cl c_Ltake hr (by decide) (by rfl) (pa_cons (pv 0) (pa_cons pe_int pa_nil))) pe_int (nomark _))
        (pss_one (ps_ret (pv 4)))
        pss_nil)
      (pss_one (ps_ret (pe_cl c_Lspoilt hr (by decide) (by rfl) (pa_cons (pv 0) (pa_cons (pv 4) pa_nil)))))))))), ?_⟩
    refine ⟨_, rfl, b, l, _, rfl, B, by decide, by decide, fun H1 k s1 B1 k0 k1 => ?_⟩
    refine ⟨rfl, _, rfl, ite2 (fun z => ?_) (fun z => ?_)⟩
    · refine ⟨⟨_, rfl⟩, _, rfl, b, l, _, rfl, B1, by decide, by decide, fun H2 n s2 B2 n0 n1 => ?_⟩
      refine ⟨n, rfl, by omega, by omega, fun D hD => ?_⟩
      refine lc_range (lo := 0) (n := n.toNat) (fun i H' => Same (hid b l H2) (hid b l H') ∧ Bx H' b l ∧ ∃ ys : List Str, hid b l H' D = some (.lst (ys.map V.str)) ∧ ys.length = i ∧ ∀ y ∈ ys, y.length = 1) ⟨Same.hid (Same.new hD), B2.mono (Same.new hD), [], hid_at B2 hD, rfl, fun y hy => by cases hy⟩ (fun i H' hi h => ?_) (fun H' h => ?_)
      · obtain ⟨s3, B3, ys, hz, ly, oy⟩ := h
        refine ⟨rfl, ?_⟩
        refine ⟨_, rfl, b, l, _, rfl, B3, by decide, by decide, fun H4 sg s4 B4 g0 g1 => ?_⟩
        obtain ⟨c, hc⟩ := sgn_at (xs := ("0123 /:fs5" : Str).cps.toList) g0 g1
        have hz4 := s4 _ _ hz
        refine ⟨_, _, c, rfl, rfl, (show 10 ≤ sizeLine by decide), hc, _, hid_same _ _ hz4, le1000 (by rw [List.length_map]; omega), ?_⟩
        refine ⟨(hid_upd hz4).2 H2 (fun a x _ ha => s4 _ _ (s3 _ _ ha)) hD, bx_upd B4 hz4, ys ++ [⟨#[c]⟩], ?_, ?_, mem_snoc oy rfl⟩
        · rw [List.map_append]
          exact (hid_upd hz4).1
        · rw [List.length_append, ly]
          rfl
      · obtain ⟨s3, B3, ys, hz, ly, oy⟩ := h
        refine ⟨_, D, ys, rfl, rfl, .inl (.inl (.inl (hid_same _ _ hz))), ?_, q _ _ ((s1.trans s2).trans s3) B3 ?_⟩
        · rw [sum_ones ys oy]
          show ys.length + ys.length * 0 ≤ 16777216
          omega
        · have := join_len ys oy
          rw [TL.join_eq]
          show (Str.join "" ys).length ≤ 1000
          omega
    · refine ⟨_, rfl, b, l, rfl, B1, fun H2 v x s2 B2 d2 bd => ?_⟩
      have b30 : Bd (10 ^ 30) x := bd.mono (by decide)
      have b27 : Bd (10 ^ 27) x := bd.mono (by decide)
      refine ⟨_, rfl, _, x, rfl, d2, b30, _, rfl, _, rfl, _, x, r, rfl, d2, b27, r0, r1, fun H3 s3 => ?_⟩
      have d3 := dp_mono s3 _ _ d2
      have B3 := B2.mono s3
      refine ⟨_, rfl, _, rfl, _, x, r, rfl, d3, b27, r0, r1, fun H4 s4 => ?_⟩
      have B4 := B3.mono s4
      refine ⟨(show 3 ≤ sizeLine by decide), fun p hp => ?_⟩
      have s5 := Same.new (o := .lst [.str (framesT x), .str (secondsT x r), .str (clockT x r)]) hp
      have hP : hid b l (upd H4 p (.lst [.str (framesT x), .str (secondsT x r), .str (clockT x r)])) p = some (.lst [.str (framesT x), .str (secondsT x r), .str (clockT x r)]) := hid_at B4 hp
      have B5 := B4.mono s5
      generalize upd H4 p (.lst [.str (framesT x), .str (secondsT x r), .str (clockT x r)]) = H5 at s5 hP B5 ⊢
      refine ⟨_, rfl, _, rfl, b, l, _, rfl, B5, by decide, by decide, fun H6 j s6 B6 j0 j1 => ?_⟩
      have hP6 : SqL K H6 p [.str (framesT x), .str (secondsT x r), .str (clockT x r)] := .inl (.inl (hid_same _ _ (s6 _ _ hP)))
      obtain ⟨jn, rfl⟩ : ∃ jn : Nat, j = (jn : Int) := ⟨j.toNat, by omega⟩
      obtain ⟨t, ht, lt⟩ := text_any b27 r0 r1 (show jn < 3 by omega)
      refine ⟨_, _, _, _, rfl, rfl, hP6, atI_nat (j := jn) ht, ?_⟩
      refine ⟨_, rfl, b, l, _, rfl, B6, by decide, by decide, fun H7 k7 s7 B7 a7 b7 => ?_⟩
      have sA := (((s1.trans s2).trans (Same.hid ((s3.trans s4).trans s5))).trans s6).trans s7
      refine ⟨rfl, _, rfl, ite2 (fun z => ?_) (fun z => ?_)⟩
      · exact ⟨_, rfl, q _ _ sA B7 (by omega)⟩
      · exact ⟨_, rfl, _, rfl, b, l, t, rfl, B7, lt, fun H8 y s8 B8 ly => q _ _ (sA.trans s8) B8 ly⟩
theorem long_ok (r : Int) : rdTime "123456789f" r = some 123456789 := by
  have e1 : rdMixed (cutS "123456789f" none (some (-1))) = some 123456789 := by decide +kernel
  have e2 : Txt.endswith "123456789f" "f" = true := by decide +kernel
  unfold rdTime
  rw [e2, if_pos rfl, e1]
theorem long_no (r : Int) : rdTime "1234567890f" r = none := by
  have e1 : rdMixed (cutS "1234567890f" none (some (-1))) = none := by decide +kernel
  have e2 : Txt.endswith "1234567890f" "f" = true := by decide +kernel
  unfold rdTime
  rw [e2, if_pos rfl, e1]
def spLong (P0 : Addr) : Sp := fun vs H Q _ => ∃ r : Int, vs = [.int r] ∧ 0 < r ∧ r ≤ 120 ∧ GxR.TabG H P0 ∧ ∀ H', Tb P0 H H' → Q (.bl true) H'
theorem cl_Lis_long (T : Txt K mg) {c P0 C : Addr} (D : Dfc K mg "read_number" s_read_number ["word"] c) (TB : GxR.TabB base mg c P0) (e_BadTime : ExcT K mg "BadTime" C) : Cl P w K mg base CX0 7 "_law_is_long" (spLong P0) := by
  have c_read_time := cl_read_time (P := P) (w := w) (base := base) T D TB e_BadTime
  have c_Lalike := cl_Lalike (P := P) (w := w) (base := base) T 2
  refine T.d_Lis_long.cl sc_Lis_long (fun vs H Q E h => ?_) (fun f cdv A outer s H vs Q E hr h => ?_)
  · obtain ⟨r, rfl, _⟩ := h
    rfl
  · obtain ⟨r, rfl, r0, r1, tb, q⟩ := h
    refine ⟨_, (pss_cons (ps_if (pt_not (pt_val (pe_cl c_Lalike hr (by decide) (by rfl) (pa_cons (pe_clN c_read_time hr (by decide) (by rfl) (pa_cons pe_str (pa_cons (pv 0) pa_nil))) (pa_cons (pe_tup (pa_cons pe_int (pa_cons pe_int pa_nil))) pa_nil)))))
        (pss_one (ps_ret pe_bl))
        pss_nil)
      (pss_one (ps_try_only rfl rfl ⟨rfl, by decide, .inl e_BadTime.g⟩ takes0 (fun W pn xe tk ps => (pss_cons (ps_expr (pe_clS c_read_time hr (by decide) (by rfl) tk (pa_cons pe_str (pa_cons (pv 0) pa_nil))))
      (pss_one (ps_ret pe_bl))))
        (fun ax oe cls dx pn hz hf => (pss_one (ps_ret pe_bl)))))), ?_⟩
    have e1 := long_ok r
    have e2 := long_no r
    refine ⟨_, rfl, _, r, rfl, (show 10 ≤ 1000 by decide), r0, r1, tb, fun y hy H1 z1 t1 d1 => ?_, fun hn => ?_⟩
    · cases e1.symm.trans hy
      refine ⟨(show 2 ≤ sizeLine by decide), fun p hp => ?_⟩
      have s2 := Same.new (o := .tup [.int 123456789, .int 1]) hp
      have t2 := t1.trans (Tb.same t1.1 s2)
      have d2 : Dp K (upd H1 p (.tup [.int 123456789, .int 1])) (.ref p) (dF 123456789) := dF_mk (.inl (.inl upd_same))
      have d1 := dp_mono s2 _ _ d1
      generalize upd H1 p (.tup [.int 123456789, .int 1]) = H2 at t2 d2 d1 ⊢
      refine ⟨_, _, dF 123456789, rfl, d1, d2, (show 1 < 2 by decide), rfl, _, rfl, iteN rfl ?_⟩
      refine ⟨_, rfl, _, r, rfl, (show 11 ≤ 1000 by decide), r0, r1, t2.1, fun y hy => ?_, fun hn H3 t3 => ?_⟩
      · cases e2.symm.trans hy
      · exact ⟨true, e_BadTime.e, fun _ a0 _ => q _ (t2.trans t3), fun z => Bool.noConfusion z⟩
    · cases e1.symm.trans hn
theorem cut_end (x : Str) : tl (cutS x (some (-1)) none) = (tl x).drop ((tl x).length - 1) := by
  show ((((tl x).drop (HT.sIx x.length 0 (some (-1)))).take (HT.sIx x.length x.length none - HT.sIx x.length 0 (some (-1)))).toArray).toList = _
  rw [HT.sIx_none]
  show ((((tl x).drop (((-1 : Int) + (x.length : Int)).toNat)).take (x.length - ((-1 : Int) + (x.length : Int)).toNat)).toArray).toList = _
  rw [len_tl', show ((-1 : Int) + ((tl x).length : Int)).toNat = (tl x).length - 1 by omega]
  show ((tl x).drop ((tl x).length - 1)).take _ = _
  exact List.take_of_length_le (by rw [List.length_drop]; omega)
theorem end_is (x : Str) (c : Nat) : decide (V.str (cutS x (some (-1)) none) = V.str ⟨#[c]⟩) = Txt.endswith x ⟨#[c]⟩ := by
  rw [ends_one, Bool.eq_iff_iff, decide_eq_true_eq]
  have h : V.str (cutS x (some (-1)) none) = V.str ⟨#[c]⟩ ↔ (tl x).drop ((tl x).length - 1) = [c] := by
    constructor
    · intro e
      have := congrArg tl (V.str.inj e)
      rw [cut_end] at this
      exact this
    · intro e
      exact congrArg V.str (str_ext ((cut_end x).trans e))
  rw [h]
  generalize tl x = xs
  rcases List.eq_nil_or_concat xs with e | ⟨pre, a, e⟩
  · rw [e]
    simp
  · rw [e]
    simp
theorem bd_parts {n m k : Int} {q : Rat} (h0 : 0 ≤ q.num) (hw : qw q < n) (hd : (q.den : Int) < m) (hk : n * m ≤ k) (n0 : 0 ≤ n) (m1 : m ≤ k) : Bd k q := by
  have hp := den_pos q
  refine ⟨h0, ?_, by omega⟩
  have h1 := Int.mul_ediv_add_emod q.num (q.den : Int)
  have h2 := Int.emod_lt_of_pos q.num hp
  have h3 : qw q = q.num / (q.den : Int) := rfl
  rw [← h3] at h1
  have w0 : 0 ≤ qw q := by rw [h3]; exact Int.ediv_nonneg h0 (by omega)
  have h4 : (q.den : Int) * (qw q + 1) ≤ m * n := Int.mul_le_mul (by omega) (by omega) (by omega) (by omega)
  have h5 : (q.den : Int) * (qw q + 1) = (q.den : Int) * qw q + (q.den : Int) := by rw [Int.mul_add, Int.mul_one]
  have h6 : m * n = n * m := Int.mul_comm _ _
  omega
theorem bd_times {m : Rat} {r : Int} (h : Bd (10 ^ 18) m) (r0 : 0 < r) (r1 : r ≤ 120) : Bd (10 ^ 27) (m * (r : Rat)) := by
  have e : m * (r : Rat) = Rat.divInt (m.num * r) (m.den : Int) := by
    rw [← mul_parts m (r : Rat)]
    show Rat.divInt (m.num * r) ((m.den : Int) * ((1 : Nat) : Int)) = _
    rw [show ((1 : Nat) : Int) = 1 from rfl, Int.mul_one]
  rw [e]
  have hp := den_pos m
  have h1 := divInt_num_le (m.num * r) (m.den : Int)
  have h2 := divInt_den_le (t := m.num * r) (den_ne m)
  have h3 := h.num
  have h4 := h.den
  have h5 := h.pos
  have h7 : m.num * r ≤ m.num * 120 := Int.mul_le_mul_of_nonneg_left r1 h5
  have h8 : 0 ≤ m.num * r := Int.mul_nonneg h5 (by omega)
  refine ⟨?_, by omega, by omega⟩
  rw [← fr_num (den_ne m)]
  unfold frI
  rw [if_neg (by omega), Int.fdiv_eq_ediv_of_nonneg _ (by omega)]
  exact Int.ediv_nonneg h8 (by omega)
theorem bx_tb {P0 b l : Addr} {H H' : Hp} (t : GxR.TabG H P0) (s : Tb P0 H H') (B : Bx H b l) : Bx H' b l := by
  obtain ⟨xs, st, h1, h2⟩ := B.ex
  exact ⟨B.ne, xs, st, s.at t h1 (fun _ z => nomatch z), s.at t h2 (fun _ z => nomatch z)⟩
theorem read_bd {x : Str} {r : Int} {y : Rat} (r0 : 0 < r) (r1 : r ≤ 120) (h : rdTime x r = some y) : Bd (10 ^ 27) y ∧ (Txt.endswith x "f" = true → framesT y = x) ∧ (Txt.endswith x "f" = false → Txt.endswith x "s" = true → secondsT y r = x) ∧ (Txt.endswith x "f" = false → Txt.endswith x "s" = false → clockT y r = x) := by
  cases hf : Txt.endswith x "f" with
  | true =>
    obtain ⟨e, h0, hw, hd⟩ := frames_of h hf
    exact ⟨bd_parts h0 hw hd (by decide) (by decide) (by decide), fun _ => e.symm, (fun z => nomatch z), (fun z => nomatch z)⟩
  | false =>
    cases hs : Txt.endswith x "s" with
    | true =>
      obtain ⟨m, e1, e2, e3, h0, hw, hd⟩ := seconds_of (by omega) h hf hs
      refine ⟨?_, (fun z => nomatch z), fun _ _ => e3.symm, (fun _ z => nomatch z)⟩
      rw [e1]
      exact bd_times (bd_parts h0 hw hd (by decide) (by decide) (by decide)) r0 r1
    | false =>
      obtain ⟨e, h0, hw, hd⟩ := clock_of r0 r1 h hf hs
      exact ⟨bd_parts h0 hw hd (by decide) (by decide) (by decide), (fun z => nomatch z), (fun _ z => nomatch z), fun _ _ => e.symm⟩
def spLaw (K : PySem.W.Frag) (P0 : Addr) : Sp := fun vs H Q _ => ∃ (a : Addr) (ns : List Int), vs = [.ref a] ∧ SqL K H a (ns.map V.int) ∧ ns.length ≤ 63 ∧ GxR.TabG H P0 ∧ ∀ H', Q (.bl true) H'
theorem ok_law {f : Addr} {fd : FuncData} (F : Fun K "law" "law" s_law f fd) (T : Txt K mg) {c P0 C : Addr} (D : Dfc K mg "read_number" s_read_number ["word"] c) (TB : GxR.TabB base mg c P0) (e_BadTime : ExcT K mg "BadTime" C) : FnOk P w K mg base CX0 8 f fd ["_law_script"] (spLaw K P0) := by
  obtain ⟨CR, e_ReelError⟩ := T.e_ReelError
  obtain ⟨CB, g_BadNote⟩ := T.n_BadNote
  obtain ⟨CO, g_OffReel⟩ := T.n_OffReel
  obtain ⟨CN, g_NoDeed⟩ := T.n_NoDeed
  obtain ⟨CX, g_TooTight⟩ := T.n_TooTight
  have g_BadTime := e_BadTime.g
  have xC := T.x_own C g_BadTime
  have c_Lbegun := cl_Lbegun (P := P) (w := w) (base := base) T
  have c_Lrate := cl_Lrate (P := P) (w := w) (base := base) T
  have c_Ltext_of := cl_Ltext_of (P := P) (w := w) (base := base) T
  have c_Lfr := cl_Lfr (P := P) (w := w) (base := base) T
  have c_read_time := cl_read_time (P := P) (w := w) (base := base) T D TB e_BadTime
  have c_Lis_long := cl_Lis_long (P := P) (w := w) (base := base) T D TB e_BadTime
  have c_Lframes_text := cl_Lframes_text (P := P) (w := w) (base := base) T
  have c_Lseconds_text := cl_Lseconds_text (P := P) (w := w) (base := base) T
  have c_Lclock_text := cl_Lclock_text (P := P) (w := w) (base := base) T
  have c_Lalike := cl_Lalike (P := P) (w := w) (base := base) T 2
  refine F.ok sc_law (fun vs H Q E h => ?_) (fun cdv A outer s H vs Q E hr h => ?_)
  · obtain ⟨a, ns, rfl, _⟩ := h
    rfl
  · obtain ⟨a, ns, rfl, hS, hlen, tb, q⟩ := h
    refine ⟨_, (pss_cons (ps_set (i := 1) sc_law.nd rfl (.inl rfl) (pe_cl c_Lbegun hr (by decide) (by rfl) (pa_cons (pv 0) pa_nil)))
      (pss_cons (ps_set (i := 2) sc_law.nd rfl (.inl rfl) (pe_cl c_Lrate hr (by decide) (by rfl) (pa_cons (pv 1) pa_nil)))
      (pss_cons (ps_if (pt_not (pt_val (pe_cl c_Lis_long hr (by decide) (by rfl) (pa_cons (pv 2) pa_nil))))
        (pss_one (ps_ret pe_bl))
        pss_nil)
      (pss_cons (ps_set (i := 3) sc_law.nd rfl (.inl rfl) (pe_cl c_Ltext_of hr (by decide) (by rfl) (pa_cons (pv 1) (pa_cons (pv 2) pa_nil))))
      (pss_cons (ps_try_as (i := 5) rfl rfl sc_law.nd rfl rfl ⟨rfl, by decide, .inl e_ReelError.g⟩ takes0 (fun W pn xe tk ps => (pss_one (ps_set (i := 4) sc_law.nd rfl (.inl rfl) (pe_clS c_read_time hr (by decide) (by rfl) tk (pa_cons (pv 3) (pa_cons (pv 2) pa_nil))))))
        (fun ax oe cls dx pn hz hf => (pss_cons (ps_set (i := 6) sc_law.nd rfl (.inl rfl) (pe_lst (pa_cons (pe_callB (call_isX xC hz hf) (by rfl) T.m_isinstance (by decide +kernel) (pa_cons (pv 5) (pa_cons (pe_gC (by rfl) g_BadTime) pa_nil))) (pa_cons (pe_callB (call_isX xC hz hf) (by rfl) T.m_isinstance (by decide +kernel) (pa_cons (pv 5) (pa_cons (pe_gC (by rfl) g_BadNote) pa_nil))) (pa_cons (pe_callB (call_isX xC hz hf) (by rfl) T.m_isinstance (by decide +kernel) (pa_cons (pv 5) (pa_cons (pe_gC (by rfl) g_OffReel) pa_nil))) (pa_cons (pe_callB (call_isX xC hz hf) (by rfl) T.m_isinstance (by decide +kernel) (pa_cons (pv 5) (pa_cons (pe_gC (by rfl) g_NoDeed) pa_nil))) pa_nil))))))
      (pss_one (ps_ret (pe_and (pe_cmpR (op_eqDS hr.units) (pe_op op_cat (pv 6) (pe_lst (pa_cons (pe_callB (call_isX xC hz hf) (by rfl) T.m_isinstance (by decide +kernel) (pa_cons (pv 5) (pa_cons (pe_gC (by rfl) g_TooTight) pa_nil))) pa_nil))) (pe_op op_cat (pe_lst (pa_cons pe_bl pa_nil)) (pe_op op_rep (pe_lst (pa_cons pe_bl pa_nil)) pe_int)) (nomark _)) (pe_one (pe_callB (call_isX xC hz hf) (by rfl) T.m_isinstance (by decide +kernel) (pa_cons (pv 5) (pa_cons (pe_bltn (v := .ty "ValueError") (by rfl) T.m_ValueError (by decide +kernel) rfl) pa_nil))))))))))
      (pss_cons (ps_if (PW.pt (pw_or (pt_not (pt_val (pe_callB call_isi (by rfl) T.m_isinstance (by decide +kernel) (pa_cons (pv 4) (pa_cons (pe_bltn (v := .ty "tuple") (by rfl) T.m_tuple (by decide +kernel) rfl) pa_nil))))) (pw_or (pt_cmpR op_ne (pe_callB call_len_seq (by rfl) T.m_len (by decide +kernel) (pa_cons (pv 4) pa_nil)) pe_int (nomark _)) (pw_or1 (pt_not (pt_val (pe_cl c_Lalike hr (by decide) (by rfl) (pa_cons (pv 4) (pa_cons (pe_cl c_Lfr hr (by decide) (by rfl) (pa_cons (pe_ix ix_tup (pv 4) pe_int (fun _ _ => rfl)) (pa_cons (pe_ix ix_tup (pv 4) pe_int (fun _ _ => rfl)) pa_nil))) pa_nil)))))))))
        (pss_one (ps_ret pe_bl))
        pss_nil)
      (pss_cons (ps_if (PW.pt (pw_or (pt_cmpR op_lt (pe_ix ix_tup (pv 4) pe_int (fun _ _ => rfl)) pe_int (nomark _)) (pw_or1 (pt_cmpR op_lt (pe_ix ix_tup (pv 4) pe_int (fun _ _ => rfl)) pe_int (nomark _)))))
        (pss_one (ps_ret pe_bl))
        pss_nil)
      (pss_cons (ps_if (pt_cmpR op_eq (pe_slice sl_str (pv 3) (po_some (pe_un un_neg pe_int)) po_none) pe_str (nomark _))
        (pss_one (ps_ret (pe_cmpR op_eq (pe_cl c_Lframes_text hr (by decide) (by rfl) (pa_cons (pv 4) pa_nil)) (pv 3) (nomark _))))
        pss_nil)
      (pss_cons (ps_if (pt_cmpR op_eq (pe_slice sl_str (pv 3) (po_some (pe_un un_neg pe_int)) po_none) pe_str (nomark _))
        (pss_one (ps_ret (pe_cmpR op_eq (pe_cl c_Lseconds_text hr (by decide) (by rfl) (pa_cons (pv 4) (pa_cons (pv 2) pa_nil))) (pv 3) (nomark _))))
        pss_nil)
      (pss_one (ps_ret (pe_cmpR op_eq (pe_cl c_Lclock_text hr (by decide) (by rfl) (pa_cons (pv 4) (pa_cons (pv 2) pa_nil))) (pv 3) (nomark _))))))))))))), ?_⟩
    refine ⟨_, rfl, a, ns, rfl, hS, fun H1 b l s1 nb nl B1 => ?_⟩
    have tb1 := tabG_same tb s1
    refine ⟨_, rfl, b, l, rfl, B1, fun H2 r s2 B2 r0 r1 => ?_⟩
    have tb2 := tabG_draw tb1 B1 s2
    refine ⟨_, rfl, r, rfl, r0, r1, tb2, fun H3 t3 => ?_⟩
    have B3 := bx_tb tb2 t3 B2
    refine ⟨_, rfl, iteN rfl ?_⟩
    refine ⟨_, rfl, _, rfl, b, l, r, rfl, B3, r0, r1, fun H4 x s4 B4 lx => ?_⟩
    have tb4 := tabG_draw t3.1 B3 s4
    refine ⟨_, rfl, _, rfl, x, r, rfl, lx, r0, r1, tb4, fun y hy H5 z5 t5 d5 => ?_, fun hn H1 t5 => ?_⟩
    · obtain ⟨bd, e1, e2, e3⟩ := read_bd r0 r1 hy
      obtain ⟨p, rfl, h5⟩ := dF_at d5
      refine ⟨_, rfl, _, _, _, _, _, rfl, .ty _, tyT h5, kit_ty (r := true) (by decide +kernel), _, rfl, iteN rfl ?_⟩
      refine ⟨_, rfl, _, _, rfl, .inr h5, rfl, _, rfl, iteN rfl ?_⟩
      refine ⟨_, rfl, _, rfl, _, _, _, _, rfl, rfl, h5, atI_nat (j := 0) rfl, _, rfl, _, _, _, _, rfl, rfl, h5, atI_nat (j := 1) rfl, _, _, rfl, den_ne y, up9 (n := 100) (by have := bd.den; omega) (by decide), fun H6 v6 s6 d6 => ?_⟩
      have d5 := dp_mono s6 _ _ d5
      rw [Rat.num_divInt_den] at d6
      refine ⟨_, _, dF y, rfl, d5, d6, (show 1 < 2 by decide), rfl, _, rfl, iteN rfl ?_⟩
      have h6 : SqT K H6 p [.int y.num, .int (y.den : Int)] := Same.tup s6 h5
      have hp := den_pos y
      have h0 := bd.pos
      refine ⟨_, rfl, _, _, _, _, rfl, rfl, h6, atI_nat (j := 0) rfl, _, _, rfl, rfl, _, rfl, iteN (decide_eq_false (by omega)) ?_⟩
      refine ⟨_, rfl, _, _, _, _, rfl, rfl, h6, atI_nat (j := 1) rfl, _, _, rfl, rfl, _, rfl, iteN (decide_eq_false (by omega)) ?_⟩
      refine ⟨_, rfl, _, rfl, _, rfl, _, rfl, le1000 lx, rfl, _, rfl, ?_⟩
      cases hf : Txt.endswith x "f" with
      | true =>
        refine iteY ((end_is x 102).trans hf) ?_
        refine ⟨_, rfl, _, y, rfl, d5, bd.mono (by decide), _, rfl, rfl, ?_⟩
        rw [decide_eq_true (congrArg V.str (e1 hf))]
        exact q _
      | false =>
        refine iteN ((end_is x 102).trans hf) ?_
        refine ⟨_, rfl, _, rfl, _, rfl, _, rfl, le1000 lx, rfl, _, rfl, ?_⟩
        cases hs : Txt.endswith x "s" with
        | true =>
          refine iteY ((end_is x 115).trans hs) ?_
          refine ⟨_, rfl, _, rfl, _, y, r, rfl, d5, bd, r0, r1, fun H7 s7 => ⟨_, rfl, rfl, ?_⟩⟩
          rw [decide_eq_true (congrArg V.str (e2 hf hs))]
          exact q _
        | false =>
          refine iteN ((end_is x 115).trans hs) ?_
          refine ⟨_, rfl, _, rfl, _, y, r, rfl, d5, bd, r0, r1, fun H7 s7 => ⟨_, rfl, rfl, ?_⟩⟩
          rw [decide_eq_true (congrArg V.str (e3 hf hs))]
          exact q _
    · refine ⟨true, T.x_reel C CR g_BadTime e_ReelError.g, fun _ a0 _ => ?_, fun z => Bool.noConfusion z⟩
      refine ⟨_, rfl, rfl, rfl, _, _, _, rfl, (fun u r => r), T.x_self C g_BadTime, ?_⟩
      refine ⟨_, rfl, rfl, rfl, _, _, _, rfl, (fun u r => r), T.x_note C CB g_BadTime g_BadNote, ?_⟩
      refine ⟨_, rfl, rfl, rfl, _, _, _, rfl, (fun u r => r), T.x_off C CO g_BadTime g_OffReel, ?_⟩
      refine ⟨_, rfl, rfl, rfl, _, _, _, rfl, (fun u r => r), T.x_deed C CN g_BadTime g_NoDeed, ?_⟩
      refine ⟨(show 4 ≤ sizeLine by decide), fun k hk => ?_⟩
      have t1 := Same.new (o := .lst [.bl true, .bl false, .bl false, .bl false]) hk
      have k1 : (upd H1 k (.lst [.bl true, .bl false, .bl false, .bl false])) k = some (.lst [.bl true, .bl false, .bl false, .bl false]) := upd_same
      generalize upd H1 k (.lst [.bl true, .bl false, .bl false, .bl false]) = H2 at t1 k1 ⊢
      refine ⟨_, rfl, _, rfl, rfl, rfl, _, _, _, rfl, (fun u r => r), T.x_tight C CX g_BadTime g_TooTight, ?_⟩
      refine ⟨(show 1 ≤ sizeLine by decide), fun k2 hk2 => ?_⟩
      have t2 := Same.new (o := .lst [.bl false]) hk2
      have k2' : (upd H2 k2 (.lst [.bl false])) k2 = some (.lst [.bl false]) := upd_same
      have k1 := t2 _ _ k1
      generalize upd H2 k2 (.lst [.bl false]) = H3 at t2 k1 k2' ⊢
      refine ⟨_, _, _, _, rfl, rfl, k1, k2', (show 5 ≤ sizeLine by decide), fun k3 hk3 => ?_⟩
      have t3 := Same.new (o := .lst [.bl true, .bl false, .bl false, .bl false, .bl false]) hk3
      have k3' : SqL K (upd H3 k3 (.lst [.bl true, .bl false, .bl false, .bl false, .bl false])) k3 [.bl true, .bl false, .bl false, .bl false, .bl false] := .inl (.inl upd_same)
      change tOp rCat _ _ _ (upd H3 k3 (.lst [.bl true, .bl false, .bl false, .bl false, .bl false])) _
      generalize upd H3 k3 (.lst [.bl true, .bl false, .bl false, .bl false, .bl false]) = H4 at t3 k3' ⊢
      refine ⟨(show 1 ≤ sizeLine by decide), fun k4 hk4 => ?_⟩
      have t4 := Same.new (o := .lst [.bl true]) hk4
      have k4' : (upd H4 k4 (.lst [.bl true])) k4 = some (.lst [.bl true]) := upd_same
      generalize upd H4 k4 (.lst [.bl true]) = H5 at t4 k4' ⊢
      refine ⟨(show 1 ≤ sizeLine by decide), fun k5 hk5 => ?_⟩
      have t5 := Same.new (o := .lst [.bl false]) hk5
      have k5' : (upd H5 k5 (.lst [.bl false])) k5 = some (.lst [.bl false]) := upd_same
      generalize upd H5 k5 (.lst [.bl false]) = H6 at t5 k5' ⊢
      refine ⟨k5, 4, _, rfl, rfl, k5', by decide, by decide, (show 4 ≤ sizeLine by decide), fun k6 hk6 => ?_⟩
      have t6 := Same.new (o := .lst [.bl false, .bl false, .bl false, .bl false]) hk6
      have k6' : (upd H6 k6 (.lst [.bl false, .bl false, .bl false, .bl false])) k6 = some (.lst [.bl false, .bl false, .bl false, .bl false]) := upd_same
      change rCat _ _ (upd H6 k6 (.lst [.bl false, .bl false, .bl false, .bl false])) _
      generalize upd H6 k6 (.lst [.bl false, .bl false, .bl false, .bl false]) = H7 at t6 k6' ⊢
      refine ⟨k4, k6, _, _, rfl, rfl, t6 _ _ (t5 _ _ k4'), k6', (show 5 ≤ sizeLine by decide), fun k7 hk7 => ?_⟩
      have t7 := Same.new (o := .lst [.bl true, .bl false, .bl false, .bl false, .bl false]) hk7
      have k7' : SqL K (upd H7 k7 (.lst [.bl true, .bl false, .bl false, .bl false, .bl false])) k7 [.bl true, .bl false, .bl false, .bl false, .bl false] := .inl (.inl upd_same)
      change rEqD K _ _ (upd H7 k7 (.lst [.bl true, .bl false, .bl false, .bl false, .bl false])) _
      generalize upd H7 k7 (.lst [.bl true, .bl false, .bl false, .bl false, .bl false]) = H8 at t7 k7' ⊢
      have tA := t4.trans (t5.trans (t6.trans t7))
      refine ⟨.list [.bool true, .bool false, .bool false, .bool false, .bool false], .list [.bool true, .bool false, .bool false, .bool false, .bool false], .lst (tA.seq k3') (.cons (.bl _) (.cons (.bl _) (.cons (.bl _) (.cons (.bl _) (.cons (.bl _) .nil))))), .lst k7' (.cons (.bl _) (.cons (.bl _) (.cons (.bl _) (.cons (.bl _) (.cons (.bl _) .nil))))), rfl, rfl, _, rfl, iteY rfl ?_⟩
      refine ⟨_, rfl, rfl, rfl, _, _, _, rfl, (fun u r => r), T.x_ve C g_BadTime, q _⟩
end
theorem txt_mk {K : PySem.W.Frag} {h : Heap} {mg : Str → Option Value} (X : K.In h) (G : h.Ns mainGlobals mg)
    {f0 : Addr} {od0 an0 : Option Addr} {sl0 : Array (Option Value)} {oc0 kV0 dc0 pm0 cd0 ct0 : Value}
    (a0 : PySem.W.nsIn K mainGlobals "common_divisor" = some (some (.ref f0))) (l0 : K.lookup f0 = some ⟨oc0, od0, .func (PySem.W.fnOf "common_divisor" "common_divisor" (defArgs s_common_divisor) (defBody s_common_divisor) (defScope s_common_divisor) .none kV0 dc0 pm0 an0 cd0 ct0), sl0⟩) (c0 : PySem.W.codeIn K cd0 "common_divisor" = true) (k0 : PySem.W.keepIn K (.ref f0) = true)
    {f1 : Addr} {od1 an1 : Option Addr} {sl1 : Array (Option Value)} {oc1 kV1 dc1 pm1 cd1 ct1 : Value}
    (a1 : PySem.W.nsIn K mainGlobals "made" = some (some (.ref f1))) (l1 : K.lookup f1 = some ⟨oc1, od1, .func (PySem.W.fnOf "made" "made" (defArgs s_made) (defBody s_made) (defScope s_made) .none kV1 dc1 pm1 an1 cd1 ct1), sl1⟩) (c1 : PySem.W.codeIn K cd1 "made" = true) (k1 : PySem.W.keepIn K (.ref f1) = true)
    {f2 : Addr} {od2 an2 : Option Addr} {sl2 : Array (Option Value)} {oc2 kV2 dc2 pm2 cd2 ct2 : Value}
    (a2 : PySem.W.nsIn K mainGlobals "added" = some (some (.ref f2))) (l2 : K.lookup f2 = some ⟨oc2, od2, .func (PySem.W.fnOf "added" "added" (defArgs s_added) (defBody s_added) (defScope s_added) .none kV2 dc2 pm2 an2 cd2 ct2), sl2⟩) (c2 : PySem.W.codeIn K cd2 "added" = true) (k2 : PySem.W.keepIn K (.ref f2) = true)
    {f3 : Addr} {od3 an3 : Option Addr} {sl3 : Array (Option Value)} {oc3 kV3 dc3 pm3 cd3 ct3 : Value}
    (a3 : PySem.W.nsIn K mainGlobals "timed" = some (some (.ref f3))) (l3 : K.lookup f3 = some ⟨oc3, od3, .func (PySem.W.fnOf "timed" "timed" (defArgs s_timed) (defBody s_timed) (defScope s_timed) .none kV3 dc3 pm3 an3 cd3 ct3), sl3⟩) (c3 : PySem.W.codeIn K cd3 "timed" = true) (k3 : PySem.W.keepIn K (.ref f3) = true)
    {f4 : Addr} {od4 an4 : Option Addr} {sl4 : Array (Option Value)} {oc4 kV4 dc4 pm4 cd4 ct4 : Value}
    (a4 : PySem.W.nsIn K mainGlobals "read_time" = some (some (.ref f4))) (l4 : K.lookup f4 = some ⟨oc4, od4, .func (PySem.W.fnOf "read_time" "read_time" (defArgs s_read_time) (defBody s_read_time) (defScope s_read_time) .none kV4 dc4 pm4 an4 cd4 ct4), sl4⟩) (c4 : PySem.W.codeIn K cd4 "read_time" = true) (k4 : PySem.W.keepIn K (.ref f4) = true)
    {f5 : Addr} {od5 an5 : Option Addr} {sl5 : Array (Option Value)} {oc5 kV5 dc5 pm5 cd5 ct5 : Value}
    (a5 : PySem.W.nsIn K mainGlobals "read_frames" = some (some (.ref f5))) (l5 : K.lookup f5 = some ⟨oc5, od5, .func (PySem.W.fnOf "read_frames" "read_frames" (defArgs s_read_frames) (defBody s_read_frames) (defScope s_read_frames) .none kV5 dc5 pm5 an5 cd5 ct5), sl5⟩) (c5 : PySem.W.codeIn K cd5 "read_frames" = true) (k5 : PySem.W.keepIn K (.ref f5) = true)
    {f6 : Addr} {od6 an6 : Option Addr} {sl6 : Array (Option Value)} {oc6 kV6 dc6 pm6 cd6 ct6 : Value}
    (a6 : PySem.W.nsIn K mainGlobals "read_mixed" = some (some (.ref f6))) (l6 : K.lookup f6 = some ⟨oc6, od6, .func (PySem.W.fnOf "read_mixed" "read_mixed" (defArgs s_read_mixed) (defBody s_read_mixed) (defScope s_read_mixed) .none kV6 dc6 pm6 an6 cd6 ct6), sl6⟩) (c6 : PySem.W.codeIn K cd6 "read_mixed" = true) (k6 : PySem.W.keepIn K (.ref f6) = true)
    {f7 : Addr} {od7 an7 : Option Addr} {sl7 : Array (Option Value)} {oc7 kV7 dc7 pm7 cd7 ct7 : Value}
    (a7 : PySem.W.nsIn K mainGlobals "read_clock" = some (some (.ref f7))) (l7 : K.lookup f7 = some ⟨oc7, od7, .func (PySem.W.fnOf "read_clock" "read_clock" (defArgs s_read_clock) (defBody s_read_clock) (defScope s_read_clock) .none kV7 dc7 pm7 an7 cd7 ct7), sl7⟩) (c7 : PySem.W.codeIn K cd7 "read_clock" = true) (k7 : PySem.W.keepIn K (.ref f7) = true)
    {f8 : Addr} {od8 an8 : Option Addr} {sl8 : Array (Option Value)} {oc8 kV8 dc8 pm8 cd8 ct8 : Value}
    (a8 : PySem.W.nsIn K mainGlobals "read_field" = some (some (.ref f8))) (l8 : K.lookup f8 = some ⟨oc8, od8, .func (PySem.W.fnOf "read_field" "read_field" (defArgs s_read_field) (defBody s_read_field) (defScope s_read_field) .none kV8 dc8 pm8 an8 cd8 ct8), sl8⟩) (c8 : PySem.W.codeIn K cd8 "read_field" = true) (k8 : PySem.W.keepIn K (.ref f8) = true)
    {f9 : Addr} {od9 an9 : Option Addr} {sl9 : Array (Option Value)} {oc9 kV9 dc9 pm9 cd9 ct9 : Value}
    (a9 : PySem.W.nsIn K mainGlobals "read_rest" = some (some (.ref f9))) (l9 : K.lookup f9 = some ⟨oc9, od9, .func (PySem.W.fnOf "read_rest" "read_rest" (defArgs s_read_rest) (defBody s_read_rest) (defScope s_read_rest) .none kV9 dc9 pm9 an9 cd9 ct9), sl9⟩) (c9 : PySem.W.codeIn K cd9 "read_rest" = true) (k9 : PySem.W.keepIn K (.ref f9) = true)
    {f10 : Addr} {od10 an10 : Option Addr} {sl10 : Array (Option Value)} {oc10 kV10 dc10 pm10 cd10 ct10 : Value}
    (a10 : PySem.W.nsIn K mainGlobals "read_number" = some (some (.ref f10))) (l10 : K.lookup f10 = some ⟨oc10, od10, .func (PySem.W.fnOf "read_number" "read_number" (defArgs s_read_number) (defBody s_read_number) (defScope s_read_number) .none kV10 dc10 pm10 an10 cd10 ct10), sl10⟩) (c10 : PySem.W.codeIn K cd10 "read_number" = true) (k10 : PySem.W.keepIn K (.ref f10) = true)
    {f11 : Addr} {od11 an11 : Option Addr} {sl11 : Array (Option Value)} {oc11 kV11 dc11 pm11 cd11 ct11 : Value}
    (a11 : PySem.W.nsIn K mainGlobals "_law_begun" = some (some (.ref f11))) (l11 : K.lookup f11 = some ⟨oc11, od11, .func (PySem.W.fnOf "_law_begun" "_law_begun" (defArgs s_Lbegun) (defBody s_Lbegun) (defScope s_Lbegun) .none kV11 dc11 pm11 an11 cd11 ct11), sl11⟩) (c11 : PySem.W.codeIn K cd11 "_law_begun" = true) (k11 : PySem.W.keepIn K (.ref f11) = true)
    {f12 : Addr} {od12 an12 : Option Addr} {sl12 : Array (Option Value)} {oc12 kV12 dc12 pm12 cd12 ct12 : Value}
    (a12 : PySem.W.nsIn K mainGlobals "_law_take" = some (some (.ref f12))) (l12 : K.lookup f12 = some ⟨oc12, od12, .func (PySem.W.fnOf "_law_take" "_law_take" (defArgs s_Ltake) (defBody s_Ltake) (defScope s_Ltake) .none kV12 dc12 pm12 an12 cd12 ct12), sl12⟩) (c12 : PySem.W.codeIn K cd12 "_law_take" = true) (k12 : PySem.W.keepIn K (.ref f12) = true)
    {f13 : Addr} {od13 an13 : Option Addr} {sl13 : Array (Option Value)} {oc13 kV13 dc13 pm13 cd13 ct13 : Value}
    (a13 : PySem.W.nsIn K mainGlobals "_law_alike" = some (some (.ref f13))) (l13 : K.lookup f13 = some ⟨oc13, od13, .func (PySem.W.fnOf "_law_alike" "_law_alike" (defArgs s_Lalike) (defBody s_Lalike) (defScope s_Lalike) .none kV13 dc13 pm13 an13 cd13 ct13), sl13⟩) (c13 : PySem.W.codeIn K cd13 "_law_alike" = true) (k13 : PySem.W.keepIn K (.ref f13) = true)
    {f14 : Addr} {od14 an14 : Option Addr} {sl14 : Array (Option Value)} {oc14 kV14 dc14 pm14 cd14 ct14 : Value}
    (a14 : PySem.W.nsIn K mainGlobals "_law_fr" = some (some (.ref f14))) (l14 : K.lookup f14 = some ⟨oc14, od14, .func (PySem.W.fnOf "_law_fr" "_law_fr" (defArgs s_Lfr) (defBody s_Lfr) (defScope s_Lfr) .none kV14 dc14 pm14 an14 cd14 ct14), sl14⟩) (c14 : PySem.W.codeIn K cd14 "_law_fr" = true) (k14 : PySem.W.keepIn K (.ref f14) = true)
    {f15 : Addr} {od15 an15 : Option Addr} {sl15 : Array (Option Value)} {oc15 kV15 dc15 pm15 cd15 ct15 : Value}
    (a15 : PySem.W.nsIn K mainGlobals "_law_mixed" = some (some (.ref f15))) (l15 : K.lookup f15 = some ⟨oc15, od15, .func (PySem.W.fnOf "_law_mixed" "_law_mixed" (defArgs s_Lmixed) (defBody s_Lmixed) (defScope s_Lmixed) .none kV15 dc15 pm15 an15 cd15 ct15), sl15⟩) (c15 : PySem.W.codeIn K cd15 "_law_mixed" = true) (k15 : PySem.W.keepIn K (.ref f15) = true)
    {f16 : Addr} {od16 an16 : Option Addr} {sl16 : Array (Option Value)} {oc16 kV16 dc16 pm16 cd16 ct16 : Value}
    (a16 : PySem.W.nsIn K mainGlobals "_law_frames_text" = some (some (.ref f16))) (l16 : K.lookup f16 = some ⟨oc16, od16, .func (PySem.W.fnOf "_law_frames_text" "_law_frames_text" (defArgs s_Lframes_text) (defBody s_Lframes_text) (defScope s_Lframes_text) .none kV16 dc16 pm16 an16 cd16 ct16), sl16⟩) (c16 : PySem.W.codeIn K cd16 "_law_frames_text" = true) (k16 : PySem.W.keepIn K (.ref f16) = true)
    {f17 : Addr} {od17 an17 : Option Addr} {sl17 : Array (Option Value)} {oc17 kV17 dc17 pm17 cd17 ct17 : Value}
    (a17 : PySem.W.nsIn K mainGlobals "_law_seconds_text" = some (some (.ref f17))) (l17 : K.lookup f17 = some ⟨oc17, od17, .func (PySem.W.fnOf "_law_seconds_text" "_law_seconds_text" (defArgs s_Lseconds_text) (defBody s_Lseconds_text) (defScope s_Lseconds_text) .none kV17 dc17 pm17 an17 cd17 ct17), sl17⟩) (c17 : PySem.W.codeIn K cd17 "_law_seconds_text" = true) (k17 : PySem.W.keepIn K (.ref f17) = true)
    {f18 : Addr} {od18 an18 : Option Addr} {sl18 : Array (Option Value)} {oc18 kV18 dc18 pm18 cd18 ct18 : Value}
    (a18 : PySem.W.nsIn K mainGlobals "_law_clock_text" = some (some (.ref f18))) (l18 : K.lookup f18 = some ⟨oc18, od18, .func (PySem.W.fnOf "_law_clock_text" "_law_clock_text" (defArgs s_Lclock_text) (defBody s_Lclock_text) (defScope s_Lclock_text) .none kV18 dc18 pm18 an18 cd18 ct18), sl18⟩) (c18 : PySem.W.codeIn K cd18 "_law_clock_text" = true) (k18 : PySem.W.keepIn K (.ref f18) = true)
    {f19 : Addr} {od19 an19 : Option Addr} {sl19 : Array (Option Value)} {oc19 kV19 dc19 pm19 cd19 ct19 : Value}
    (a19 : PySem.W.nsIn K mainGlobals "_law_any_time" = some (some (.ref f19))) (l19 : K.lookup f19 = some ⟨oc19, od19, .func (PySem.W.fnOf "_law_any_time" "_law_any_time" (defArgs s_Lany_time) (defBody s_Lany_time) (defScope s_Lany_time) .none kV19 dc19 pm19 an19 cd19 ct19), sl19⟩) (c19 : PySem.W.codeIn K cd19 "_law_any_time" = true) (k19 : PySem.W.keepIn K (.ref f19) = true)
    {f20 : Addr} {od20 an20 : Option Addr} {sl20 : Array (Option Value)} {oc20 kV20 dc20 pm20 cd20 ct20 : Value}
    (a20 : PySem.W.nsIn K mainGlobals "_law_rate" = some (some (.ref f20))) (l20 : K.lookup f20 = some ⟨oc20, od20, .func (PySem.W.fnOf "_law_rate" "_law_rate" (defArgs s_Lrate) (defBody s_Lrate) (defScope s_Lrate) .none kV20 dc20 pm20 an20 cd20 ct20), sl20⟩) (c20 : PySem.W.codeIn K cd20 "_law_rate" = true) (k20 : PySem.W.keepIn K (.ref f20) = true)
    {f21 : Addr} {od21 an21 : Option Addr} {sl21 : Array (Option Value)} {oc21 kV21 dc21 pm21 cd21 ct21 : Value}
    (a21 : PySem.W.nsIn K mainGlobals "_law_spoilt" = some (some (.ref f21))) (l21 : K.lookup f21 = some ⟨oc21, od21, .func (PySem.W.fnOf "_law_spoilt" "_law_spoilt" (defArgs s_Lspoilt) (defBody s_Lspoilt) (defScope s_Lspoilt) .none kV21 dc21 pm21 an21 cd21 ct21), sl21⟩) (c21 : PySem.W.codeIn K cd21 "_law_spoilt" = true) (k21 : PySem.W.keepIn K (.ref f21) = true)
    {f22 : Addr} {od22 an22 : Option Addr} {sl22 : Array (Option Value)} {oc22 kV22 dc22 pm22 cd22 ct22 : Value}
    (a22 : PySem.W.nsIn K mainGlobals "_law_text_of" = some (some (.ref f22))) (l22 : K.lookup f22 = some ⟨oc22, od22, .func (PySem.W.fnOf "_law_text_of" "_law_text_of" (defArgs s_Ltext_of) (defBody s_Ltext_of) (defScope s_Ltext_of) .none kV22 dc22 pm22 an22 cd22 ct22), sl22⟩) (c22 : PySem.W.codeIn K cd22 "_law_text_of" = true) (k22 : PySem.W.keepIn K (.ref f22) = true)
    {f23 : Addr} {od23 an23 : Option Addr} {sl23 : Array (Option Value)} {oc23 kV23 dc23 pm23 cd23 ct23 : Value}
    (a23 : PySem.W.nsIn K mainGlobals "_law_is_long" = some (some (.ref f23))) (l23 : K.lookup f23 = some ⟨oc23, od23, .func (PySem.W.fnOf "_law_is_long" "_law_is_long" (defArgs s_Lis_long) (defBody s_Lis_long) (defScope s_Lis_long) .none kV23 dc23 pm23 an23 cd23 ct23), sl23⟩) (c23 : PySem.W.codeIn K cd23 "_law_is_long" = true) (k23 : PySem.W.keepIn K (.ref f23) = true)
    {f24 : Addr} {od24 an24 : Option Addr} {sl24 : Array (Option Value)} {oc24 kV24 dc24 pm24 cd24 ct24 : Value}
    (a24 : PySem.W.nsIn K mainGlobals "law" = some (some (.ref f24))) (l24 : K.lookup f24 = some ⟨oc24, od24, .func (PySem.W.fnOf "law" "law" (defArgs s_law) (defBody s_law) (defScope s_law) .none kV24 dc24 pm24 an24 cd24 ct24), sl24⟩) (c24 : PySem.W.codeIn K cd24 "law" = true) (k24 : PySem.W.keepIn K (.ref f24) = true)
    (z_abs : PySem.W.nsIn K mainGlobals "abs" = some none)
    (z_len : PySem.W.nsIn K mainGlobals "len" = some none)
    (z_all : PySem.W.nsIn K mainGlobals "all" = some none)
    (z_int : PySem.W.nsIn K mainGlobals "int" = some none)
    (z_list : PySem.W.nsIn K mainGlobals "list" = some none)
    (z_isinstance : PySem.W.nsIn K mainGlobals "isinstance" = some none)
    (z_bool : PySem.W.nsIn K mainGlobals "bool" = some none)
    (z_str : PySem.W.nsIn K mainGlobals "str" = some none)
    (z_tuple : PySem.W.nsIn K mainGlobals "tuple" = some none)
    (z_range : PySem.W.nsIn K mainGlobals "range" = some none)
    (z_ValueError : PySem.W.nsIn K mainGlobals "ValueError" = some none)
    {C_BadTime : Addr} (ag_BadTime : PySem.W.nsIn K mainGlobals "BadTime" = some (some (.ref C_BadTime))) (ax_BadTime : PySem.W.excIn K C_BadTime [.type "ValueError", .type "Exception", .type "BaseException", .type "object"] "ValueError.__new__" = true) (ak_BadTime : PySem.W.keepIn K (.ref C_BadTime) = true) (ab_BadTime : PySem.W.subIn K (.ref C_BadTime) (.type "BaseException") = some true) (at_BadTime : PySem.W.typeIn K (.ref C_BadTime) = some (.type "type")) (ai_BadTime : PySem.W.isClsIn K C_BadTime = true) (as_BadTime : PySem.W.subIn K (.ref C_BadTime) (.ref C_BadTime) = some true)
    {C_ReelError : Addr} (ag_ReelError : PySem.W.nsIn K mainGlobals "ReelError" = some (some (.ref C_ReelError))) (ax_ReelError : PySem.W.excIn K C_ReelError [.type "ValueError", .type "Exception", .type "BaseException", .type "object"] "ValueError.__new__" = true) (ak_ReelError : PySem.W.keepIn K (.ref C_ReelError) = true) (ab_ReelError : PySem.W.subIn K (.ref C_ReelError) (.type "BaseException") = some true) (at_ReelError : PySem.W.typeIn K (.ref C_ReelError) = some (.type "type")) (ai_ReelError : PySem.W.isClsIn K C_ReelError = true) (as_ReelError : PySem.W.subIn K (.ref C_ReelError) (.ref C_ReelError) = some true)
    {C_BadNote : Addr} (ag_BadNote : PySem.W.nsIn K mainGlobals "BadNote" = some (some (.ref C_BadNote)))
    {C_OffReel : Addr} (ag_OffReel : PySem.W.nsIn K mainGlobals "OffReel" = some (some (.ref C_OffReel)))
    {C_NoDeed : Addr} (ag_NoDeed : PySem.W.nsIn K mainGlobals "NoDeed" = some (some (.ref C_NoDeed)))
    {C_TooTight : Addr} (ag_TooTight : PySem.W.nsIn K mainGlobals "TooTight" = some (some (.ref C_TooTight)))
    (hg_x_own : PySem.W.findIn K (.ref C_BadTime) "__getattribute__" = some (some (.builtin "BaseException.__getattribute__"))) (hk_x_own : PySem.W.findIn K (.ref C_BadTime) "__getattr__" = some none) (hs_x_own : PySem.W.subIn K (.ref C_BadTime) (.type "BaseException") = some true) (hd_x_own : PySem.W.hasDictIn K C_BadTime = true) (ha_x_own : PySem.W.findIn K (.ref C_BadTime) "__class__" = some (some (.builtin "object.__class__"))) (hn_x_own : PySem.W.specialIn K (.builtin "object.__class__") "__get__" = some (some (.builtin "getset_descriptor.__get__"))) (ht_x_own : PySem.W.takesIn K (.builtin "object.__class__") = some true) (hm_x_own : PySem.W.mroIn K C_BadTime (.type "object") = some true)
    (yb_x_reel : PySem.W.subIn K (.ref C_ReelError) (.type "BaseException") = some true) (ys_x_reel : PySem.W.subIn K (.ref C_BadTime) (.ref C_ReelError) = some true) (yi_x_reel : PySem.W.isClsIn K C_ReelError = true) (yt_x_reel : PySem.W.typeIn K (.ref C_ReelError) = some (.type "type"))
    
    (ys_x_note : PySem.W.subIn K (.ref C_BadTime) (.ref C_BadNote) = some false) (yi_x_note : PySem.W.isClsIn K C_BadNote = true) (yt_x_note : PySem.W.typeIn K (.ref C_BadNote) = some (.type "type")) (yn_x_note : (Value.ref C_BadTime == Value.ref C_BadNote) = false)
    (ys_x_off : PySem.W.subIn K (.ref C_BadTime) (.ref C_OffReel) = some false) (yi_x_off : PySem.W.isClsIn K C_OffReel = true) (yt_x_off : PySem.W.typeIn K (.ref C_OffReel) = some (.type "type")) (yn_x_off : (Value.ref C_BadTime == Value.ref C_OffReel) = false)
    (ys_x_deed : PySem.W.subIn K (.ref C_BadTime) (.ref C_NoDeed) = some false) (yi_x_deed : PySem.W.isClsIn K C_NoDeed = true) (yt_x_deed : PySem.W.typeIn K (.ref C_NoDeed) = some (.type "type")) (yn_x_deed : (Value.ref C_BadTime == Value.ref C_NoDeed) = false)
    (ys_x_tight : PySem.W.subIn K (.ref C_BadTime) (.ref C_TooTight) = some false) (yi_x_tight : PySem.W.isClsIn K C_TooTight = true) (yt_x_tight : PySem.W.typeIn K (.ref C_TooTight) = some (.type "type")) (yn_x_tight : (Value.ref C_BadTime == Value.ref C_TooTight) = false)
    (y_x_ve : PySem.W.subIn K (.ref C_BadTime) (.type "ValueError") = some true)
    {t_SIXTY : Tok} (y_SIXTY : PySem.W.nsIn K mainGlobals "SIXTY" = some (some (.int 60 t_SIXTY)))
    {p_NOUGHT : Addr} {t1_NOUGHT t2_NOUGHT : Tok} {n_NOUGHT : Nat} {od_NOUGHT : Option Addr} {sl_NOUGHT : Array (Option Value)} (y_NOUGHT : PySem.W.nsIn K mainGlobals "NOUGHT" = some (some (.ref p_NOUGHT))) (w_NOUGHT : K.lookup p_NOUGHT = some ⟨.type "tuple", od_NOUGHT, .seq #[.int 0 t1_NOUGHT, .int 1 t2_NOUGHT] n_NOUGHT, sl_NOUGHT⟩)
    {t_MOST_FIGURES : Tok} (y_MOST_FIGURES : PySem.W.nsIn K mainGlobals "MOST_FIGURES" = some (some (.int 9 t_MOST_FIGURES)))
    {t_FIGURES : Tok} (y_FIGURES : PySem.W.nsIn K mainGlobals "FIGURES" = some (some (.str "0123456789" t_FIGURES))) : Txt K mg := by
  constructor
  · exact ⟨_, _, fun_mk (st := s_common_divisor) l0 c0 k0, PySem.W.mg_of X G a0, (fun_mk (st := s_common_divisor) l0 c0 k0).binds (ps := ["one", "two"]) fun _ _ _ _ _ _ us hl => match us, hl with | [_, _], _ => rfl⟩
  · exact ⟨_, _, fun_mk (st := s_made) l1 c1 k1, PySem.W.mg_of X G a1, (fun_mk (st := s_made) l1 c1 k1).binds (ps := ["top", "bottom"]) fun _ _ _ _ _ _ us hl => match us, hl with | [_, _], _ => rfl⟩
  · exact ⟨_, _, fun_mk (st := s_added) l2 c2 k2, PySem.W.mg_of X G a2, (fun_mk (st := s_added) l2 c2 k2).binds (ps := ["one", "two"]) fun _ _ _ _ _ _ us hl => match us, hl with | [_, _], _ => rfl⟩
  · exact ⟨_, _, fun_mk (st := s_timed) l3 c3 k3, PySem.W.mg_of X G a3, (fun_mk (st := s_timed) l3 c3 k3).binds (ps := ["one", "two"]) fun _ _ _ _ _ _ us hl => match us, hl with | [_, _], _ => rfl⟩
  · exact ⟨_, _, fun_mk (st := s_read_time) l4 c4 k4, PySem.W.mg_of X G a4, (fun_mk (st := s_read_time) l4 c4 k4).binds (ps := ["text", "rate"]) fun _ _ _ _ _ _ us hl => match us, hl with | [_, _], _ => rfl⟩
  · exact ⟨_, _, fun_mk (st := s_read_frames) l5 c5 k5, PySem.W.mg_of X G a5, (fun_mk (st := s_read_frames) l5 c5 k5).binds (ps := ["text"]) fun _ _ _ _ _ _ us hl => match us, hl with | [_], _ => rfl⟩
  · exact ⟨_, _, fun_mk (st := s_read_mixed) l6 c6 k6, PySem.W.mg_of X G a6, (fun_mk (st := s_read_mixed) l6 c6 k6).binds (ps := ["text"]) fun _ _ _ _ _ _ us hl => match us, hl with | [_], _ => rfl⟩
  · exact ⟨_, _, fun_mk (st := s_read_clock) l7 c7 k7, PySem.W.mg_of X G a7, (fun_mk (st := s_read_clock) l7 c7 k7).binds (ps := ["text", "rate"]) fun _ _ _ _ _ _ us hl => match us, hl with | [_, _], _ => rfl⟩
  · exact ⟨_, _, fun_mk (st := s_read_field) l8 c8 k8, PySem.W.mg_of X G a8, (fun_mk (st := s_read_field) l8 c8 k8).binds (ps := ["word", "bound"]) fun _ _ _ _ _ _ us hl => match us, hl with | [_, _], _ => rfl⟩
  · exact ⟨_, _, fun_mk (st := s_read_rest) l9 c9 k9, PySem.W.mg_of X G a9, (fun_mk (st := s_read_rest) l9 c9 k9).binds (ps := ["blank", "rest"]) fun _ _ _ _ _ _ us hl => match us, hl with | [_, _], _ => rfl⟩
  · exact ⟨_, _, fun_mk (st := s_read_number) l10 c10 k10, PySem.W.mg_of X G a10, (fun_mk (st := s_read_number) l10 c10 k10).binds (ps := ["word"]) fun _ _ _ _ _ _ us hl => match us, hl with | [_], _ => rfl⟩
  · exact ⟨_, _, fun_mk (st := s_Lbegun) l11 c11 k11, PySem.W.mg_of X G a11, (fun_mk (st := s_Lbegun) l11 c11 k11).binds (ps := ["_law_script"]) fun _ _ _ _ _ _ us hl => match us, hl with | [_], _ => rfl⟩
  · exact ⟨_, _, fun_mk (st := s_Ltake) l12 c12 k12, PySem.W.mg_of X G a12, (fun_mk (st := s_Ltake) l12 c12 k12).binds (ps := ["_law_box", "_law_many"]) fun _ _ _ _ _ _ us hl => match us, hl with | [_, _], _ => rfl⟩
  · exact ⟨_, _, fun_mk (st := s_Lalike) l13 c13 k13, PySem.W.mg_of X G a13, (fun_mk (st := s_Lalike) l13 c13 k13).binds (ps := ["_law_found", "_law_due"]) fun _ _ _ _ _ _ us hl => match us, hl with | [_, _], _ => rfl⟩
  · exact ⟨_, _, fun_mk (st := s_Lfr) l14 c14 k14, PySem.W.mg_of X G a14, (fun_mk (st := s_Lfr) l14 c14 k14).binds (ps := ["_law_top", "_law_bottom"]) fun _ _ _ _ _ _ us hl => match us, hl with | [_, _], _ => rfl⟩
  · exact ⟨_, _, fun_mk (st := s_Lmixed) l15 c15 k15, PySem.W.mg_of X G a15, (fun_mk (st := s_Lmixed) l15 c15 k15).binds (ps := ["_law_time"]) fun _ _ _ _ _ _ us hl => match us, hl with | [_], _ => rfl⟩
  · exact ⟨_, _, fun_mk (st := s_Lframes_text) l16 c16 k16, PySem.W.mg_of X G a16, (fun_mk (st := s_Lframes_text) l16 c16 k16).binds (ps := ["_law_time"]) fun _ _ _ _ _ _ us hl => match us, hl with | [_], _ => rfl⟩
  · exact ⟨_, _, fun_mk (st := s_Lseconds_text) l17 c17 k17, PySem.W.mg_of X G a17, (fun_mk (st := s_Lseconds_text) l17 c17 k17).binds (ps := ["_law_time", "_law_rate_here"]) fun _ _ _ _ _ _ us hl => match us, hl with | [_, _], _ => rfl⟩
  · exact ⟨_, _, fun_mk (st := s_Lclock_text) l18 c18 k18, PySem.W.mg_of X G a18, (fun_mk (st := s_Lclock_text) l18 c18 k18).binds (ps := ["_law_time", "_law_rate_here"]) fun _ _ _ _ _ _ us hl => match us, hl with | [_, _], _ => rfl⟩
  · exact ⟨_, _, fun_mk (st := s_Lany_time) l19 c19 k19, PySem.W.mg_of X G a19, (fun_mk (st := s_Lany_time) l19 c19 k19).binds (ps := ["_law_box"]) fun _ _ _ _ _ _ us hl => match us, hl with | [_], _ => rfl⟩
  · exact ⟨_, _, fun_mk (st := s_Lrate) l20 c20 k20, PySem.W.mg_of X G a20, (fun_mk (st := s_Lrate) l20 c20 k20).binds (ps := ["_law_box"]) fun _ _ _ _ _ _ us hl => match us, hl with | [_], _ => rfl⟩
  · exact ⟨_, _, fun_mk (st := s_Lspoilt) l21 c21 k21, PySem.W.mg_of X G a21, (fun_mk (st := s_Lspoilt) l21 c21 k21).binds (ps := ["_law_box", "_law_text"]) fun _ _ _ _ _ _ us hl => match us, hl with | [_, _], _ => rfl⟩
  · exact ⟨_, _, fun_mk (st := s_Ltext_of) l22 c22 k22, PySem.W.mg_of X G a22, (fun_mk (st := s_Ltext_of) l22 c22 k22).binds (ps := ["_law_box", "_law_rate_here"]) fun _ _ _ _ _ _ us hl => match us, hl with | [_, _], _ => rfl⟩
  · exact ⟨_, _, fun_mk (st := s_Lis_long) l23 c23 k23, PySem.W.mg_of X G a23, (fun_mk (st := s_Lis_long) l23 c23 k23).binds (ps := ["_law_rate_here"]) fun _ _ _ _ _ _ us hl => match us, hl with | [_], _ => rfl⟩
  · exact ⟨_, _, fun_mk (st := s_law) l24 c24 k24, PySem.W.mg_of X G a24, (fun_mk (st := s_law) l24 c24 k24).binds (ps := ["_law_script"]) fun _ _ _ _ _ _ us hl => match us, hl with | [_], _ => rfl⟩
  · exact PySem.W.mg_none_of X G z_abs
  · exact PySem.W.mg_none_of X G z_len
  · exact PySem.W.mg_none_of X G z_all
  · exact PySem.W.mg_none_of X G z_int
  · exact PySem.W.mg_none_of X G z_list
  · exact PySem.W.mg_none_of X G z_isinstance
  · exact PySem.W.mg_none_of X G z_bool
  · exact PySem.W.mg_none_of X G z_str
  · exact PySem.W.mg_none_of X G z_tuple
  · exact PySem.W.mg_none_of X G z_range
  · exact PySem.W.mg_none_of X G z_ValueError
  · exact ⟨C_BadTime, PySem.W.mg_of X G ag_BadTime, ax_BadTime, ak_BadTime, ab_BadTime, at_BadTime, exm_gen ab_BadTime ai_BadTime at_BadTime as_BadTime⟩
  · exact ⟨C_ReelError, PySem.W.mg_of X G ag_ReelError, ax_ReelError, ak_ReelError, ab_ReelError, at_ReelError, exm_gen ab_ReelError ai_ReelError at_ReelError as_ReelError⟩
  · exact ⟨C_BadNote, PySem.W.mg_of X G ag_BadNote⟩
  · exact ⟨C_OffReel, PySem.W.mg_of X G ag_OffReel⟩
  · exact ⟨C_NoDeed, PySem.W.mg_of X G ag_NoDeed⟩
  · exact ⟨C_TooTight, PySem.W.mg_of X G ag_TooTight⟩
  · intro C h1; cases h1.symm.trans (PySem.W.mg_of X G ag_BadTime); exact ⟨hg_x_own, hk_x_own, hs_x_own, hd_x_own, ha_x_own, hn_x_own, ht_x_own, hm_x_own⟩
  · intro C C2 h1 h2; cases h1.symm.trans (PySem.W.mg_of X G ag_BadTime); cases h2.symm.trans (PySem.W.mg_of X G ag_ReelError); exact exm_gen yb_x_reel yi_x_reel yt_x_reel ys_x_reel
  · intro C h1; cases h1.symm.trans (PySem.W.mg_of X G ag_BadTime); exact kit_self
  · intro C C2 h1 h2; cases h1.symm.trans (PySem.W.mg_of X G ag_BadTime); cases h2.symm.trans (PySem.W.mg_of X G ag_BadNote); exact kit_gen ys_x_note yi_x_note yt_x_note yn_x_note
  · intro C C2 h1 h2; cases h1.symm.trans (PySem.W.mg_of X G ag_BadTime); cases h2.symm.trans (PySem.W.mg_of X G ag_OffReel); exact kit_gen ys_x_off yi_x_off yt_x_off yn_x_off
  · intro C C2 h1 h2; cases h1.symm.trans (PySem.W.mg_of X G ag_BadTime); cases h2.symm.trans (PySem.W.mg_of X G ag_NoDeed); exact kit_gen ys_x_deed yi_x_deed yt_x_deed yn_x_deed
  · intro C C2 h1 h2; cases h1.symm.trans (PySem.W.mg_of X G ag_BadTime); cases h2.symm.trans (PySem.W.mg_of X G ag_TooTight); exact kit_gen ys_x_tight yi_x_tight yt_x_tight yn_x_tight
  · intro C h1; cases h1.symm.trans (PySem.W.mg_of X G ag_BadTime); exact kit_ve y_x_ve
  · exact ⟨_, PySem.W.mg_of X G y_SIXTY, ⟨_, rfl⟩⟩
  · exact ⟨p_NOUGHT, ⟨_, PySem.W.mg_of X G y_NOUGHT, rfl⟩, fun H => .inr ⟨_, _, _, w_NOUGHT, rfl, rfl, (show 2 ≤ sizeLine by decide), .cons ⟨_, rfl⟩ (.cons ⟨_, rfl⟩ .nil)⟩⟩
  · exact ⟨_, PySem.W.mg_of X G y_MOST_FIGURES, ⟨_, rfl⟩⟩
  · exact ⟨_, PySem.W.mg_of X G y_FIGURES, ⟨_, rfl⟩⟩
theorem law_mk {l : PySem.W.OpenLaw} {w : World} {K : PySem.W.Frag} {h : Heap} {mg : Str → Option Value} {fa f2 : Addr} (X : K.In h) (G : h.Ns mainGlobals mg) (hfa : mg "law" = some (.ref fa)) (T : Txt K mg)
    {od2 an2 : Option Addr} {sl2 : Array (Option Value)} {oc2 kV2 dc2 pm2 cd2 ct2 : Value}
    (a2 : PySem.W.nsIn K mainGlobals "law" = some (some (.ref f2))) (l2 : K.lookup f2 = some ⟨oc2, od2, .func (PySem.W.fnOf "law" "law" (defArgs s_law) (defBody s_law) (defScope s_law) .none kV2 dc2 pm2 an2 cd2 ct2), sl2⟩) (c2 : PySem.W.codeIn K cd2 "law" = true) (k2 : PySem.W.keepIn K (.ref f2) = true)
    (tabs : ∀ f, mg "read_number" = some (.ref f) → LamX.OwnTab K f h) {f3 c P0 : Addr} {od3 an3 : Option Addr} {sl3 : Array (Option Value)} {oc3 kV3 dc3 pm3 ct3 : Value}
    (a3 : PySem.W.nsIn K mainGlobals "read_number" = some (some (.ref f3))) (l3 : K.lookup f3 = some ⟨oc3, od3, .func (PySem.W.fnOf "read_number" "read_number" (defArgs s_read_number) (defBody s_read_number) (defScope s_read_number) .none kV3 dc3 pm3 an3 (.ref c) ct3), sl3⟩) (c3 : PySem.W.codeIn K (.ref c) "read_number" = true) (k3 : PySem.W.keepIn K (.ref f3) = true)
    {e3 : Value} {dd3 : Option Addr} {vs3 : Array Value} {sl4 : Array (Option Value)} (m3 : K.lookup c = some ⟨e3, dd3, .fields vs3, sl4⟩) (p3 : vs3[11]? = some (.ref P0)) (n3 : K.lookup P0 = none) (h3 : PySem.W.codeHdIn K c P0 = true) :
    LamX.LawAtS l w K CX0 8 63 "_law_script" mg fa h := by
  have e := hfa.symm.trans (PySem.W.mg_of X G a2)
  cases e
  obtain ⟨C, eB⟩ := T.e_BadTime
  have hf3 := PySem.W.mg_of X G a3
  have tP := tabs f3 hf3 c P0 _ _ _ _ _ _ l3 rfl rfl m3 p3
  have D : Dfc K mg "read_number" s_read_number ["word"] c := ⟨⟨f3, oc3, od3, kV3, dc3, pm3, an3, ct3, sl3, l3, c3, k3, hf3, (fun_mk (st := s_read_number) l3 c3 k3).binds (ps := ["word"]) fun _ _ _ _ _ _ us hl => match us, hl with | [_], _ => rfl⟩⟩
  refine ⟨PySem.W.fnOf "law" "law" (defArgs s_law) (defBody s_law) (defScope s_law) .none kV2 dc2 pm2 an2 cd2 ct2, [(c, P0)], spLaw K P0, fun p hp => ?_, fun p hp => ?_, fun p hp => ?_, fun s v => .of_eq rfl, fun H a ns hl hbits hT hS => ?_, fun base _ _ tb => ?_⟩
  · rw [List.mem_singleton.mp hp]
    exact tP
  · rw [List.mem_singleton.mp hp]
    exact n3
  · rw [List.mem_singleton.mp hp]
    exact PySem.W.codeHd_of_K X h3
  · exact ⟨a, ns, rfl, hS, hl, ⟨#[], hT _ (List.mem_singleton.mpr rfl), trivial⟩, fun _ => rfl⟩
  · have t := tb _ (List.mem_singleton.mpr rfl)
    exact ok_law (fun_mk (st := s_law) l2 c2 k2) T D ⟨t.code, t.bm, t.gP⟩ eB
end R
open PySem PySem.W PyProof.Rows
set_option maxHeartbeats 0 in
theorem PySem.Challenge.cw_reels_k04_whole_times_read_holds : PySem.Challenge.rw_reels_k04_whole_times_read.Holds := by
  w_on; o_law; k_head; (case hw => w_witness2)
  k_fill
  refine R.walk_tab (l := PySem.Challenge.rw_reels_k04_whole_times_read) (n := 63) (k := 8) (x := "_law_script") (CX := fun _ => L2.CX0) "read_number" rfl (by decide) rfl ⟨rfl, by decide, by decide⟩ ?R (fun w h Y => PySem.W.kIn_of Y) ?F (fun _ _ _ _ _ h => h)
  case R => first | rfl | decide +kernel
  case F =>
    intro w mg fa h KX G hmg tabs
    refine' R.law_mk KX G hmg (R.txt_mk KX G ?a0 ?l0 ?c0 ?k0 ?a1 ?l1 ?c1 ?k1 ?a2 ?l2 ?c2 ?k2 ?a3 ?l3 ?c3 ?k3 ?a4 ?l4 ?c4 ?k4 ?a5 ?l5 ?c5 ?k5 ?a6 ?l6 ?c6 ?k6 ?a7 ?l7 ?c7 ?k7 ?a8 ?l8 ?c8 ?k8 ?a9 ?l9 ?c9 ?k9 ?a10 ?l10 ?c10 ?k10 ?a11 ?l11 ?c11 ?k11 ?a12 ?l12 ?c12 ?k12 ?a13 ?l13 ?c13 ?k13 ?a14 ?l14 ?c14 ?k14 ?a15 ?l15 ?c15 ?k15 ?a16 ?l16 ?c16 ?k16 ?a17 ?l17 ?c17 ?k17 ?a18 ?l18 ?c18 ?k18 ?a19 ?l19 ?c19 ?k19 ?a20 ?l20 ?c20 ?k20 ?a21 ?l21 ?c21 ?k21 ?a22 ?l22 ?c22 ?k22 ?a23 ?l23 ?c23 ?k23 ?a24 ?l24 ?c24 ?k24 ?z_abs ?z_len ?z_all ?z_int ?z_list ?z_isinstance ?z_bool ?z_str ?z_tuple ?z_range ?z_ValueError ?ag_BadTime ?ax_BadTime ?ak_BadTime ?ab_BadTime ?at_BadTime ?ai_BadTime ?as_BadTime ?ag_ReelError ?ax_ReelError ?ak_ReelError ?ab_ReelError ?at_ReelError ?ai_ReelError ?as_ReelError ?ag_BadNote ?ag_OffReel ?ag_NoDeed ?ag_TooTight ?hg_x_own ?hk_x_own ?hs_x_own ?hd_x_own ?ha_x_own ?hn_x_own ?ht_x_own ?hm_x_own ?yb_x_reel ?ys_x_reel ?yi_x_reel ?yt_x_reel ?ys_x_note ?yi_x_note ?yt_x_note ?yn_x_note ?ys_x_off ?yi_x_off ?yt_x_off ?yn_x_off ?ys_x_deed ?yi_x_deed ?yt_x_deed ?yn_x_deed ?ys_x_tight ?yi_x_tight ?yt_x_tight ?yn_x_tight ?y_x_ve ?y_SIXTY ?y_NOUGHT ?w_NOUGHT ?y_MOST_FIGURES ?y_FIGURES) ?a24 ?l24 ?c24 ?k24 tabs ?ra ?rl ?rc ?rk ?rm ?rp ?rn ?rh
    (case ra => k_is); (case rl => k_is); (case rc => k_is); (case rk => k_is); (case rm => k_is); (case rp => rfl); (case rn => first | k_is | rfl); (case rh => first | k_is | rfl)
    (case a0 => k_is); (case l0 => k_is); (case c0 => k_is); (case k0 => k_is); (case a1 => k_is); (case l1 => k_is); (case c1 => k_is); (case k1 => k_is); (case a2 => k_is); (case l2 => k_is); (case c2 => k_is); (case k2 => k_is); (case a3 => k_is); (case l3 => k_is); (case c3 => k_is); (case k3 => k_is); (case a4 => k_is); (case l4 => k_is); (case c4 => k_is); (case k4 => k_is); (case a5 => k_is); (case l5 => k_is); (case c5 => k_is); (case k5 => k_is); (case a6 => k_is); (case l6 => k_is); (case c6 => k_is); (case k6 => k_is); (case a7 => k_is); (case l7 => k_is); (case c7 => k_is); (case k7 => k_is); (case a8 => k_is); (case l8 => k_is); (case c8 => k_is); (case k8 => k_is); (case a9 => k_is); (case l9 => k_is); (case c9 => k_is); (case k9 => k_is); (case a10 => k_is); (case l10 => k_is); (case c10 => k_is); (case k10 => k_is); (case a11 => k_is); (case l11 => k_is); (case c11 => k_is); (case k11 => k_is); (case a12 => k_is); (case l12 => k_is); (case c12 => k_is); (case k12 => k_is); (case a13 => k_is); (case l13 => k_is); (case c13 => k_is); (case k13 => k_is); (case a14 => k_is); (case l14 => k_is); (case c14 => k_is); (case k14 => k_is); (case a15 => k_is); (case l15 => k_is); (case c15 => k_is); (case k15 => k_is); (case a16 => k_is); (case l16 => k_is); (case c16 => k_is); (case k16 => k_is); (case a17 => k_is); (case l17 => k_is); (case c17 => k_is); (case k17 => k_is); (case a18 => k_is); (case l18 => k_is); (case c18 => k_is); (case k18 => k_is); (case a19 => k_is); (case l19 => k_is); (case c19 => k_is); (case k19 => k_is); (case a20 => k_is); (case l20 => k_is); (case c20 => k_is); (case k20 => k_is); (case a21 => k_is); (case l21 => k_is); (case c21 => k_is); (case k21 => k_is); (case a22 => k_is); (case l22 => k_is); (case c22 => k_is); (case k22 => k_is); (case a23 => k_is); (case l23 => k_is); (case c23 => k_is); (case k23 => k_is); (case a24 => k_is); (case l24 => k_is); (case c24 => k_is); (case k24 => k_is)
    (case z_abs => k_is); (case z_len => k_is); (case z_all => k_is); (case z_int => k_is); (case z_list => k_is); (case z_isinstance => k_is); (case z_bool => k_is); (case z_str => k_is); (case z_tuple => k_is); (case z_range => k_is); (case z_ValueError => k_is)
    (case ag_BadTime => k_is); (case ax_BadTime => k_exc); (case ak_BadTime => k_is); (case ab_BadTime => k_is); (case at_BadTime => k_is); (case ai_BadTime => k_is); (case as_BadTime => first | rfl | k_is)
    (case ag_ReelError => k_is); (case ax_ReelError => k_exc); (case ak_ReelError => k_is); (case ab_ReelError => k_is); (case at_ReelError => k_is); (case ai_ReelError => k_is); (case as_ReelError => first | rfl | k_is)
    (case ag_BadNote => k_is)
    (case ag_OffReel => k_is)
    (case ag_NoDeed => k_is)
    (case ag_TooTight => k_is)
    (case hg_x_own => k_is); (case hk_x_own => k_is); (case hs_x_own => k_is); (case hd_x_own => k_is); (case ha_x_own => k_is); (case hn_x_own => k_is); (case ht_x_own => k_is); (case hm_x_own => k_is)
    (case yb_x_reel => k_is); (case ys_x_reel => k_is); (case yi_x_reel => k_is); (case yt_x_reel => k_is)
    
    (case ys_x_note => first | rfl | k_is); (case yi_x_note => first | rfl | k_is); (case yt_x_note => first | rfl | k_is); (case yn_x_note => first | rfl | k_is)
    (case ys_x_off => first | rfl | k_is); (case yi_x_off => first | rfl | k_is); (case yt_x_off => first | rfl | k_is); (case yn_x_off => first | rfl | k_is)
    (case ys_x_deed => first | rfl | k_is); (case yi_x_deed => first | rfl | k_is); (case yt_x_deed => first | rfl | k_is); (case yn_x_deed => first | rfl | k_is)
    (case ys_x_tight => first | rfl | k_is); (case yi_x_tight => first | rfl | k_is); (case yt_x_tight => first | rfl | k_is); (case yn_x_tight => first | rfl | k_is)
    (case y_x_ve => k_is)
    (case y_SIXTY => k_is); (case y_NOUGHT => k_is); (case w_NOUGHT => k_is); (case y_MOST_FIGURES => k_is); (case y_FIGURES => k_is)
