import PyProof.Rows.All
import Wide.All
import OpenK.AllK
import Wide.FinOn
import HandS.ForMost
import HandS.Gcd
import HandS.Wide
import HandS.IsInst
import HandS.NoneIn
import HandS.DictTup
import HandS.DictComp
import KE.KDictKeyed
import KE.KDictDisplayH
import KE.KEqDict
import HandS.Conv
import HandS.Text
import HandS.Iter
import HandS.SortInts
import KE.KDictSum
import HandS.SetKeys
import HandS.SetTxt0
import HandS.Set
import HandS.TupLe
import HandS.More
import KE.KMinKey
import HandS.SortKw
import HandS.TupLen
import HandS.Style
import PySem.Challenge.RW_lapfold_k04_totalled
set_option Elab.async false
set_option linter.all false
set_option maxRecDepth 100000
namespace K04
open PySem PySem.Spec PyProof.Rows L2
def topS (i : Nat) : Stmt := PySem.Challenge.pw_lapfold_k04_totalled.main.body.getD i (.Pass ⟨0, 0, 0, 0⟩)
abbrev s_share : Stmt := topS 2
theorem sc_share : FnScope ["top", "bottom", "common"] ["top", "bottom"] (defScope s_share) := ⟨rfl, rfl, rfl, by decide +kernel, rfl, by decide +kernel, by decide +kernel⟩
abbrev s_plus : Stmt := topS 3
theorem sc_plus : FnScope ["one", "other"] ["one", "other"] (defScope s_plus) := ⟨rfl, rfl, rfl, by decide +kernel, rfl, by decide +kernel, by decide +kernel⟩
abbrev s_minus : Stmt := topS 4
theorem sc_minus : FnScope ["one", "other"] ["one", "other"] (defScope s_minus) := ⟨rfl, rfl, rfl, by decide +kernel, rfl, by decide +kernel, by decide +kernel⟩
abbrev s_times : Stmt := topS 5
theorem sc_times : FnScope ["one", "other"] ["one", "other"] (defScope s_times) := ⟨rfl, rfl, rfl, by decide +kernel, rfl, by decide +kernel, by decide +kernel⟩
abbrev s_sum_of_number : Stmt := topS 10
theorem sc_sum_of_number : FnScope ["n", "parts"] ["n"] (defScope s_sum_of_number) := ⟨rfl, rfl, rfl, by decide +kernel, rfl, by decide +kernel, by decide +kernel⟩
abbrev s_sum_of_name : Stmt := topS 11
theorem sc_sum_of_name : FnScope ["x"] ["x"] (defScope s_sum_of_name) := ⟨rfl, rfl, rfl, by decide +kernel, rfl, by decide +kernel, by decide +kernel⟩
abbrev s_added : Stmt := topS 12
theorem sc_added : FnScope ["one", "other", "total", "product", "part"] ["one", "other"] (defScope s_added) := ⟨rfl, rfl, rfl, by decide +kernel, rfl, by decide +kernel, by decide +kernel⟩
abbrev s_lessened : Stmt := topS 13
theorem sc_lessened : FnScope ["one", "other", "product", "part", "total"] ["one", "other"] (defScope s_lessened) := ⟨rfl, rfl, rfl, by decide +kernel, rfl, by decide +kernel, by decide +kernel⟩
abbrev s_timed : Stmt := topS 14
theorem sc_timed : FnScope ["one", "other", "total", "product", "part", "other_product", "other_part"] ["one", "other"] (defScope s_timed) := ⟨rfl, rfl, rfl, by decide +kernel, rfl, by decide +kernel, by decide +kernel⟩
abbrev s_put_in : Stmt := topS 15
theorem sc_put_in : FnScope ["given", "filling", "risen", "total", "product", "part"] ["given", "filling"] (defScope s_put_in) := ⟨rfl, rfl, rfl, by decide +kernel, rfl, by decide +kernel, by decide +kernel⟩
abbrev s_totalled : Stmt := topS 16
theorem sc_totalled : FnScope ["given", "x", "many", "by_power", "risen", "total", "power"] ["given", "x", "many"] (defScope s_totalled) := ⟨rfl, rfl, rfl, by decide +kernel, rfl, by decide +kernel, by decide +kernel⟩
abbrev s_worth : Stmt := topS 17
theorem sc_worth : FnScope ["given", "names", "total", "product", "part", "number", "name", "power"] ["given", "names"] (defScope s_worth) := ⟨rfl, rfl, rfl, by decide +kernel, rfl, by decide +kernel, by decide +kernel⟩
abbrev s_same : Stmt := topS 18
theorem sc_same : FnScope ["one", "other"] ["one", "other"] (defScope s_same) := ⟨rfl, rfl, rfl, by decide +kernel, rfl, by decide +kernel, by decide +kernel⟩
abbrev s_put_to : Stmt := topS 19
theorem sc_put_to : FnScope ["shares", "key", "part", "together"] ["shares", "key", "part"] (defScope s_put_to) := ⟨rfl, rfl, rfl, by decide +kernel, rfl, by decide +kernel, by decide +kernel⟩
abbrev s_put_all_to : Stmt := topS 20
theorem sc_put_all_to : FnScope ["parts", "other", "product", "part"] ["parts", "other"] (defScope s_put_all_to) := ⟨rfl, rfl, rfl, by decide +kernel, rfl, by decide +kernel, by decide +kernel⟩
abbrev s_joined : Stmt := topS 21
theorem sc_joined : FnScope ["one", "other", "name", "power", "powers"] ["one", "other"] (defScope s_joined) := ⟨rfl, rfl, rfl, by decide +kernel, rfl, by decide +kernel, by decide +kernel⟩
abbrev s_number_raised : Stmt := topS 22
theorem sc_number_raised : FnScope ["number", "power", "risen", "square", "left"] ["number", "power"] (defScope s_number_raised) := ⟨rfl, rfl, rfl, by decide +kernel, rfl, by decide +kernel, by decide +kernel⟩
abbrev s_powers_of : Stmt := topS 23
theorem sc_powers_of : FnScope ["base", "wanted", "power", "found", "risen", "reached", "_"] ["base", "wanted"] (defScope s_powers_of) := ⟨rfl, rfl, rfl, by decide +kernel, rfl, by decide +kernel, by decide +kernel⟩
abbrev s_part_raised : Stmt := topS 24
theorem sc_part_raised : FnScope ["base", "power", "raised", "product", "top", "bottom", "risen", "name", "many"] ["base", "power"] (defScope s_part_raised) := ⟨rfl, rfl, rfl, by decide +kernel, rfl, by decide +kernel, by decide +kernel⟩
abbrev s_risen_fillings : Stmt := topS 25
theorem sc_risen_fillings : FnScope ["given", "filling", "wanted", "product", "name", "power"] ["given", "filling"] (defScope s_risen_fillings) := ⟨rfl, rfl, rfl, by decide +kernel, rfl, by decide +kernel, by decide +kernel⟩
abbrev s_filled : Stmt := topS 26
theorem sc_filled : FnScope ["product", "part", "risen", "kept", "told", "name", "power", "pair"] ["product", "part", "risen"] (defScope s_filled) := ⟨rfl, rfl, rfl, by decide +kernel, rfl, by decide +kernel, by decide +kernel⟩
abbrev s_power_in : Stmt := topS 27
theorem sc_power_in : FnScope ["product", "x", "name", "power"] ["product", "x"] (defScope s_power_in) := ⟨rfl, rfl, rfl, by decide +kernel, rfl, by decide +kernel, by decide +kernel⟩
abbrev s_totals_by_power : Stmt := topS 28
theorem sc_totals_by_power : FnScope ["given", "x", "product", "highest", "rows", "found", "part", "rest", "row", "power", "pair"] ["given", "x"] (defScope s_totals_by_power) := ⟨rfl, rfl, rfl, by decide +kernel, rfl, by decide +kernel, by decide +kernel⟩
abbrev s_sums_of_powers : Stmt := topS 29
theorem sc_sums_of_powers : FnScope ["highest", "rows", "k"] ["highest"] (defScope s_sums_of_powers) := ⟨rfl, rfl, rfl, by decide +kernel, rfl, by decide +kernel, by decide +kernel⟩
abbrev s_next_sum_of_powers : Stmt := topS 30
theorem sc_next_sum_of_powers : FnScope ["row", "k", "grown", "rest", "part", "power"] ["row", "k"] (defScope s_next_sum_of_powers) := ⟨rfl, rfl, rfl, by decide +kernel, rfl, by decide +kernel, by decide +kernel⟩
abbrev s_law_next : Stmt := topS 32
theorem sc_law_next : FnScope ["_law_h", "_law_many", "_law_at_here", "_law_cell"] ["_law_h", "_law_many"] (defScope s_law_next) := ⟨rfl, rfl, rfl, by decide +kernel, rfl, by decide +kernel, by decide +kernel⟩
abbrev s_law_names : Stmt := topS 33
theorem sc_law_names : FnScope ["_law_h", "_law_some", "_law_word", "_law_turn", "_law_letters", "_law_ends", "_law_k", "_law_letter"] ["_law_h"] (defScope s_law_names) := ⟨rfl, rfl, rfl, by decide +kernel, rfl, by decide +kernel, by decide +kernel⟩
abbrev s_law_tree : Stmt := topS 34
theorem sc_law_tree : FnScope ["_law_h", "_law_names_here", "_law_deep", "_law_way", "_law_one"] ["_law_h", "_law_names_here", "_law_deep"] (defScope s_law_tree) := ⟨rfl, rfl, rfl, by decide +kernel, rfl, by decide +kernel, by decide +kernel⟩
abbrev s_law_sum : Stmt := topS 35
theorem sc_law_sum : FnScope ["_law_tree_here", "_law_one", "_law_other"] ["_law_tree_here"] (defScope s_law_sum) := ⟨rfl, rfl, rfl, by decide +kernel, rfl, by decide +kernel, by decide +kernel⟩
abbrev s_law_at : Stmt := topS 36
theorem sc_law_at : FnScope ["_law_tree_here", "_law_point_here", "_law_one", "_law_other"] ["_law_tree_here", "_law_point_here"] (defScope s_law_at) := ⟨rfl, rfl, rfl, by decide +kernel, rfl, by decide +kernel, by decide +kernel⟩
abbrev s_law_point : Stmt := topS 37
theorem sc_law_point : FnScope ["_law_h", "_law_names_here", "_law_point_here", "_law_name"] ["_law_h", "_law_names_here"] (defScope s_law_point) := ⟨rfl, rfl, rfl, by decide +kernel, rfl, by decide +kernel, by decide +kernel⟩
abbrev s_law_by_turns : Stmt := topS 38
theorem sc_law_by_turns : FnScope ["_law_tree_here", "_law_x", "_law_many", "_law_point_here", "_law_found", "_law_beside", "_law_k"] ["_law_tree_here", "_law_x", "_law_many", "_law_point_here"] (defScope s_law_by_turns) := ⟨rfl, rfl, rfl, by decide +kernel, rfl, by decide +kernel, by decide +kernel⟩
abbrev s_law : Stmt := topS 39
theorem sc_law : FnScope ["_law_script", "_law_h", "_law_names_here", "_law_tree_here", "_law_x", "_law_inner", "_law_some", "_law_often", "_law_one", "_law_many", "_law_found", "_law_turn", "_law_point_here", "_law_number", "_law_more"] ["_law_script"] (defScope s_law) := ⟨rfl, rfl, rfl, by decide +kernel, rfl, by decide +kernel, by decide +kernel⟩
abbrev s_Sum_init : Stmt := inClass (topS 9) 0
theorem sc_Sum_init : FnScope ["self", "parts", "product", "part"] ["self", "parts"] (defScope s_Sum_init) := ⟨rfl, rfl, rfl, by decide +kernel, rfl, by decide +kernel, by decide +kernel⟩
structure DefAt (K : PySem.W.Frag) (mg : Str → Option Value) (x qual : Str) (st : Stmt) (ps : List Str) (f : Addr) (fd : FuncData) : Prop where
  F : Fun K x qual st f fd
  g : mg x = some (.ref f)
  b : Binds K fd ps []
def HasDef (K : PySem.W.Frag) (mg : Str → Option Value) (x qual : Str) (st : Stmt) (ps : List Str) : Prop := ∃ f fd, DefAt K mg x qual st ps f fd
structure Txt (K : PySem.W.Frag) (mg : Str → Option Value) (C_Sum : Addr) : Prop where
  cl_Sum : Cls K C_Sum
  g_Sum : mg "Sum" = some (.ref C_Sum)
  n_Sum_parts : NoAttr K C_Sum "parts"
  mk_Sum : ∃ f fd, Mk K C_Sum f ∧ Fun K "__init__" "Sum.__init__" s_Sum_init f fd ∧ Binds K fd ["self", "parts"] []
  c_NOUGHT : ∃ a, mg "NOUGHT" = some (.ref a) ∧ ∀ H, SqT K H a [.int 0, .int 1]
  c_ONE : ∃ a, mg "ONE" = some (.ref a) ∧ ∀ H, SqT K H a [.int 1, .int 1]
  d_share : HasDef K mg "share" "share" s_share ["top", "bottom"]
  d_plus : HasDef K mg "plus" "plus" s_plus ["one", "other"]
  d_minus : HasDef K mg "minus" "minus" s_minus ["one", "other"]
  d_times : HasDef K mg "times" "times" s_times ["one", "other"]
  d_sum_of_number : HasDef K mg "sum_of_number" "sum_of_number" s_sum_of_number ["n"]
  d_sum_of_name : HasDef K mg "sum_of_name" "sum_of_name" s_sum_of_name ["x"]
  d_added : HasDef K mg "added" "added" s_added ["one", "other"]
  d_lessened : HasDef K mg "lessened" "lessened" s_lessened ["one", "other"]
  d_timed : HasDef K mg "timed" "timed" s_timed ["one", "other"]
  d_put_in : HasDef K mg "put_in" "put_in" s_put_in ["given", "filling"]
  d_totalled : HasDef K mg "totalled" "totalled" s_totalled ["given", "x", "many"]
  d_worth : HasDef K mg "worth" "worth" s_worth ["given", "names"]
  d_same : HasDef K mg "same" "same" s_same ["one", "other"]
  d_put_to : HasDef K mg "_put_to" "_put_to" s_put_to ["shares", "key", "part"]
  d_put_all_to : HasDef K mg "_put_all_to" "_put_all_to" s_put_all_to ["parts", "other"]
  d_joined : HasDef K mg "_joined" "_joined" s_joined ["one", "other"]
  d_number_raised : HasDef K mg "_number_raised" "_number_raised" s_number_raised ["number", "power"]
  d_powers_of : HasDef K mg "_powers_of" "_powers_of" s_powers_of ["base", "wanted"]
  d_part_raised : HasDef K mg "_part_raised" "_part_raised" s_part_raised ["base", "power"]
  d_risen_fillings : HasDef K mg "_risen_fillings" "_risen_fillings" s_risen_fillings ["given", "filling"]
  d_filled : HasDef K mg "_filled" "_filled" s_filled ["product", "part", "risen"]
  d_power_in : HasDef K mg "_power_in" "_power_in" s_power_in ["product", "x"]
  d_totals_by_power : HasDef K mg "_totals_by_power" "_totals_by_power" s_totals_by_power ["given", "x"]
  d_sums_of_powers : HasDef K mg "_sums_of_powers" "_sums_of_powers" s_sums_of_powers ["highest"]
  d_next_sum_of_powers : HasDef K mg "_next_sum_of_powers" "_next_sum_of_powers" s_next_sum_of_powers ["row", "k"]
  d_law_next : HasDef K mg "_law_next" "_law_next" s_law_next ["_law_h", "_law_many"]
  d_law_names : HasDef K mg "_law_names" "_law_names" s_law_names ["_law_h"]
  d_law_tree : HasDef K mg "_law_tree" "_law_tree" s_law_tree ["_law_h", "_law_names_here", "_law_deep"]
  d_law_sum : HasDef K mg "_law_sum" "_law_sum" s_law_sum ["_law_tree_here"]
  d_law_at : HasDef K mg "_law_at" "_law_at" s_law_at ["_law_tree_here", "_law_point_here"]
  d_law_point : HasDef K mg "_law_point" "_law_point" s_law_point ["_law_h", "_law_names_here"]
  d_law_by_turns : HasDef K mg "_law_by_turns" "_law_by_turns" s_law_by_turns ["_law_tree_here", "_law_x", "_law_many", "_law_point_here"]
  m_sorted : mg "sorted" = none
  m_tuple : mg "tuple" = none
  m_len : mg "len" = none
  m_range : mg "range" = none
  m_max : mg "max" = none
  m_int : mg "int" = none
  m_dict : mg "dict" = none
  m_list : mg "list" = none
  i_gcd : mg "gcd" = some (.builtin "math.gcd")
/-! ### fractions -/
theorem divInt_num_pos {t b : Int} (h : 0 < b) : (Rat.divInt t b).num = t.fdiv ((Nat.gcd t.natAbs b.natAbs : Nat) : Int) := by
  rw [Rat.num_divInt, Int.sign_eq_one_of_pos h, Int.one_mul, Int.fdiv_eq_ediv_of_nonneg _ (by omega), Int.gcd, Nat.gcd_comm]
theorem divInt_den_pos {t b : Int} (h : 0 < b) : ((Rat.divInt t b).den : Int) = b.fdiv ((Nat.gcd t.natAbs b.natAbs : Nat) : Int) := by
  have e : ((b.natAbs : Nat) : Int) = b := by omega
  rw [Rat.den_divInt, if_neg (by omega), Int.fdiv_eq_ediv_of_nonneg _ (by omega), Int.gcd, Nat.gcd_comm, Int.natCast_ediv, e]
theorem gcd_pos {t b : Int} (h : b ≠ 0) : 0 < Nat.gcd t.natAbs b.natAbs := Nat.gcd_pos_of_pos_right _ (by omega)
theorem fdiv_neg_gcd {x : Int} {g : Nat} (hg : 0 < g) (hd : (g : Int) ∣ x) : x.fdiv (-(g : Int)) = (-x).fdiv (g : Int) := by
  obtain ⟨q, rfl⟩ := hd
  have e1 : (g : Int) * q = (-(g : Int)) * (-q) := by rw [Int.neg_mul_neg]
  have e2 : -((g : Int) * q) = (g : Int) * (-q) := by rw [Int.mul_neg]
  rw [e2, Int.mul_fdiv_cancel_left _ (by omega), e1, Int.mul_fdiv_cancel_left _ (by omega)]
theorem divInt_num_neg {t b : Int} (h : b < 0) : (Rat.divInt t b).num = t.fdiv (-((Nat.gcd t.natAbs b.natAbs : Nat) : Int)) := by
  rw [show Rat.divInt t b = Rat.divInt (-t) (-b) from (Rat.neg_divInt_neg t b).symm, divInt_num_pos (by omega : 0 < -b), fdiv_neg_gcd (gcd_pos (by omega)) (Int.ofNat_dvd_left.mpr (Nat.gcd_dvd_left _ _)), Int.natAbs_neg, Int.natAbs_neg]
theorem divInt_den_neg {t b : Int} (h : b < 0) : ((Rat.divInt t b).den : Int) = b.fdiv (-((Nat.gcd t.natAbs b.natAbs : Nat) : Int)) := by
  rw [show Rat.divInt t b = Rat.divInt (-t) (-b) from (Rat.neg_divInt_neg t b).symm, divInt_den_pos (by omega : 0 < -b), fdiv_neg_gcd (gcd_pos (by omega)) (Int.ofNat_dvd_left.mpr (Nat.gcd_dvd_right _ _)), Int.natAbs_neg, Int.natAbs_neg]
/-- the size of a fraction -/
def RB (a : Nat) (r : Rat) : Prop := r.num.natAbs < 2 ^ a ∧ r.den < 2 ^ a
theorem RB.divInt {a : Nat} {t b : Int} (h : b ≠ 0) (ht : t.natAbs < 2 ^ a) (hb : b.natAbs < 2 ^ a) : RB a (Rat.divInt t b) := by
  constructor
  · have hd : ((b.gcd t : Nat) : Int) ∣ b.sign * t := Int.dvd_trans (Int.gcd_dvd_right ..) (Int.dvd_mul_left _ _)
    rw [Rat.num_divInt, Int.natAbs_ediv_of_dvd hd, Int.natAbs_mul, Int.natAbs_sign, if_neg h, Nat.one_mul]
    exact Nat.lt_of_le_of_lt (Nat.div_le_self _ _) ht
  · rw [Rat.den_divInt, if_neg h]
    exact Nat.lt_of_le_of_lt (Nat.div_le_self _ _) hb
theorem RB.mono {a b : Nat} {r : Rat} (h : RB a r) (hab : a ≤ b) : RB b r := ⟨Nat.lt_of_lt_of_le h.1 (Nat.pow_le_pow_right (by decide) hab), Nat.lt_of_lt_of_le h.2 (Nat.pow_le_pow_right (by decide) hab)⟩
theorem den_ne (r : Rat) : (r.den : Int) ≠ 0 := by
  have := r.den_nz
  omega
theorem add_eq (r s : Rat) : r + s = Rat.divInt (r.num * s.den + s.num * r.den) (r.den * s.den) := by
  conv => lhs; rw [← Rat.num_divInt_den r, ← Rat.num_divInt_den s]
  exact Rat.divInt_add_divInt _ _ (den_ne r) (den_ne s)
theorem sub_eq (r s : Rat) : r - s = Rat.divInt (r.num * s.den - s.num * r.den) (r.den * s.den) := by
  conv => lhs; rw [← Rat.num_divInt_den r, ← Rat.num_divInt_den s]
  exact Rat.divInt_sub_divInt _ _ (den_ne r) (den_ne s)
theorem mul_eq (r s : Rat) : r * s = Rat.divInt (r.num * s.num) (r.den * s.den) := by
  conv => lhs; rw [← Rat.num_divInt_den r, ← Rat.num_divInt_den s]
  exact Rat.divInt_mul_divInt _ _ ..
theorem divInt_mul_den (t b : Int) (h : b ≠ 0) : (Rat.divInt t b).num * b = t * (Rat.divInt t b).den := by
  have e : Rat.divInt (Rat.divInt t b).num (Rat.divInt t b).den = Rat.divInt t b := Rat.num_divInt_den _
  exact (Rat.divInt_eq_divInt_iff (den_ne _) h).mp e
theorem natAbs_mul_lt {x y : Int} {a b : Nat} (hx : x.natAbs < 2 ^ a) (hy : y.natAbs < 2 ^ b) : (x * y).natAbs < 2 ^ (a + b) := by
  rw [Int.natAbs_mul, Nat.pow_add]
  exact Nat.mul_lt_mul'' hx hy
theorem natAbs_add_lt {x y : Int} {a : Nat} (hx : x.natAbs < 2 ^ a) (hy : y.natAbs < 2 ^ a) : (x + y).natAbs < 2 ^ (a + 1) := by
  rw [Nat.pow_succ]
  omega
theorem natAbs_sub_lt {x y : Int} {a : Nat} (hx : x.natAbs < 2 ^ a) (hy : y.natAbs < 2 ^ a) : (x - y).natAbs < 2 ^ (a + 1) := by
  rw [Nat.pow_succ]
  omega
theorem lt_up {n a b : Nat} (h : n < 2 ^ a) (hab : a ≤ b) : n < 2 ^ b := Nat.lt_of_lt_of_le h (Nat.pow_le_pow_right (by decide) hab)
/-! ### small things -/
theorem ixNat {n j : Nat} (h : j < n) : ixN n (j : Int) = some j := by
  unfold ixN
  rw [if_pos (by omega), if_pos (by omega)]
  rfl
theorem dpInts {K : PySem.W.Frag} {H : Hp} : ∀ cs : List Int, DpAll K H (cs.map V.int) (cs.map PyData.int)
  | [] => .nil
  | _ :: r => .cons (.int _) (dpInts r)
theorem canLayInts : ∀ cs : List Int, PyData.canLayAll0 (cs.map PyData.int) = true
  | [] => by simp [PyData.canLayAll0]
  | x :: r => by simp [PyData.canLayAll0, PyData.canLay0, canLayInts r]
theorem depthInts : ∀ cs : List Int, PyData.depthAll (cs.map PyData.int) = 0
  | [] => by simp [PyData.depthAll]
  | x :: r => by simp [PyData.depthAll, PyData.depth, depthInts r]
theorem shapedInts (cs : List Int) : SeqAt.shaped (.list (cs.map PyData.int)) = true := by
  simp [SeqAt.shaped, PyData.canLay0, PyData.depth, canLayInts, depthInts]
theorem eqvNil : ∀ cs : List Int, PyData.eqv (.list (cs.map PyData.int)) (.list []) = cs.isEmpty
  | [] => by simp [PyData.eqv, PyData.eqvAll]
  | x :: r => by simp [PyData.eqv, PyData.eqvAll]
/-! ### shares -/
theorem same_upd {H : Hp} {p : Addr} {o : HO} (h : H p = none) : Same H (upd H p o) := fun b x e => by
  rw [upd_ne (ne_of_none e h)]
  exact e
/-- // by any divisor but nought, below 2 ^ 9000 in size -/
def CDivZ (_ j : Int) : Prop := j ≠ 0 ∧ j.natAbs < 2 ^ 9000
theorem op_fdivZ {X : Cx} : OpR X (binaryOp .FloorDiv) (rI CDivZ fun i j => .int (i.fdiv j)) := opI fun _ _ _ _ _ _ _ hc q => floordiv_int hc.1 q (.inl (PyProof.noPylong_of_log2 (PySem.Flt.log2_lt_of (by decide) hc.2)))
theorem mulOk {i j : Int} {a b : Nat} (ha : i.natAbs < 2 ^ a) (hb : j.natAbs < 2 ^ b) (h0 : 0 < a) (h1 : 0 < b) (h : a + b ≤ 8999) : CMulW i j := wide_mul ha hb h0 h1 (by omega)
def ratV (r : Rat) : List V := [.int r.num, .int (r.den : Int)]
theorem ratV_num (r : Rat) : atI (ratV r) 0 = some (.int r.num) := atI_nat (j := 0) rfl
theorem ratV_den (r : Rat) : atI (ratV r) 1 = some (.int (r.den : Int)) := atI_nat (j := 1) rfl
theorem RB.den {a : Nat} {r : Rat} (h : RB a r) : ((r.den : Int)).natAbs < 2 ^ a := h.2
def spShare : Sp := fun vs H Q _ => ∃ (t b : Int), vs = [.int t, .int b] ∧ b ≠ 0 ∧ b.natAbs < 2 ^ 9000 ∧ ∀ p H', Same H H' → H p = none → H' p = some (.tup (ratV (Rat.divInt t b))) → Q (.ref p) H'
def spRat (K : PySem.W.Frag) (g : Rat → Rat → Rat) : Sp := fun vs H Q _ => ∃ (p q : Addr) (r s : Rat) (a b : Nat), vs = [.ref p, .ref q] ∧ SqT K H p (ratV r) ∧ SqT K H q (ratV s) ∧ RB a r ∧ RB b s ∧ 0 < a ∧ 0 < b ∧ a + b ≤ 8999 ∧
  ∀ o H', Same H H' → H o = none → H' o = some (.tup (ratV (g r s))) → Q (.ref o) H'
section
variable {P : Program} {w : World} {K : PySem.W.Frag} {mg : Str → Option Value} {base : Heap}
theorem ok_share {f : Addr} {fd : FuncData} {C : Addr} (T : Txt K mg C) (D : DefAt K mg "share" "share" s_share ["top", "bottom"] f fd) : FnOk P w K mg base CX0 1 f fd ["top", "bottom"] spShare := by
  refine D.F.ok sc_share (fun vs H Q E h => ?_) (fun cdv A outer s H vs Q E hr h => ?_)
  · obtain ⟨t, b, rfl, _⟩ := h
    rfl
  · obtain ⟨t, b, rfl, hb0, hb, q⟩ := h
    refine ⟨_, pss_cons (ps_set (i := 2) sc_share.nd rfl (.inl rfl) (pe_callBfun cr_gcd (by rfl) T.i_gcd (pa_cons (pv 0) (pa_cons (pv 1) pa_nil))))
      (pss_cons (ps_if (pt_cmpR op_lt (pv 1) pe_int (nomark _)) (pss_one (ps_set (i := 2) sc_share.nd rfl (.inl rfl) (pe_un un_neg (pv 2)))) pss_nil)
      (pss_one (ps_ret (pe_tup (pa_cons (pe_op op_fdivZ (pv 0) (pv 2)) (pa_cons (pe_op op_fdivZ (pv 1) (pv 2)) pa_nil)))))), ?_⟩
    have g0 := gcd_pos (t := t) hb0
    have g1 : Nat.gcd t.natAbs b.natAbs ≤ b.natAbs := Nat.gcd_le_right _ (by omega)
    refine ⟨_, rfl, _, rfl, t, b, rfl, _, rfl, _, _, rfl, rfl, _, rfl, ite2 (fun e => ?_) (fun e => ?_)⟩
    · have e' : b < 0 := of_decide_eq_true e
      refine ⟨_, rfl, _, rfl, _, rfl, _, rfl, _, _, rfl, rfl, ⟨by omega, by rw [Int.natAbs_neg]; exact Nat.lt_of_le_of_lt g1 hb⟩, _, rfl, _, rfl, _, _, rfl, rfl, ⟨by omega, by rw [Int.natAbs_neg]; exact Nat.lt_of_le_of_lt g1 hb⟩, (by show 2 ≤ sizeLine; decide), fun p hp => q p _ (same_upd hp) hp ?_⟩
      unfold ratV
      rw [divInt_num_neg e', divInt_den_neg e']
      exact upd_same
    · have e' : 0 < b := by
        have := of_decide_eq_false (Bool.eq_false_iff.mpr e)
        omega
      refine ⟨_, rfl, _, rfl, _, _, rfl, rfl, ⟨by omega, Nat.lt_of_le_of_lt g1 hb⟩, _, rfl, _, rfl, _, _, rfl, rfl, ⟨by omega, Nat.lt_of_le_of_lt g1 hb⟩, (by show 2 ≤ sizeLine; decide), fun p hp => q p _ (same_upd hp) hp ?_⟩
      unfold ratV
      rw [divInt_num_pos e', divInt_den_pos e']
      exact upd_same
theorem ok_plus {f : Addr} {fd : FuncData} {C : Addr} (T : Txt K mg C) (D : DefAt K mg "plus" "plus" s_plus ["one", "other"] f fd) : FnOk P w K mg base CX0 2 f fd ["one", "other"] (spRat K (· + ·)) := by
  obtain ⟨f1, fd1, D1⟩ := T.d_share
  have G : FnOk P w K mg base CX0 1 f1 fd1 ["top", "bottom"] spShare := ok_share T D1
  refine D.F.ok sc_plus (fun vs H Q E h => ?_) (fun cdv A outer s H vs Q E hr h => ?_)
  · obtain ⟨p, q, r, t, a, b, rfl, _⟩ := h
    rfl
  · obtain ⟨p, q, r, t, a, b, rfl, hp, hq, ra, rb, a0, b0, hab, k⟩ := h
    refine ⟨_, pss_one (ps_ret (pe_call G hr (by rfl) D1.g D1.F.kp D1.b .nil pass0 (pa_cons
      (pe_op op_add (pe_op op_mulW (pe_ix ix_tup (pv 0) pe_int (fun _ _ => rfl)) (pe_ix ix_tup (pv 1) pe_int (fun _ _ => rfl))) (pe_op op_mulW (pe_ix ix_tup (pv 1) pe_int (fun _ _ => rfl)) (pe_ix ix_tup (pv 0) pe_int (fun _ _ => rfl))))
      (pa_cons (pe_op op_mulW (pe_ix ix_tup (pv 0) pe_int (fun _ _ => rfl)) (pe_ix ix_tup (pv 1) pe_int (fun _ _ => rfl))) pa_nil)))), ?_⟩
    refine ⟨_, rfl, p, _, _, _, rfl, rfl, hp, ratV_num r, _, rfl, q, _, _, _, rfl, rfl, hq, ratV_den t, _, _, rfl, rfl, mulOk ra.1 rb.den a0 b0 hab,
      _, rfl, q, _, _, _, rfl, rfl, hq, ratV_num t, _, rfl, p, _, _, _, rfl, rfl, hp, ratV_den r, _, _, rfl, rfl, mulOk rb.1 ra.den b0 a0 (by omega), _, _, rfl, rfl,
      _, rfl, p, _, _, _, rfl, rfl, hp, ratV_den r, _, rfl, q, _, _, _, rfl, rfl, hq, ratV_den t, _, _, rfl, rfl, mulOk ra.den rb.den a0 b0 hab, _, _, rfl, ?_, ?_, fun o H' sm ho e => k o H' sm ho ?_⟩
    · exact Int.mul_ne_zero (den_ne r) (den_ne t)
    · exact lt_up (natAbs_mul_lt ra.den rb.den) (by omega)
    · rw [e]
      show some (HO.tup (ratV _)) = some (HO.tup (ratV (r + t)))
      rw [add_eq]
theorem ok_minus {f : Addr} {fd : FuncData} {C : Addr} (T : Txt K mg C) (D : DefAt K mg "minus" "minus" s_minus ["one", "other"] f fd) : FnOk P w K mg base CX0 2 f fd ["one", "other"] (spRat K (· - ·)) := by
  obtain ⟨f1, fd1, D1⟩ := T.d_share
  have G : FnOk P w K mg base CX0 1 f1 fd1 ["top", "bottom"] spShare := ok_share T D1
  refine D.F.ok sc_minus (fun vs H Q E h => ?_) (fun cdv A outer s H vs Q E hr h => ?_)
  · obtain ⟨p, q, r, t, a, b, rfl, _⟩ := h
    rfl
  · obtain ⟨p, q, r, t, a, b, rfl, hp, hq, ra, rb, a0, b0, hab, k⟩ := h
    refine ⟨_, pss_one (ps_ret (pe_call G hr (by rfl) D1.g D1.F.kp D1.b .nil pass0 (pa_cons
      (pe_op op_sub (pe_op op_mulW (pe_ix ix_tup (pv 0) pe_int (fun _ _ => rfl)) (pe_ix ix_tup (pv 1) pe_int (fun _ _ => rfl))) (pe_op op_mulW (pe_ix ix_tup (pv 1) pe_int (fun _ _ => rfl)) (pe_ix ix_tup (pv 0) pe_int (fun _ _ => rfl))))
      (pa_cons (pe_op op_mulW (pe_ix ix_tup (pv 0) pe_int (fun _ _ => rfl)) (pe_ix ix_tup (pv 1) pe_int (fun _ _ => rfl))) pa_nil)))), ?_⟩
    refine ⟨_, rfl, p, _, _, _, rfl, rfl, hp, ratV_num r, _, rfl, q, _, _, _, rfl, rfl, hq, ratV_den t, _, _, rfl, rfl, mulOk ra.1 rb.den a0 b0 hab,
      _, rfl, q, _, _, _, rfl, rfl, hq, ratV_num t, _, rfl, p, _, _, _, rfl, rfl, hp, ratV_den r, _, _, rfl, rfl, mulOk rb.1 ra.den b0 a0 (by omega), _, _, rfl, rfl,
      _, rfl, p, _, _, _, rfl, rfl, hp, ratV_den r, _, rfl, q, _, _, _, rfl, rfl, hq, ratV_den t, _, _, rfl, rfl, mulOk ra.den rb.den a0 b0 hab, _, _, rfl, ?_, ?_, fun o H' sm ho e => k o H' sm ho ?_⟩
    · exact Int.mul_ne_zero (den_ne r) (den_ne t)
    · exact lt_up (natAbs_mul_lt ra.den rb.den) (by omega)
    · rw [e]
      show some (HO.tup (ratV _)) = some (HO.tup (ratV (r - t)))
      rw [sub_eq]
theorem ok_times {f : Addr} {fd : FuncData} {C : Addr} (T : Txt K mg C) (D : DefAt K mg "times" "times" s_times ["one", "other"] f fd) : FnOk P w K mg base CX0 2 f fd ["one", "other"] (spRat K (· * ·)) := by
  obtain ⟨f1, fd1, D1⟩ := T.d_share
  have G : FnOk P w K mg base CX0 1 f1 fd1 ["top", "bottom"] spShare := ok_share T D1
  refine D.F.ok sc_times (fun vs H Q E h => ?_) (fun cdv A outer s H vs Q E hr h => ?_)
  · obtain ⟨p, q, r, t, a, b, rfl, _⟩ := h
    rfl
  · obtain ⟨p, q, r, t, a, b, rfl, hp, hq, ra, rb, a0, b0, hab, k⟩ := h
    refine ⟨_, pss_one (ps_ret (pe_call G hr (by rfl) D1.g D1.F.kp D1.b .nil pass0 (pa_cons
      (pe_op op_mulW (pe_ix ix_tup (pv 0) pe_int (fun _ _ => rfl)) (pe_ix ix_tup (pv 1) pe_int (fun _ _ => rfl)))
      (pa_cons (pe_op op_mulW (pe_ix ix_tup (pv 0) pe_int (fun _ _ => rfl)) (pe_ix ix_tup (pv 1) pe_int (fun _ _ => rfl))) pa_nil)))), ?_⟩
    refine ⟨_, rfl, p, _, _, _, rfl, rfl, hp, ratV_num r, _, rfl, q, _, _, _, rfl, rfl, hq, ratV_num t, _, _, rfl, rfl, mulOk ra.1 rb.1 a0 b0 hab,
      _, rfl, p, _, _, _, rfl, rfl, hp, ratV_den r, _, rfl, q, _, _, _, rfl, rfl, hq, ratV_den t, _, _, rfl, rfl, mulOk ra.den rb.den a0 b0 hab, _, _, rfl, ?_, ?_, fun o H' sm ho e => k o H' sm ho ?_⟩
    · exact Int.mul_ne_zero (den_ne r) (den_ne t)
    · exact lt_up (natAbs_mul_lt ra.den rb.den) (by omega)
    · rw [e]
      show some (HO.tup (ratV _)) = some (HO.tup (ratV (r * t)))
      rw [mul_eq]
end
theorem RB.add {a b : Nat} {r s : Rat} (h : RB a r) (g : RB b s) : RB (a + b + 1) (r + s) := by
  rw [add_eq]
  refine RB.divInt (Int.mul_ne_zero (den_ne r) (den_ne s)) (natAbs_add_lt (natAbs_mul_lt h.1 g.den) ?_) (lt_up (natAbs_mul_lt h.den g.den) (by omega))
  rw [Nat.add_comm]
  exact natAbs_mul_lt g.1 h.den
theorem RB.sub {a b : Nat} {r s : Rat} (h : RB a r) (g : RB b s) : RB (a + b + 1) (r - s) := by
  rw [sub_eq]
  refine RB.divInt (Int.mul_ne_zero (den_ne r) (den_ne s)) (natAbs_sub_lt (natAbs_mul_lt h.1 g.den) ?_) (lt_up (natAbs_mul_lt h.den g.den) (by omega))
  rw [Nat.add_comm]
  exact natAbs_mul_lt g.1 h.den
theorem RB.mul {a b : Nat} {r s : Rat} (h : RB a r) (g : RB b s) : RB (a + b) (r * s) := by
  rw [mul_eq]
  exact RB.divInt (Int.mul_ne_zero (den_ne r) (den_ne s)) (natAbs_mul_lt h.1 g.1) (natAbs_mul_lt h.den g.den)
/-! ### dicts whose keys are products: tuples of pairs (name, power) -/
abbrev Pr := List (Str × Int)
def keyN (m : Pr) : NestedKey := .tup (m.map fun x => .tup [.text x.1, .num x.2])
theorem keyN_inj' : ∀ {a b : Pr}, (a.map fun x => NestedKey.tup [.text x.1, .num x.2]) = (b.map fun x => NestedKey.tup [.text x.1, .num x.2]) → a = b
  | [], [], _ => rfl
  | [], _ :: _, h => by simp at h
  | _ :: _, [], h => by simp at h
  | (x1, x2) :: r, (y1, y2) :: t, h => by
    simp only [List.map_cons, List.cons.injEq, NestedKey.tup.injEq, NestedKey.text.injEq, NestedKey.num.injEq, and_true] at h
    obtain ⟨⟨h1, h2⟩, h3⟩ := h
    rw [h1, h2, keyN_inj' h3]
theorem keyN_inj {a b : Pr} (h : keyN a = keyN b) : a = b := by
  unfold keyN at h
  injection h with h
  exact keyN_inj' h
/-- the pair x stands at q; the product m stands at p -/
def PairAt (K : PySem.W.Frag) (H : Hp) (q : Addr) (x : Str × Int) : Prop := SqT K H q [.str x.1, .int x.2]
def ProdAt (K : PySem.W.Frag) (H : Hp) (p : Addr) (m : Pr) : Prop := ∃ qs : List Addr, SqT K H p (qs.map V.ref) ∧ Paired (PairAt K H) qs m
theorem SqT.keeps {K : PySem.W.Frag} {H H' : Hp} {a : Addr} {xs : List V} (h : SqT K H a xs) (k : ∀ b o, Rd H b (.tup o) → Rd H' b (.tup o)) : SqT K H' a xs := by
  rcases h with h | h
  · exact .inl (k _ _ h)
  · exact .inr h
/-- tuples stay -/
def TupsStay (H H' : Hp) : Prop := ∀ b o, Rd H b (.tup o) → Rd H' b (.tup o)
theorem TupsStay.refl (H : Hp) : TupsStay H H := fun _ _ h => h
theorem TupsStay.trans {H H1 H2 : Hp} (a : TupsStay H H1) (b : TupsStay H1 H2) : TupsStay H H2 := fun x o h => b x o (a x o h)
theorem TupsStay.same {H H' : Hp} (s : Same H H') : TupsStay H H' := fun b o h => by
  rcases h with h | ⟨ob, h⟩
  · exact .inl (s _ _ h)
  · exact .inr ⟨ob, s _ _ h⟩
def NotTup : HO → Prop
  | .tup _ => False
  | .frz _ (.tup _) => False
  | _ => True
theorem TupsStay.upd {H : Hp} {d : Addr} {u o : HO} (e : H d = some u) (n : NotTup u) : TupsStay H (upd H d o) := fun b xs h => by
  have nb : b ≠ d := fun z => by
    subst z
    rcases h with h | ⟨ob, h⟩
    · rw [e] at h
      cases h
      exact n
    · rw [e] at h
      cases h
      exact n
  rcases h with h | ⟨ob, h⟩
  · exact .inl (by rw [upd_ne nb]; exact h)
  · exact .inr ⟨ob, by rw [upd_ne nb]; exact h⟩
theorem TupsStay.new {H : Hp} {d : Addr} {o : HO} (e : H d = none) : TupsStay H (L2.upd H d o) := TupsStay.same (same_upd e)
theorem PairAt.stay {K : PySem.W.Frag} {H H' : Hp} {q : Addr} {x : Str × Int} (h : PairAt K H q x) (t : TupsStay H H') : PairAt K H' q x := SqT.keeps h t
theorem ProdAt.stay {K : PySem.W.Frag} {H H' : Hp} {p : Addr} {m : Pr} (h : ProdAt K H p m) (t : TupsStay H H') : ProdAt K H' p m := by
  obtain ⟨qs, h1, h2⟩ := h
  exact ⟨qs, SqT.keeps h1 t, Paired.mapP h2 fun _ _ z => PairAt.stay z t⟩
section
variable {X : Cx} {pins : List (Addr × Obj)} {σ : L2.St} {H : Hp} {s : Shared}
theorem ProdAt.nested (I : Inv X pins σ H s) {p : Addr} {m : Pr} (h : ProdAt X.K H p m) : (nestedKind X.prog X.w).is s.heap (keyN m) p := by
  obtain ⟨qs, h1, h2⟩ := h
  obtain ⟨its, rv, ⟨o, ho, hc, n, hd⟩, _⟩ := I.tuple h1
  have all : ∀ (qs : List Addr) (m : Pr) (its : List Value), Paired (PairAt X.K H) qs m → Vals (qs.map V.ref) its → NestedAll s.heap (m.map fun x => NestedKey.tup [.text x.1, .num x.2]) its := by
    intro qs m its q
    induction q generalizing its with
    | nil =>
      intro r
      cases r
      exact .nil
    | @cons q x qs m hq _ ih =>
      intro r
      rw [List.map_cons] at r
      cases r with
      | cons r1 r2 =>
        cases r1
        obtain ⟨jts, rj, ⟨o', ho', hc', n', hd'⟩, _⟩ := I.tuple hq
        rw [List.map_cons]
        refine .cons (.tup ho' hc' hd' ?_) (ih _ r2)
        cases rj with
        | cons r3 r4 =>
          cases r4 with
          | cons r5 r6 =>
            cases r6
            obtain ⟨t, rfl⟩ := r3
            obtain ⟨t', rfl⟩ := r5
            exact .cons (.text _ _) (.cons (.int _ _) .nil)
  refine ⟨.tup ho hc hd (by simpa using all qs m its h2 rv), ?_⟩
  show (keyN m).depth ≤ 8
  have hdep : ∀ m : Pr, NestedKey.depthAll (m.map fun x => NestedKey.tup [.text x.1, .num x.2]) ≤ 1 := by
    intro m
    induction m with
    | nil => simp [NestedKey.depthAll]
    | cons x r ih =>
      rw [List.map_cons]
      simp only [NestedKey.depthAll, NestedKey.depth]
      omega
  have := hdep m
  show NestedKey.depth (.tup _) ≤ 8
  simp only [NestedKey.depth]
  omega
theorem ProdAt.inj (I : Inv X pins σ H s) {p : Addr} {m m' : Pr} (h : ProdAt X.K H p m) (h' : ProdAt X.K H p m') : m = m' := by
  have a := h.nested I
  have b := h'.nested I
  exact keyN_inj ((nestedKind X.prog X.w).inj a b)
end
/-- the entries of such a dict's object -/
def rawN (w : World) (a : Addr) (xs : List (NestedKey × Addr × Value)) (h : Heap) : Prop :=
  ∃ o es ep, h.get? a = some o ∧ o.ExactDict ∧ o.data = .dict es ep ∧ es.toList = xs.map (fun x => (⟨x.1.hash w, .ref x.2.1, x.2.2⟩ : DictEntry))
def ndO (w : World) (a : Addr) (xs : List (NestedKey × Addr × Value)) : HO := .ext (rawN w a xs)
/-- what its entries are -/
abbrev KN (K : PySem.W.Frag) (H : Hp) : List (Pr × V) → List (NestedKey × Addr × Value) → Prop := Paired fun p q => keyN p.1 = q.1 ∧ ProdAt K H q.2.1 p.1 ∧ RelV p.2 q.2.2
/-- the dict L with such keys stands at d: u is how it stands there -/
structure NDAs (K : PySem.W.Frag) (w : World) (H : Hp) (d : Addr) (L : List (Pr × V)) (xs : List (NestedKey × Addr × Value)) : Prop where
  len : L.length ≤ sizeLine
  sys : (d == sysModules) = false
  rel : KN K H L xs
  nd : (L.map (·.1)).Nodup
def ND (K : PySem.W.Frag) (w : World) (H : Hp) (d : Addr) (L : List (Pr × V)) : Prop := ∃ xs, H d = some (ndO w d xs) ∧ NDAs K w H d L xs
def NF (K : PySem.W.Frag) (w : World) (H : Hp) (d : Addr) (o : Obj) (L : List (Pr × V)) : Prop := ∃ xs, H d = some (.frz o (ndO w d xs)) ∧ NDAs K w H d L xs
/-- .. to be read -/
def NR (K : PySem.W.Frag) (w : World) (H : Hp) (d : Addr) (L : List (Pr × V)) : Prop := ∃ xs, Rd H d (ndO w d xs) ∧ NDAs K w H d L xs
theorem ND.r {K w H d L} (h : ND K w H d L) : NR K w H d L := let ⟨xs, e, n⟩ := h; ⟨xs, .inl e, n⟩
theorem NF.r {K w H d o L} (h : NF K w H d o L) : NR K w H d L := let ⟨xs, e, n⟩ := h; ⟨xs, .inr ⟨o, e⟩, n⟩
theorem NDAs.stay {K w H H' d L xs} (n : NDAs K w H d L xs) (t : TupsStay H H') : NDAs K w H' d L xs := ⟨n.len, n.sys, Paired.mapP n.rel fun _ _ z => ⟨z.1, z.2.1.stay t, z.2.2⟩, n.nd⟩
theorem ND.stay {K w H H' d L} (h : ND K w H d L) (t : TupsStay H H') (k : ∀ o, H d = some o → H' d = some o) : ND K w H' d L := let ⟨xs, e, n⟩ := h; ⟨xs, k _ e, n.stay t⟩
theorem NF.stay {K w H H' d o L} (h : NF K w H d o L) (t : TupsStay H H') (k : ∀ o, H d = some o → H' d = some o) : NF K w H' d o L := let ⟨xs, e, n⟩ := h; ⟨xs, k _ e, n.stay t⟩
theorem NR.stay {K w H H' d L} (h : NR K w H d L) (t : TupsStay H H') (k : ∀ o, H d = some o → H' d = some o) : NR K w H' d L := by
  obtain ⟨xs, e, n⟩ := h
  refine ⟨xs, ?_, n.stay t⟩
  rcases e with e | ⟨o, e⟩
  · exact .inl (k _ e)
  · exact .inr ⟨o, k _ e⟩
section
variable {K : PySem.W.Frag} {H : Hp}
theorem KN.val {kvs : List (Pr × V)} {xs : List (NestedKey × Addr × Value)} (r : KN K H kvs xs) (k : Pr) : RelO (valV kvs k) ((atKey xs (keyN k)).map (·.2)) := by
  induction r with
  | nil => exact True.intro
  | @cons p q ps qs h t ih =>
    obtain ⟨h1, _, h2⟩ := h
    by_cases e : p.1 = k
    · have e' : q.1 = keyN k := by rw [← h1, e]
      have b : atKey (q :: qs) (keyN k) = some q.2 := by simp [atKey, List.find?_cons, e']
      rw [valV_pos e, b]
      exact h2
    · have e' : ¬ q.1 = keyN k := fun z => e (keyN_inj (h1.trans z))
      have b : atKey (q :: qs) (keyN k) = atKey qs (keyN k) := by simp [atKey, List.find?_cons, e']
      rw [valV_neg e, b]
      exact ih
theorem KN.repl {kvs : List (Pr × V)} {xs : List (NestedKey × Addr × Value)} (r : KN K H kvs xs) (k : Pr) {y : V} {u : Value} (ry : RelV y u) :
    KN K H (kvs.map fun kv => if kv.1 = k then (kv.1, y) else kv) (xs.map (putAt (keyN k) u)) := by
  induction r with
  | nil => exact .nil
  | @cons p q ps qs h t ih =>
    rw [List.map_cons, List.map_cons]
    refine .cons ?_ ih
    obtain ⟨h1, h2, h3⟩ := h
    unfold putAt
    by_cases e : p.1 = k
    · rw [if_pos e, if_pos (by rw [← h1, e])]
      exact ⟨h1, h2, ry⟩
    · rw [if_neg e, if_neg (fun z => e (keyN_inj (h1.trans z)))]
      exact ⟨h1, h2, h3⟩
theorem KN.put {kvs : List (Pr × V)} {xs : List (NestedKey × Addr × Value)} (r : KN K H kvs xs) (k : Pr) {b : Addr} {y : V} {u : Value} (hb : ProdAt K H b k) (ry : RelV y u) :
    KN K H (putK kvs k y) (storedH xs (keyN k) b u) := by
  have e : (kvs.any fun kv => decide (kv.1 = k)) = (atKey xs (keyN k)).isSome := by
    rw [valV_any, (r.val k).isSome_eq, Option.isSome_map]
  unfold putK storedH
  rw [e]
  by_cases q : (atKey xs (keyN k)).isSome = true
  · rw [if_pos q, if_pos q]
    exact r.repl k ry
  · rw [if_neg q, if_neg q]
    exact Paired.snoc r ⟨rfl, hb, ry⟩
theorem KN.drop {kvs : List (Pr × V)} {xs : List (NestedKey × Addr × Value)} (r : KN K H kvs xs) (k : Pr) : KN K H (dropK kvs k) (withoutH xs (keyN k)) := by
  induction r with
  | nil => exact .nil
  | @cons p q ps qs h t ih =>
    obtain ⟨h1, h2, h3⟩ := h
    unfold dropK withoutH
    rw [List.filter_cons, List.filter_cons]
    by_cases e : p.1 = k
    · rw [if_neg (by simp [e]), if_neg (by simp [← h1, e])]
      exact ih
    · rw [if_pos (by simp [e]), if_pos (by simp only [decide_eq_true_eq]; exact fun z => e (keyN_inj (h1.trans z)))]
      exact .cons ⟨h1, h2, h3⟩ ih
theorem nd_put {kvs : List (Pr × V)} (k : Pr) (v : V) (h : (kvs.map (·.1)).Nodup) : ((putK kvs k v).map (·.1)).Nodup := by
  unfold putK
  split
  · have e : (kvs.map fun kv => if kv.1 = k then (kv.1, v) else kv).map (·.1) = kvs.map (·.1) := by
      rw [List.map_map]
      refine List.map_congr_left fun x _ => ?_
      show (if x.1 = k then (x.1, v) else x).1 = x.1
      split <;> rfl
    rw [e]
    exact h
  · rename_i hn
    rw [List.map_append]
    refine List.nodup_append.mpr ⟨h, by simp, fun a ha b hb z => ?_⟩
    have eb : b = k := by simpa using hb
    subst z
    subst eb
    obtain ⟨x, hx, e⟩ := List.mem_map.mp ha
    exact hn (List.any_eq_true.mpr ⟨x, hx, by simp [e]⟩)
theorem nd_drop {kvs : List (Pr × V)} (k : Pr) (h : (kvs.map (·.1)).Nodup) : ((dropK kvs k).map (·.1)).Nodup := by
  unfold dropK
  exact h.sublist (List.Sublist.map _ List.filter_sublist)
end
section
variable {X : Cx} {pins : List (Addr × Obj)} {σ : L2.St} {H : Hp} {s : Shared} {a : Addr}
theorem rawN_ok {xs : List (NestedKey × Addr × Value)} (I : Inv X pins σ H s) (e : Rd H a (ndO X.w a xs)) : rawN X.w a xs s.heap := by
  have z : ObjOk X.prog X.w H s.heap a (ndO X.w a xs) := e.ok I.hok
  exact z.1
theorem keys_ok {L : List (Pr × V)} {xs : List (NestedKey × Addr × Value)} (I : Inv X pins σ H s) (r : KN X.K H L xs) : ∀ x ∈ xs, (nestedKind X.prog X.w).is s.heap x.1 x.2.1 := by
  induction r with
  | nil => intro x hx; exact nomatch hx
  | @cons p q ps qs h t ih =>
    intro x hx
    rcases List.mem_cons.mp hx with e | hx
    · subst e
      rw [← h.1]
      exact h.2.1.nested I
    · exact ih x hx
theorem keys_map {L : List (Pr × V)} {xs : List (NestedKey × Addr × Value)} {K : PySem.W.Frag} (r : KN K H L xs) : xs.map (·.1) = (L.map (·.1)).map keyN := by
  induction r with
  | nil => rfl
  | @cons p q ps qs h t ih => rw [List.map_cons, List.map_cons, List.map_cons, ih, ← h.1]
theorem nodup_keys {l : List Pr} (h : l.Nodup) : (l.map keyN).Nodup := by
  induction l with
  | nil => exact List.nodup_nil
  | cons x r ih =>
    obtain ⟨h1, h2⟩ := List.nodup_cons.mp h
    rw [List.map_cons]
    refine List.nodup_cons.mpr ⟨fun z => ?_, ih h2⟩
    obtain ⟨y, hy, e⟩ := List.mem_map.mp z
    rw [keyN_inj e] at hy
    exact h1 hy
/-- the library's own view of it -/
theorem NDAs.dict {L : List (Pr × V)} {xs : List (NestedKey × Addr × Value)} (I : Inv X pins σ H s) (n : NDAs X.K X.w H a L xs) (e : Rd H a (ndO X.w a xs)) : s.heap.DictOfH (nestedKind X.prog X.w) a xs := by
  obtain ⟨o, es, ep, h1, h2, h3, h4⟩ := rawN_ok I e
  refine ⟨o, es, ep, h1, h2, h3, h4, keys_ok I n.rel, ?_⟩
  rw [keys_map n.rel]
  exact nodup_keys n.nd
theorem rawN_of {h : Heap} {prog : Program} {w : World} {xs : List (NestedKey × Addr × Value)} (d : h.DictOfH (nestedKind prog w) a xs) : rawN w a xs h := by
  obtain ⟨o, es, ep, h1, h2, h3, h4, _⟩ := d
  exact ⟨o, es, ep, h1, h2, h3, h4⟩
theorem ndO_ok {prog : Program} {w : World} {H' : Hp} {h : Heap} {xs : List (NestedKey × Addr × Value)} (r : rawN w a xs h) : ObjOk prog w H' h a (ndO w a xs) := by
  refine ⟨r, let ⟨o, _, _, e, _⟩ := r; ⟨o, e⟩, fun h1 h2 x k => ?_⟩
  obtain ⟨o, es, ep, e, q⟩ := x
  exact ⟨o, es, ep, k _ e, q⟩
theorem notTup_nd {w : World} {xs : List (NestedKey × Addr × Value)} : NotTup (ndO w a xs) := True.intro
theorem notTup_ndf {w : World} {o : Obj} {xs : List (NestedKey × Addr × Value)} : NotTup (.frz o (ndO w a xs)) := True.intro
/-- its object is changed -/
theorem nd_write {L L' : List (Pr × V)} {xs xs' : List (NestedKey × Addr × Value)} {h' : Heap} {t' : Nat} (I : Inv X pins σ H s) (e : H a = some (ndO X.w a xs)) (hl : L'.length ≤ sizeLine) (n : NDAs X.K X.w H a L xs) (rel : KN X.K H L' xs') (hn : (L'.map (·.1)).Nodup)
    (dd : h'.DictOfH (nestedKind X.prog X.w) a xs') (hs : Heap.SameBut a s.heap h') : Inv X pins σ (upd H a (ndO X.w a xs')) { s with heap := h', toks := t' } ∧ ND X.K X.w (upd H a (ndO X.w a xs')) a L' := by
  have r := rawN_of dd
  refine ⟨d_write I (by rw [e]; exact True.intro) hs (let ⟨o, _, _, z, _⟩ := r; ⟨o, z⟩) (ndO_ok r), xs', upd_same, ?_⟩
  exact NDAs.stay (H := H) ⟨hl, n.sys, rel, hn⟩ (TupsStay.upd e True.intro)
theorem room9 {A : Around} (hu : A.units + 64 < cLine) : (nestedKind X.prog X.w).room A.in1 := by
  show A.in1.units + 8 < cLine
  rw [Around.in1_units]
  omega
theorem NR.typeIs {L : List (Pr × V)} (I : Inv X pins σ H s) (h : NR X.K X.w H a L) : s.TypeIs (.ref a) "dict" ∧ (∀ b, Value.ref a = .ref b → ∃ ob, s.heap.get? b = some ob ∧ ob.dict = none) ∧ (a == sysModules) = false := by
  obtain ⟨xs, e, n⟩ := h
  obtain ⟨o, es, ep, h1, h2, h3, h4⟩ := rawN_ok I e
  refine ⟨⟨o, h1, h2.1⟩, fun b q => ?_, n.sys⟩
  cases q
  exact ⟨o, h1, h2.2.1⟩
end
/-! ### their rules -/
def tNewN (w : World) : TE := fun _ H Q => ∀ p, H p = none → (p == sysModules) = false → Q (.ref p) (upd H p (ndO w p []))
def tGetN (K : PySem.W.Frag) (w : World) (td ty tx : TE) : TE := fun σ H Q => td σ H fun x H1 => ∃ a L0, x = .ref a ∧ NR K w H1 a L0 ∧ ty σ H1 fun y H2 => tx σ H2 fun z H3 => ∃ L k b, y = .ref b ∧ NR K w H3 a L ∧ ProdAt K H3 b k ∧ Q ((valV L k).getD z) H3
def tPopN (K : PySem.W.Frag) (w : World) (td ty tx : TE) : TE := fun σ H Q => td σ H fun x H1 => ∃ a L0, x = .ref a ∧ NR K w H1 a L0 ∧ ty σ H1 fun y H2 => tx σ H2 fun z H3 => ∃ L k b, y = .ref b ∧ ND K w H3 a L ∧ ProdAt K H3 b k ∧
  (∀ v o, valV L k = some v → ND K w (upd H3 a o) a (dropK L k) → Q v (upd H3 a o)) ∧ (valV L k = none → Q z H3)
def sPutN (K : PySem.W.Frag) (w : World) (td ty tv : TE) : TS := fun D σ H => tv σ H fun v H1 => td σ H1 fun x H2 => ty σ H2 fun y H3 => ∃ a L k b, x = .ref a ∧ y = .ref b ∧ ND K w H3 a L ∧ L.length < sizeLine ∧ ProdAt K H3 b k ∧
  ∀ o, ND K w (upd H3 a o) a (putK L k v) → D.nx σ (upd H3 a o)
section
variable {X : Cx} {o e f i value : Expr} {apos cpos pos pos' : Pos} {td ty tx tv : TE}
theorem pe_newN : PE X (.Dict [] [] pos) (tNewN X.w) := ⟨fun pins s σ H Q I h =>
  wpAny_Dict_empty ⟨.ref s.heap.objs.size, _, I.laid (a := s.heap.objs.size) (o := ndO X.w s.heap.objs.size []) (t' := s.toks) (fun _ _ q => Heap.get?_push_of_some _ q) (Nat.le_refl _)
    (ndO_ok ⟨_, #[], 0, Heap.get?_push_size _ rfl, ⟨rfl, rfl, rfl⟩, rfl, rfl⟩), rfl, h _ (I.hok.fresh (Nat.le_refl _)) (beq_eq_false_iff_ne.mpr (Ne.symm (Nat.ne_of_lt I.big)))⟩⟩
theorem pe_getN (hu : X.A.units + 64 < cLine) (ho : PE X o td) (he : PE X e ty) (hf : PE X f tx) (m : M2 X o "get" apos e f cpos) : PE X (.Call (.Attribute o "get" apos) [e, f] [] cpos) (tGetN X.K X.w td ty tx) := by
  refine ⟨fun pins s σ H Q I h => ?_⟩
  refine wpAny_Call_method m.base m.few m.line PySem.F.plainAttrs_dict PySem.F.slot_dict_get PySem.F.type_dict_get (thn (ho.run pins s σ H _ I h) fun u s1 ⟨x, H1, I1, rx, a, L0, ex, d, q1⟩ => ?_)
  subst ex
  obtain rfl : u = Value.ref a := rx
  obtain ⟨t1, t2, _⟩ := d.typeIs I1
  refine ⟨t1, t2, ?_⟩
  rw [m.trees]
  refine Calls.callWith_builtin rfl (Calls.evalArgs_plain (Calls.spliced_cons (thn (he.run pins s1 σ H1 _ I1 q1) fun iv s2 ⟨y, H2, I2, ry, q2⟩ =>
    Calls.spliced_cons (thn (hf.run pins s2 σ H2 _ I2 q2) fun fv s3 ⟨z, H3, I3, rz, L, k, b, ey, g, hk, q3⟩ => Calls.spliced_nil ?_))))
  subst ey
  obtain rfl : iv = Value.ref b := ry
  obtain ⟨xs, er, n⟩ := g
  have dd := n.dict I3 er
  refine call_meetsIn PySem.F.slot_dict_get dd.typeIs PySem.F.entry_dict_get (PySem.F.args_dict_get_3 _ _ _) (meetsH_dict_get_default (nestedKind X.prog X.w) a b n.sys fv) ⟨room9 hu, keyN k, xs, hk.nested I3, dd, ?_⟩
  exact ⟨_, H3, I3.tok _, (n.rel.val k).getD rz, q3⟩
theorem pe_popN (hu : X.A.units + 64 < cLine) (ho : PE X o td) (he : PE X e ty) (hf : PE X f tx) (m : M2 X o "pop" apos e f cpos) : PE X (.Call (.Attribute o "pop" apos) [e, f] [] cpos) (tPopN X.K X.w td ty tx) := by
  refine ⟨fun pins s σ H Q I h => ?_⟩
  refine wpAny_Call_method m.base m.few m.line PySem.F.plainAttrs_dict PySem.F.slot_dict_pop PySem.F.type_dict_pop (thn (ho.run pins s σ H _ I h) fun u s1 ⟨x, H1, I1, rx, a, L0, ex, d, q1⟩ => ?_)
  subst ex
  obtain rfl : u = Value.ref a := rx
  obtain ⟨t1, t2, _⟩ := d.typeIs I1
  refine ⟨t1, t2, ?_⟩
  rw [m.trees]
  refine Calls.callWith_builtin rfl (Calls.evalArgs_plain (Calls.spliced_cons (thn (he.run pins s1 σ H1 _ I1 q1) fun iv s2 ⟨y, H2, I2, ry, q2⟩ =>
    Calls.spliced_cons (thn (hf.run pins s2 σ H2 _ I2 q2) fun fv s3 ⟨z, H3, I3, rz, L, k, b, ey, g, hk, q3, q4⟩ => Calls.spliced_nil ?_))))
  subst ey
  obtain rfl : iv = Value.ref b := ry
  obtain ⟨xs, er, n⟩ := g
  have dd := n.dict I3 (.inl er)
  have hz : xs.length ≤ sizeLine := by rw [← Paired.length n.rel]; exact n.len
  cases l : valV L k with
  | none =>
    have hn : atKey xs (keyN k) = none := Option.map_eq_none_iff.mp (RelO.none_of (by rw [← l]; exact n.rel.val k))
    exact PySem.call_pop_default_heap (hsz := hz) (room9 hu) (hk.nested I3) n.sys dd hn fun tk => ⟨z, H3, I3.tok _, rz, q4 l⟩
  | some v =>
    obtain ⟨w', hw, rw'⟩ := RelO.some_of (v := v) (o := (atKey xs (keyN k)).map (·.2)) (by rw [← l]; exact n.rel.val k)
    obtain ⟨p, hp, hp2⟩ := Option.map_eq_some_iff.mp hw
    refine PySem.call_pop_heap (hsz := hz) (.inr ⟨fv, rfl⟩) (PySem.F.args_dict_pop_3 _ _ _) (room9 hu) (hk.nested I3) n.sys dd hp fun h' hm' hs => ?_
    have hl : (dropK L k).length ≤ sizeLine := Nat.le_trans (dropK_le L k) n.len
    obtain ⟨I4, n4⟩ := nd_write (t' := s3.toks + (nestedKind X.prog X.w).draws (keyN k)) I3 er hl n (n.rel.drop k) (nd_drop k n.nd) hm' hs
    rw [hp2]
    exact ⟨v, _, I4, rw', q3 v _ l n4⟩
theorem ps_putN (hu : X.A.units + 64 < cLine) (ho : PE X o td) (hi : PE X i ty) (hv : PE X value tv) (hs : swapsWith value (some (.Subscript o i pos')) pos.line X.env = pure false) :
    PS X (.Assign [.Subscript o i pos'] value pos) (sPutN X.K X.w td ty tv) := by
  refine ⟨fun pins s σ H D I h => ?_⟩
  refine wpAny_Assign_Subscript (thn (hv.run pins s σ H _ I h) fun r s1 ⟨v, H1, I1, rv, q1⟩ => thn (ho.run pins s1 σ H1 _ I1 q1) fun u s2 ⟨x, H2, I2, rx, q2⟩ => thn (hi.run pins s2 σ H2 _ I2 q2) fun iv s3 ⟨y, H3, I3, ry, a, L, k, b, ex, ey, g, hlt, hk, q3⟩ => ?_) hs
  subst ex ey
  obtain rfl : u = Value.ref a := rx
  obtain rfl : iv = Value.ref b := ry
  obtain ⟨xs, er, n⟩ := g
  have dd := n.dict I3 (.inl er)
  have hz : xs.length ≤ sizeLine := by rw [← Paired.length n.rel]; exact n.len
  refine PySem.wpAny_setItem_heap (hsz := hz) (room9 hu) (hk.nested I3) dd fun h' dd' hs' => ?_
  have hl : (putK L k v).length ≤ sizeLine := by have := length_putK L k v; omega
  obtain ⟨I4, n4⟩ := nd_write (t' := s3.toks + (nestedKind X.prog X.w).draws (keyN k)) I3 er hl n (n.rel.put k hk rv) (nd_put k v n.nd) dd' hs'
  exact ⟨σ, _, I4, q3 _ n4⟩
end
/-! ### .. walked by its pairs, and copied by a comprehension -/
/-- the entries of such a dict that is locked -/
theorem NF.entries {X : Cx} {pins : List (Addr × Obj)} {σ : L2.St} {H : Hp} {s : Shared} {d : Addr} {o : Obj} {L : List (Pr × V)} (I : Inv X pins σ H s) (h : NF X.K X.w H d o L) :
    s.heap.get? d = some o ∧ ∃ es ep, o.data = .dict es ep ∧ DT.Raw s.heap d es ep ∧ es.size = L.length ∧
      ∀ i (hi : i < es.size), ∃ (k : Pr) (v : V) (b : Addr), L[i]? = some (k, v) ∧ es[i].key = .ref b ∧ RelV v es[i].val ∧ ProdAt X.K H b k := by
  obtain ⟨xs, e, n⟩ := h
  have hd : s.heap.get? d = some o := (I.hok d _ e).1
  obtain ⟨o', es, ep, h1, h2, h3, h4⟩ := rawN_ok I (.inr ⟨o, e⟩)
  rw [hd] at h1
  cases h1
  have hl : L.length = xs.length := Paired.length n.rel
  have hs : es.size = L.length := by rw [← Array.length_toList, h4, List.length_map, hl]
  refine ⟨hd, es, ep, h3, ⟨o, hd, h2, h3⟩, hs, fun i hi => ?_⟩
  have hiL : i < L.length := by omega
  obtain ⟨q, hq, r1, r2, r3⟩ := paired_get n.rel (List.getElem?_eq_getElem hiL)
  have en : es[i] = (⟨q.1.hash X.w, .ref q.2.1, q.2.2⟩ : DictEntry) := by
    have z : es[i]? = (xs.map (fun x => (⟨x.1.hash X.w, .ref x.2.1, x.2.2⟩ : DictEntry)))[i]? := by rw [← Array.getElem?_toList, h4]
    rw [List.getElem?_map, hq, Array.getElem?_eq_getElem hi] at z
    exact Option.some.inj z
  exact ⟨L[i].1, L[i].2, q.2.1, List.getElem?_eq_getElem hiL, by rw [en], by rw [en]; exact r3, r2⟩
/-- its pairs, each a new tuple -/
def ItN (K : PySem.W.Frag) (w : World) (d : Addr) (o : Obj) (L : List (Pr × V)) : It :=
  ⟨fun i H => NF K w H d o L ∧ i < L.length, fun i H x H' => ∃ (T b : Addr) (k : Pr) (v : V), L[i]? = some (k, v) ∧ x = .ref T ∧ H T = none ∧ ProdAt K H b k ∧ H' = upd H T (.tup [.ref b, v]), fun i H => NF K w H d o L ∧ L.length ≤ i⟩
theorem turn_itemsN {P : Program} {w : World} {K : PySem.W.Frag} {d : Addr} {o : Obj} {es : Array DictEntry} {ep : Nat} {L : List (Pr × V)} {elts : List Expr} {kk : Nat} {tpos : Pos} (it : Addr) (hod : o.data = .dict es ep) (hsz : es.size = L.length) :
    Turn P w K (.Tuple elts kk tpos) (ItN K w d o L) [it] it (fun i h => ∃ ok ov, IsItemIter h it d i es.size ep ok ov) where
  mem := by simp
  obj := fun i h ⟨ok, ov, e⟩ b hb => by
    cases (show b = it by simpa using hb)
    exact ⟨_, e, fun v z => nomatch z⟩
  keep := fun i h h' ⟨ok, ov, e⟩ k => ⟨ok, ov, k it (by simp) _ e⟩
  item := by
    intro X hP hw hK hc i pins s σ H E I hf st hg
    subst hP hw hK
    obtain ⟨hF, hi⟩ := hg
    obtain ⟨hgd, es', ep', hdt, raw, _, ent⟩ := hF.entries I
    obtain ⟨rfl, rfl⟩ := dict_ep hod hdt
    obtain ⟨ok, ov, he⟩ := st
    have hi' : i < es'.size := by omega
    obtain ⟨k, v, b, hL, hk, rv, hb⟩ := ent i hi'
    have hlt : it < s.heap.objs.size := Heap.lt_size he
    refine DT.nextI he raw hi' fun h1 hout hT hz hk1 => ⟨_, rfl, wpAny_letOwnedTupleGo_items (s := { s with heap := h1 }) hout fun h2 he2 sb => ?_⟩
    have keepAll : ∀ c ob, c ∉ [it] → s.heap.get? c = some ob → h2.get? c = some ob := fun c ob hc' e => (sb.2 c (by simpa using hc')).trans (hk1 c ob (by simpa using hc') e)
    have tupAt : h2.get? s.heap.objs.size = some { cls := .type "tuple", data := .seq #[es'[i].key, es'[i].val] } := (sb.2 _ (Nat.ne_of_gt hlt)).trans hT
    have fresh : H s.heap.objs.size = none := I.hok.fresh (Nat.le_refl _)
    have okT : ObjOk X.prog X.w (upd H s.heap.objs.size (.tup [.ref b, v])) h2 s.heap.objs.size (.tup [.ref b, v]) :=
      ⟨by show 2 ≤ sizeLine; decide, [es'[i].key, es'[i].val], .cons hk (.cons rv .nil), ⟨_, tupAt, rfl, _, rfl⟩⟩
    refine ⟨.ref s.heap.objs.size, _, I.turnedNew (t' := s.toks) (ch := [it]) keepAll hf (Nat.le_refl _) okT, rfl, ⟨_, b, k, v, hL, rfl, fresh, hb, rfl⟩, ⟨_, _, he2⟩, fun c hc' => ?_⟩
    cases (show c = it by simpa using hc')
    rw [upd_ne (Nat.ne_of_lt hlt)]
    exact (hf it (by simp)).1
  done := by
    intro X hP hw hK hc i pins s σ H E I hf st hg
    subst hP hw hK
    obtain ⟨hF, hi⟩ := hg
    obtain ⟨hgd, es', ep', hdt, raw, hs', _⟩ := hF.entries I
    obtain ⟨rfl, rfl⟩ := dict_ep hod hdt
    obtain ⟨f0, f1, f2, f3, f4, f5⟩ := hf it (by simp)
    obtain ⟨ok, ov, he⟩ := st
    exact DT.endI (I.ok.hd hc) he raw (by omega) fun h' eb => ⟨rfl, I.turned (t' := s.toks) (fun c ob hc' e => eb c ob hc' e) f0 f1 f3 f4 f5⟩
  self := fun A i s Q E ⟨_, _, e⟩ h => PySem.W.kcp_self e h
def iItemsN (K : PySem.W.Frag) (w : World) (td : TE) : TI := fun σ H R => td σ H fun x H1 => ∃ d o L, x = .ref d ∧ NF K w H1 d o L ∧ R (ItN K w d o L) H1
theorem pi_itemsN {X : Cx} {e : Expr} {td : TE} {apos cpos : Pos} {elts : List Expr} {kk : Nat} {tpos : Pos} (he : PE X e td) (hbase : attributeBase e "items" X.env (eval e X.env) = eval e X.env := by rfl) (hline : (apos.endLine == cpos.line) = true := by rfl) :
    PI X (.Tuple elts kk tpos) (.Call (.Attribute e "items" apos) [] [] cpos) (iItemsN X.K X.w td) := by
  refine ⟨fun pins s σ H R I h => wpAny_Call_method (T := "dict") (id := "dict.items") hbase rfl hline F.plainAttrs_dict F.slot_dict_items F.type_dict_items (thn (he.run pins s σ H _ I h) fun u s1 ⟨x, H1, I1, rx, d, o, L, ex, hF, q⟩ => ?_)⟩
  subst ex
  obtain rfl : u = Value.ref d := rx
  obtain ⟨t1, t2, hs⟩ := hF.r.typeIs I1
  obtain ⟨hgd, es, ep, hdt, raw, hsz, _⟩ := hF.entries I1
  refine ⟨t1, t2, ?_⟩
  have view : Inv X pins σ H1 { s1 with heap := s1.heap.push { cls := .type "dict_items", data := .fields #[.ref d] } } := I1.kept (t' := s1.toks) fun b ob z => Heap.get?_push_of_some _ z
  refine method_meetsIn F.slot_dict_items F.entry_dict_items rfl (PySem.evalArgs_none ⟨rfl, raw.typeIs, F.args_dict_items_1 _, _, DT.meetsItems (es := es) (ep := ep) hs, raw, ?_⟩)
  refine DT.iterI (d := d) (es := es) (ep := ep) (s := { s1 with heap := s1.heap.push { cls := .type "dict_items", data := .fields #[.ref d] } }) ⟨_, Heap.get?_push_size _ rfl, rfl, rfl⟩ (raw.push _) ?_
  exact pi_one (tk := s1.toks) view _ (turn_itemsN _ hdt hsz) ⟨.none, .none, Heap.get?_push_size _ rfl⟩ q
/-- for k, v in d.items() by turns -/
theorem for_itemsN {K : PySem.W.Frag} {w : World} {d : Addr} {o : Obj} {L : List (Pr × V)} {g : TG} {tb : TS} {D : Ends} {σ : L2.St} {H : Hp} (Pv : Nat → L2.St → Hp → Prop) (h0 : Pv 0 σ H) (hl : ∀ i σ H, i ≤ L.length → Pv i σ H → NF K w H d o L)
    (hs : ∀ i k v σ H T b, L[i]? = some (k, v) → Pv i σ H → H T = none → ProdAt K H b k → g (.ref T) σ (upd H T (.tup [.ref b, v])) fun σ2 H2 => tb { D with nx := Pv (i + 1), ct := Pv (i + 1), bk := D.nx } σ2 H2) (hd : ∀ σ H, Pv L.length σ H → D.nx σ H) :
    ∃ W : Nat → Nat → L2.St → Hp → Prop, (∃ m, W 0 m σ H) ∧ ∀ i m σ H, W i m σ H → ((ItN K w d o L).stop i H ∧ D.nx σ H) ∨ ((ItN K w d o L).go i H ∧ ∃ N : L2.St → Hp → Prop, (∀ σ' H', N σ' H' → ∃ m', m' < m ∧ W (i + 1) m' σ' H') ∧
      ∀ x H', (ItN K w d o L).yld i H x H' → g x σ H' fun σ2 H2 => tb { D with nx := N, ct := N, bk := D.nx } σ2 H2) := by
  refine ⟨fun i m σ H => m = L.length - i ∧ i ≤ L.length ∧ Pv i σ H, ⟨_, rfl, Nat.zero_le _, h0⟩, fun i m σ H ⟨em, hi, p⟩ => ?_⟩
  have F := hl i σ H hi p
  by_cases lt : i < L.length
  · refine .inr ⟨⟨F, lt⟩, Pv (i + 1), fun σ' H' p' => ⟨L.length - (i + 1), by omega, rfl, lt, p'⟩, fun x H' ⟨T, b, k, v, hL, ex, nT, hb, eH⟩ => ?_⟩
    subst ex
    subst eH
    exact hs i k v σ H T b hL p nT hb
  · have e : i = L.length := by omega
    subst e
    exact .inl ⟨⟨F, Nat.le_refl _⟩, hd σ H p⟩
/-! ### a dict comprehension whose keys are products -/
def setN (K : PySem.W.Frag) (w : World) (D : Addr) (y z : V) (H : Hp) (Nx : Hp → Prop) : Prop := ∃ L k b, y = .ref b ∧ ND K w H D L ∧ L.length < sizeLine ∧ ProdAt K H b k ∧ ∀ o, ND K w (upd H D o) D (putK L k z) → Nx (upd H D o)
theorem setN_run {X : Cx} {pins : List (Addr × Obj)} {σ : L2.St} {H : Hp} {s : Shared} {E : Value → Shared → Prop} {D : Addr} {y z : V} {u r : Value} {Nx : Hp → Prop} {Q : Unit → Shared → Prop} (hu : X.A.units + 64 < cLine) (I : Inv X pins σ H s) (ry : RelV y u) (rz : RelV z r)
    (st : setN X.K X.w D y z H Nx) (h : ∀ s' H', Inv X pins σ H' s' → Nx H' → Q () s') : wpAny (model X.prog X.w) X.A (dictSet D u r) Q E s := by
  obtain ⟨L, k, b, ey, ⟨xs, er, n⟩, hlt, hk, q⟩ := st
  subst ey
  obtain rfl : u = Value.ref b := ry
  have dd := n.dict I (.inl er)
  have room : (nestedKind X.prog X.w).room X.A := by
    show X.A.units + 8 < cLine
    omega
  refine PySem.wpAny_dictSet_heap (hsz := by rw [← Paired.length n.rel]; exact n.len) room (hk.nested I) dd fun h' dd' hs' => ?_
  have hl : (putK L k z).length ≤ sizeLine := by have := length_putK L k z; omega
  obtain ⟨I', n'⟩ := nd_write (t' := s.toks + (nestedKind X.prog X.w).draws (keyN k)) I er hl n (n.rel.put k hk rz) (nd_put k z n.nd) dd' hs'
  exact h _ _ I' (q _ n')
section
variable {X : Cx}
/-- {k: v for target in iter if ..}: D the new dict -/
def tDn (K : PySem.W.Frag) (w : World) (wi : TI) (g : TG) (tt : TT) (tk tv : TE) (vs : List Nat) : TE := fun σ H Q => wi σ H fun J H1 => ∀ D, H1 D = none → (D == sysModules) = false → ∃ W : Nat → Nat → Hp → Prop, (∃ m, W 0 m (upd H1 D (ndO w D []))) ∧ ∀ i m H, W i m H →
  (J.stop i H ∧ Q (.ref D) H) ∨ (J.go i H ∧ ∃ Nx : Hp → Prop, (∀ H', Nx H' → ∃ m', m' < m ∧ W (i + 1) m' H') ∧ ∀ x H', J.yld i H x H' → g x (wipe σ vs) H' fun σ2 H2 => wipe σ2 vs = wipe σ vs ∧ tt σ2 H2 fun b H3 =>
    if b = true then tk σ2 H3 fun y H4 => tv σ2 H4 fun z H5 => setN K w D y z H5 Nx else Nx H3)
theorem dn_core {pins : List (Addr × Obj)} {s : Shared} {σ : L2.St} {H : Hp} {Q : VK} {kx vx tg iter : Expr} {ifs : List Expr} {scope : Scope} {own : List (Str × Nat)} {pos pos' : Pos} {wi : TI} {g : TG} {tt : TT} {tk tv : TE} {use : Option (Value → Sem Unit)} {Qf : Value → Shared → Prop}
    (hu : X.A.units + 64 < cLine) (hc : X.calm = true) (hN : X.N.Nodup) (I : Inv X pins σ H s) (hi : PI X tg iter wi) (ok : BlkOk X.N X.env.scope scope own)
    (hg : ∀ (s : Shared) (H : Hp) (C : Addr) (cl : List (Str × Addr)) (fp : List Addr), PG (X.blk s H scope (compEnvC scope cl C X.env) fp) tg g) (ht : ∀ (s : Shared) (H : Hp) (C : Addr) (cl : List (Str × Addr)) (fp : List Addr), PTs (X.blk s H scope (compEnvC scope cl C X.env) fp) ifs tt) (hk : ∀ (s : Shared) (H : Hp) (C : Addr) (cl : List (Str × Addr)) (fp : List Addr), PE (X.blk s H scope (compEnvC scope cl C X.env) fp) kx tk) (he : ∀ (s : Shared) (H : Hp) (C : Addr) (cl : List (Str × Addr)) (fp : List Addr), PE (X.blk s H scope (compEnvC scope cl C X.env) fp) vx tv) (hs : ∀ x, foldedSetIterable iter X.env x = pure x)
    (h : tDn X.K X.w wi g tt tk tv (own.map (·.2)) σ H Q)
    (hRR : ∀ D C s' m H', Inv X pins σ H' s' → Q (.ref D) H' → s'.heap.Ns C m → FpOk X pins H' C → compPost (model X.prog X.w) X.A X.xe use Qf (.ref D) C (.ok .next) s') :
    wpAny (model X.prog X.w) X.A (comprehension (.DictComp kx vx [⟨tg, iter, ifs, 0⟩] scope pos) scope X.env pos' newDict false (eval iter X.env) use) Qf X.xe s := by
  have free : ∀ y ∈ scope.names, y.2 = .free → ∃ c, X.env.cells.lookup y.1 = some c := fun y hy e => (ok.free y hy e).elim (fun k => I.ok.has _ (.inl k)) (fun k => I.ok.has _ (.inr k))
  refine wpAny_comprehension_free (use := use) rfl hs (closure_ok free) ok.kind (fun y hy e => by rw [ok.uniq y hy, e]) (thn (hi.run pins s σ H _ I h) fun _ _ hx => thn hx fun _ s2 h2 => ?_)
  obtain ⟨it, fp, tn, J, H2, rfl, I2, T, st2, f2, q⟩ := h2
  refine wpAny_newObj_type (newEnv_comp ?_)
  -- the new dict, at D
  generalize hD : s2.heap.objs.size = D
  have nD : H2 D = none := I2.hok.fresh (Nat.le_of_eq hD)
  have sD : (D == sysModules) = false := by rw [← hD]; exact beq_eq_false_iff_ne.mpr (Ne.symm (Nat.ne_of_lt I2.big))
  obtain ⟨W, ⟨m0, w0⟩, turn⟩ := q D nD sD
  generalize hs3 : ({ s2 with heap := s2.heap.push { cls := .type "dict", data := .dict #[] } } : Shared) = s3
  have h3 : s3.heap = s2.heap.push { cls := .type "dict", data := .dict #[] } := by rw [← hs3]
  have I3 : Inv X pins σ (upd H2 D (ndO X.w D [])) s3 := by
    subst hs3
    refine I2.laid (t' := s2.toks) (fun b o e => Heap.get?_push_of_some _ e) (Nat.le_of_eq hD) (ndO_ok ⟨{ cls := .type "dict", data := .dict #[] }, #[], 0, ?_, ⟨rfl, rfl, rfl⟩, rfl, rfl⟩)
    rw [← hD]
    exact Heap.get?_push_size _ rfl
  have below : ∀ b ∈ fp, b < s2.heap.objs.size := fun b hb => let ⟨_, e, _⟩ := T.obj _ _ st2 b hb; Heap.lt_size e
  have f3 : ∀ b ∈ fp, FpOk X pins (upd H2 D (ndO X.w D [])) b ∧ b < s3.heap.objs.size := fun b hb => by
    refine ⟨⟨?_, (f2 b hb).2⟩, by rw [h3, Heap.size_push]; exact Nat.lt_succ_of_lt (below b hb)⟩
    rw [upd_ne (by rw [← hD]; exact Nat.ne_of_lt (below b hb))]
    exact (f2 b hb).1
  have st3 : tn 0 s3.heap := T.keep _ _ _ st2 fun b _ o e => by rw [h3]; exact Heap.get?_push_of_some _ e
  have I4 := block_start I3 ok hN f3
  have pg := hg s3 (upd H2 D (ndO X.w D [])) s3.heap.objs.size (cellsFrom (s3.heap.objs.size + 1) scope.names (cloFrom X.env.cells scope.names [])) fp
  have pt := ht s3 (upd H2 D (ndO X.w D [])) s3.heap.objs.size (cellsFrom (s3.heap.objs.size + 1) scope.names (cloFrom X.env.cells scope.names [])) fp
  have pk := hk s3 (upd H2 D (ndO X.w D [])) s3.heap.objs.size (cellsFrom (s3.heap.objs.size + 1) scope.names (cloFrom X.env.cells scope.names [])) fp
  have pe := he s3 (upd H2 D (ndO X.w D [])) s3.heap.objs.size (cellsFrom (s3.heap.objs.size + 1) scope.names (cloFrom X.env.cells scope.names [])) fp
  have nfp : ∀ b ∈ fp, (upd H2 D (ndO X.w D [])) b = none := fun b hb => (f3 b hb).1.1
  show codeAny _ _ (.compStart (.DictComp kx vx [⟨tg, iter, ifs, 0⟩] scope pos) 0 (.ref it) (.ref D) (compEnvC scope (cellsFrom (s3.heap.objs.size + 1) scope.names (cloFrom X.env.cells scope.names [])) s3.heap.objs.size X.env))
    (compPost (model X.prog X.w) X.A X.xe use Qf (.ref D) s3.heap.objs.size) { s3 with heap := pushCells (s3.heap.push { cls := .type "dict", data := .dict #[] }) scope.names }
  generalize hce : compEnvC scope (cellsFrom (s3.heap.objs.size + 1) scope.names (cloFrom X.env.cells scope.names [])) s3.heap.objs.size X.env = ce at I4 pg pt pk pe ⊢
  have cL : ce.locals = s3.heap.objs.size := by rw [← hce]; rfl
  generalize upd H2 D (ndO X.w D []) = H3 at I3 I4 pg pt pk pe w0 nfp f3
  generalize hs4 : ({ s3 with heap := pushCells (s3.heap.push { cls := .type "dict", data := .dict #[] }) scope.names } : Shared) = s4 at I4 ⊢
  have st4 : tn 0 s4.heap := T.keep _ _ _ st3 fun b _ o e => by rw [← hs4]; exact pushCells_keeps _ _ _ _ (Heap.get?_push_of_some _ e)
  have stat : ∀ {σ' : L2.St} {H' : Hp} {s' : Shared}, Inv (X.blk s3 H3 scope ce fp) [] σ' H' s' → (∀ b ∈ fp, H' b = none) → ∀ b ∈ fp, FpOk (X.blk s3 H3 scope ce fp) [] H' b := fun I' hn b hb =>
    ⟨hn b hb, (I'.ok.exf b hb).1, I'.ok.exfs b hb, .inl hb, fun x c e => (I'.ok.exf b hb).2 x c e, fun p hp => absurd (show p ∈ ([] : List (Addr × Obj)) ++ [] from hp) (by simp)⟩
  let Here : Nat → Shared → Prop := fun n s' => ∃ i H', Inv (X.blk s3 H3 scope ce fp) [] (wipe σ (own.map (·.2))) H' s' ∧ tn i s'.heap ∧ (∀ b ∈ fp, H' b = none) ∧ W i n H'
  have loop : codeAny (model X.prog X.w) X.A (.compLoop (.DictComp kx vx [⟨tg, iter, ifs, 0⟩] scope pos) 0 (.ref it) (.ref D) ce) (compPost (model X.prog X.w) X.A X.xe use Qf (.ref D) s3.heap.objs.size) s4 := by
    refine compLoop_anyD Here (fun n s5 hHere => ?_) m0 ⟨0, H3, I4, st4, nfp, w0⟩
    obtain ⟨i, H5, I5, st5, n5, w5⟩ := hHere
    rcases turn i n H5 w5 with ⟨stop, fine⟩ | ⟨go, Nx, hNx, step⟩
    · refine thnF (T.done (X.blk s3 H3 scope ce fp) rfl rfl rfl hc i [] s5 _ H5 (fun _ _ => False) I5 (stat I5 n5) st5 stop) fun r s6 ⟨hr, I6⟩ => ?_
      subst hr
      -- back in the def
      have I7 : Inv X pins σ H5 s6 := I3.call' (ch := fp) I6.os I6.base I6.hok I6.bare fun b hb => let z := (f3 b hb).1; ⟨z.2.2.2.1, z.2.1, z.2.2.2.2.1, z.2.2.2.2.2⟩
      have nC : H5 s3.heap.objs.size = none := cL ▸ (show H5 ce.locals = none from I6.free)
      obtain ⟨m, ns, _⟩ := I6.loc
      have ns : s6.heap.Ns s3.heap.objs.size m := cL ▸ (show s6.heap.Ns ce.locals m from ns)
      exact hRR D s3.heap.objs.size s6 m H5 I7 fine ns (I3.fpOk (Nat.le_refl _) nC)
    · refine thnF (T.item (X.blk s3 H3 scope ce fp) rfl rfl rfl hc i [] s5 _ H5 (fun _ _ => False) I5 (stat I5 n5) st5 go) fun r s6 ⟨u, hr, h6⟩ => ?_
      subst hr
      refine thnF h6 fun _ s7 ⟨x, H7, I7, r7, y7, st7, n7⟩ => ?_
      have I7p := I7.pinned (stat I7 n7) (T.obj _ _ st7)
      refine thnF (pg.run _ s7 _ H7 x u _ I7p r7 (step x H7 y7)) fun _ s8 ⟨σ8, H8, I8, hw8, q8⟩ => thnF (pt.run _ s8 σ8 H8 _ I8 q8) fun b s9 ⟨H9, I9, q9⟩ => ?_
      -- the turn's end
      have fin : ∀ {s' : Shared} {H' : Hp}, Inv (X.blk s3 H3 scope ce fp) ([] ++ pinsAt fp s7.heap) σ8 H' s' → Nx H' → ∃ m, m < n ∧ Here m s' := fun {s' H'} I' nx => by
        obtain ⟨m', hm, w'⟩ := hNx H' nx
        have pin' : ∀ b ∈ fp, ∀ o, s7.heap.get? b = some o → s'.heap.get? b = some o ∧ H' b = none := fun b hb o e =>
          let z := I'.pin (b, o) (List.mem_append_right _ (List.mem_append_right _ (mem_pinsAt hb e)))
          ⟨z.1, z.2.1⟩
        refine ⟨m', hm, i + 1, H', (I'.unpinned (pins := [])).weak (by rw [← hw8, wipe_length]) (fun j v e => ?_), T.keep _ _ _ st7 fun b hb o e => (pin' b hb o e).1, fun b hb => ?_, w'⟩
        · rw [← hw8] at e
          exact (wipe_some e).1
        · obtain ⟨o, e, _⟩ := T.obj _ _ st7 b hb
          exact (pin' b hb o e).2
      cases b with
      | false =>
        simp only [Bool.false_eq_true, if_false] at q9 ⊢
        exact fin I9 q9
      | true =>
        simp only [if_true] at q9 ⊢
        refine thnF (pk.run _ s9 σ8 H9 _ I9 q9) fun z s10 ⟨yk, H10, I10, r10, q10⟩ => thnF (pe.run _ s10 σ8 H10 _ I10 q10) fun z2 s11 ⟨yv, H11, I11, r11, put⟩ => ?_
        exact setN_run (X := X.blk s3 H3 scope ce fp) hu I11 r10 r11 put fun s12 H12 I12 nx => fin I12 nx
  exact codeAny_compStart_dict loop (T.self X.A 0 _ _ _ st4 loop)
theorem pe_dn {kx vx tg iter : Expr} {ifs : List Expr} {scope : Scope} {own : List (Str × Nat)} {pos : Pos} {wi : TI} {g : TG} {tt : TT} {tk tv : TE} (hu : X.A.units + 64 < cLine) (hc : X.calm = true) (hN : X.N.Nodup) (hi : PI X tg iter wi) (ok : BlkOk X.N X.env.scope scope own)
    (hg : ∀ (s : Shared) (H : Hp) (C : Addr) (cl : List (Str × Addr)) (fp : List Addr), PG (X.blk s H scope (compEnvC scope cl C X.env) fp) tg g) (ht : ∀ (s : Shared) (H : Hp) (C : Addr) (cl : List (Str × Addr)) (fp : List Addr), PTs (X.blk s H scope (compEnvC scope cl C X.env) fp) ifs tt) (hk : ∀ (s : Shared) (H : Hp) (C : Addr) (cl : List (Str × Addr)) (fp : List Addr), PE (X.blk s H scope (compEnvC scope cl C X.env) fp) kx tk) (he : ∀ (s : Shared) (H : Hp) (C : Addr) (cl : List (Str × Addr)) (fp : List Addr), PE (X.blk s H scope (compEnvC scope cl C X.env) fp) vx tv) (hs : ∀ x, foldedSetIterable iter X.env x = pure x := by intro _; rfl) :
    PE X (.DictComp kx vx [⟨tg, iter, ifs, 0⟩] scope pos) (tDn X.K X.w wi g tt tk tv (own.map (·.2))) := by
  refine ⟨fun pins s σ H Q I h => ?_⟩
  rw [arm_eval_DictComp]
  refine dn_core hu hc hN I hi ok hg ht hk he hs h fun D C s' m H' I' q hn ⟨f0, f1, f2, f3, f4, f5⟩ => ⟨m, hn, fun h'' sb => ?_⟩
  exact ⟨.ref D, H', I'.turned (t' := s'.toks) (fun b o hb e => (sb.2 b hb).trans e) f0 f1 f3 f4 f5, rfl, q⟩
/-- .. over the pairs of such a dict that is locked -/
theorem dn_items {K : PySem.W.Frag} {w : World} {d : Addr} {o : Obj} {L : List (Pr × V)} {g : TG} {tt : TT} {tk tv : TE} {vs : List Nat} {σ : L2.St} {H1 : Hp} {D : Addr} {Qd : Hp → Prop} (Pv : Nat → Hp → Prop) (h0 : Pv 0 (upd H1 D (ndO w D []))) (hl : ∀ i H, i ≤ L.length → Pv i H → NF K w H d o L)
    (hs : ∀ i k v H T b, L[i]? = some (k, v) → Pv i H → H T = none → ProdAt K H b k → g (.ref T) (wipe σ vs) (upd H T (.tup [.ref b, v])) fun σ2 H2 => wipe σ2 vs = wipe σ vs ∧ tt σ2 H2 fun b H3 =>
      if b = true then tk σ2 H3 fun y H4 => tv σ2 H4 fun z H5 => setN K w D y z H5 (Pv (i + 1)) else Pv (i + 1) H3) (hd : ∀ H, Pv L.length H → Qd H) :
    ∃ W : Nat → Nat → Hp → Prop, (∃ m, W 0 m (upd H1 D (ndO w D []))) ∧ ∀ i m H, W i m H → ((ItN K w d o L).stop i H ∧ Qd H) ∨ ((ItN K w d o L).go i H ∧ ∃ Nx : Hp → Prop, (∀ H', Nx H' → ∃ m', m' < m ∧ W (i + 1) m' H') ∧
      ∀ x H', (ItN K w d o L).yld i H x H' → g x (wipe σ vs) H' fun σ2 H2 => wipe σ2 vs = wipe σ vs ∧ tt σ2 H2 fun b H3 => if b = true then tk σ2 H3 fun y H4 => tv σ2 H4 fun z H5 => setN K w D y z H5 Nx else Nx H3) := by
  refine ⟨fun i m H => m = L.length - i ∧ i ≤ L.length ∧ Pv i H, ⟨_, rfl, Nat.zero_le _, h0⟩, fun i m H ⟨em, hi, p⟩ => ?_⟩
  have F := hl i H hi p
  by_cases lt : i < L.length
  · refine .inr ⟨⟨F, lt⟩, Pv (i + 1), fun H' p' => ⟨L.length - (i + 1), by omega, rfl, lt, p'⟩, fun x H' ⟨T, b, k, v, hL, ex, nT, hb, eH⟩ => ?_⟩
    subst ex
    subst eH
    exact hs i k v H T b hL p nT hb
  · have e : i = L.length := by omega
    subst e
    exact .inl ⟨⟨F, Nat.le_refl _⟩, hd H p⟩
end
/-! ### a display of one pair; == of two such dicts with shares -/
def tOneN (K : PySem.W.Frag) (w : World) (tk tv : TE) : TE := fun σ H Q => ∀ p, H p = none → (p == sysModules) = false → tk σ (upd H p (ndO w p [])) fun y H1 => tv σ H1 fun z H2 => ∃ k b, y = .ref b ∧ ProdAt K H2 b k ∧ H2 p = some (ndO w p []) ∧
  ∀ o, ND K w (upd H2 p o) p [(k, z)] → Q (.ref p) (upd H2 p o)
section
variable {X : Cx}
theorem pe_oneN {pos : Pos} {k v : Expr} {tk tv : TE} (hu : X.A.units + 64 < cLine) (hk : PE X k tk) (hv : PE X v tv) : PE X (.Dict [some k] [v] pos) (tOneN X.K X.w tk tv) := by
  refine ⟨fun pins s σ H Q I q => ?_⟩
  have nP := I.hok.fresh (Nat.le_refl s.heap.objs.size)
  have sP : (s.heap.objs.size == sysModules) = false := beq_eq_false_iff_ne.mpr (Ne.symm (Nat.ne_of_lt I.big))
  have I1 := I.laid (a := s.heap.objs.size) (o := ndO X.w s.heap.objs.size []) (h' := s.heap.push { cls := .type "dict", data := .dict #[] }) (t' := s.toks) (fun _ _ q => Heap.get?_push_of_some _ q) (Nat.le_refl _) (ndO_ok ⟨_, #[], 0, Heap.get?_push_size _ rfl, ⟨rfl, rfl, rfl⟩, rfl, rfl⟩)
  rw [arm_eval_Dict, zip_pairTrees [some k] [v] X.env pos rfl rfl, dictDisplay_pairs _ (by intro z; cases z) (by show 1 < 17; decide)]
  refine wpAny_bind (wpAny_standAt (wpAny_bind (PySem.wpAny_subDictH (knd := nestedKind X.prog X.w) (Q := fun d s' => wpAny (model X.prog X.w) X.A (pure (Value.ref d)) (EP X pins σ Q) X.xe s') (show X.A.units + 8 < cLine by omega) (by show 1 ≤ 15; decide) ?_)))
  refine thn ((pps_cons hk hv pps_nil).run pins _ σ _ (fun ps H2 => match ps with
    | [(y, z)] => ∃ k b, y = .ref b ∧ ProdAt X.K H2 b k ∧ H2 s.heap.objs.size = some (ndO X.w s.heap.objs.size []) ∧ ∀ o, ND X.K X.w (upd H2 s.heap.objs.size o) s.heap.objs.size [(k, z)] → Q (.ref s.heap.objs.size) (upd H2 s.heap.objs.size o)
    | _ => False) I1 (q _ nP sP)) fun ws s2 ⟨ps, H2, I2, rel, fin⟩ => ?_
  match ps, ws, rel, fin with
  | [(y, z)], _, .cons (b := (u, r)) ⟨ry, rz⟩ .nil, ⟨m, b, ey, hb, e2, fin⟩ =>
    subst ey
    obtain rfl : u = Value.ref b := ry
    have n0 : NDAs X.K X.w H2 s.heap.objs.size [] [] := ⟨Nat.zero_le _, sP, .nil, List.nodup_nil⟩
    refine ⟨[(keyN m, b, r)], ⟨rfl, rfl, hb.nested I2, True.intro⟩, n0.dict I2 (.inl e2), fun h' tk dd hs => wpAny_pure ?_⟩
    obtain ⟨I3, n3⟩ := nd_write (L' := [(m, z)]) (t' := tk) I2 e2 (by show 1 ≤ sizeLine; decide) n0 (.cons ⟨rfl, hb, rz⟩ .nil) (by simp) dd hs
    exact ⟨.ref s.heap.objs.size, _, I3, rfl, fin _ n3⟩
end
/-! ### shares as values -/
/-- the shares M stand as the values L -/
abbrev RatL (K : PySem.W.Frag) (H : Hp) : List (Pr × V) → List (Pr × Rat) → Prop := Paired fun p m => p.1 = m.1 ∧ ∃ q, p.2 = .ref q ∧ SqT K H q (ratV m.2)
def lookM (M : List (Pr × Rat)) (k : Pr) : Option Rat := (M.find? fun x => decide (x.1 = k)).map (·.2)
def eqM (M N : List (Pr × Rat)) : Bool := M.length == N.length && M.all fun x => decide (lookM N x.1 = some x.2)
theorem RatL.val {K : PySem.W.Frag} {H : Hp} {L : List (Pr × V)} {M : List (Pr × Rat)} (r : RatL K H L M) (k : Pr) : (valV L k = none ∧ lookM M k = none) ∨ ∃ q x, valV L k = some (.ref q) ∧ lookM M k = some x ∧ SqT K H q (ratV x) := by
  induction r with
  | nil => exact .inl ⟨rfl, rfl⟩
  | @cons p m ps ms h t ih =>
    obtain ⟨h1, q, h2, h3⟩ := h
    by_cases e : p.1 = k
    · refine .inr ⟨q, m.2, ?_, ?_, h3⟩
      · rw [valV_pos e, h2]
      · simp [lookM, ← h1, e]
    · have a : valV (p :: ps) k = valV ps k := valV_neg e
      have b : lookM (m :: ms) k = lookM ms k := by
        have e' : ¬ m.1 = k := fun z => e (h1.trans z)
        simp [lookM, e']
      rw [a, b]
      exact ih
theorem ratEq {X : Cx} {pins : List (Addr × Obj)} {σ : L2.St} {H : Hp} {s : Shared} {A : Around} (I : Inv X pins σ H s) {p q : Addr} {r t : Rat} (hp : SqT X.K H p (ratV r)) (hq : SqT X.K H q (ratV t)) (hu : A.units + 64 < cLine) : SeqAt.EqAt A s (.ref p) (.ref q) (decide (r = t)) := by
  have dp : ∀ {p : Addr} {r : Rat}, SqT X.K H p (ratV r) → Dp X.K H (.ref p) (.tuple [.int r.num, .int (r.den : Int)]) := fun e => .tup e (.cons (.int _) (.cons (.int _) .nil))
  obtain ⟨as, ra⟩ := Dp.reads I _ _ (.ref p) (dp hp) rfl
  obtain ⟨bs, rb⟩ := Dp.reads I _ _ (.ref q) (dp hq) rfl
  have z := SeqAt.eqAt_reads _ _ A s (.ref p) (.ref q) as bs ra rb (by simp [PyData.canLay0, PyData.canLayAll0]) (by simp [PyData.canLay0, PyData.canLayAll0]) (by simp [PyData.depth, PyData.depthAll]; omega)
  have e : PyData.eqv (.tuple [.int r.num, .int (r.den : Int)]) (.tuple [.int t.num, .int (t.den : Int)]) = decide (r = t) := by
    by_cases h : r = t
    · subst h
      simp [PyData.eqv, PyData.eqvAll]
    · rw [decide_eq_false h]
      have ne : ¬ (r.num = t.num ∧ r.den = t.den) := fun ⟨a, b⟩ => h (Rat.ext a b)
      simp only [PyData.eqv, PyData.eqvAll, Bool.and_true]
      rw [Bool.and_eq_false_iff]
      by_cases a : r.num = t.num
      · right
        have b : ¬ r.den = t.den := fun b => ne ⟨a, b⟩
        simp
        omega
      · left
        simpa using a
  rw [e] at z
  exact z
/-! ### == of such dicts -/
section
variable {prog : Program} {w : World} {A : Around} {E : Value → Shared → Prop} {s : Shared}
/-- what one entry's look in the other dict gives -/
def hitN (eqf : Value → Value → Bool) (ys : List (NestedKey × Addr × Value)) (x : NestedKey × Addr × Value) : Bool := match atKey ys x.1 with
  | none => false
  | some p => eqf x.2.2 p.2
theorem samePairsN {nm : String} {a b : Addr} {xs ys : List (NestedKey × Addr × Value)} {eqf : Value → Value → Bool} {Q : Bool → Shared → Prop} (ha : (a == sysModules) = false) (hb : (b == sysModules) = false)
    (da : s.heap.DictOfH (nestedKind prog w) a xs) (db : s.heap.DictOfH (nestedKind prog w) b ys) (hu : A.units + 8 < cLine) (hv : ∀ x p, x ∈ xs → atKey ys x.1 = some p → SeqAt.EqAt A s x.2.2 p.2 (eqf x.2.2 p.2))
    (h : Q (xs.length == ys.length && xs.all (hitN eqf ys)) s) : wpAny (model prog w) A (Builtin.Dict.samePairs nm a b) Q E s := by
  obtain ⟨oa, es, ep, hoa, _, hda, hea, hisa, hna⟩ := da
  obtain ⟨ob, es', ep', hob, _, hdb, heb, hisb, hnb⟩ := db
  have la : es.size = xs.length := size_of_entries hea
  have lb : es'.size = ys.length := size_of_entries heb
  unfold Builtin.Dict.samePairs Builtin.Dict.showsAll
  rw [if_neg (by rw [ha]; exact Bool.false_ne_true), if_neg (by rw [hb]; exact Bool.false_ne_true)]
  refine wpAny_bind (wpAny_pure (wpAny_bind (wpAny_pure (wpAny_bind (wpAny_dictEntries hoa hda ?_)))))
  dsimp only
  refine wpAny_bind (wpAny_dictEntries hob hdb ?_)
  by_cases sz : es.size = es'.size
  case neg =>
    rw [if_pos (by simpa using sz)]
    rw [show (xs.length == ys.length) = false by simpa [← la, ← lb] using sz, Bool.false_and] at h
    exact wpAny_bind (wpAny_rule (wpAny_pure h))
  rw [show (xs.length == ys.length) = true by simp [← la, ← lb, sz], Bool.true_and] at h
  rw [if_neg (by rw [sz]; simp)]
  refine wpAny_bind (wpAny_dictEpoch hoa hda (wpAny_bind ?_))
  rw [Std.Legacy.Range.forIn_eq_forIn_range']
  simp only [Std.Legacy.Range.size, Nat.sub_zero, Nat.add_sub_cancel, Nat.div_one]
  refine wpAny_forIn_list _ (fun rest q s' => s' = s ∧ q = (none, ()) ∧ ∃ i, rest = List.range' i (es.size - i) ∧ i ≤ es.size ∧ (xs.take i).all (hitN eqf ys) = true) _ ?_ ?_ _ _ ⟨rfl, rfl, 0, by simp, Nat.zero_le _, by simp⟩
  · rintro j rest q s' ⟨rfl, rfl, i, hr, hi, done⟩
    have hlt : i < es.size := by
      by_cases z : i < es.size
      · exact z
      · rw [show es.size - i = 0 by omega] at hr
        cases hr
    rw [show es.size - i = (es.size - (i + 1)) + 1 by omega, List.range'_succ] at hr
    obtain ⟨rfl, hrest⟩ := List.cons.inj hr
    have jx : j < xs.length := by omega
    have en : es[j] = entryOfKey (nestedKind prog w) xs[j] := by
      have z := entry_at hea j
      rw [Array.getElem?_eq_getElem hlt, List.getElem?_eq_getElem jx] at z
      exact Option.some.inj z
    have mem : xs[j] ∈ xs := List.getElem_mem jx
    -- what is known when this entry is not the same
    have bad : hitN eqf ys xs[j] = false → xs.all (hitN eqf ys) = false := fun z => by
      rw [List.all_eq_false]
      exact ⟨_, mem, by rw [z]; exact Bool.false_ne_true⟩
    refine wpAny_bind (wpAny_dictEntries hoa hda ?_)
    rw [Array.getElem?_eq_getElem hlt, en]
    show wpAny _ _ (holding [Value.ref xs[j].2.1, xs[j].2.2] _ >>= _) _ _ _
    refine wpAny_bind (wpAny_holding (wpAny_bind (wpAny_dictFind_heap (knd := nestedKind prog w) hu (hisa _ mem) hob hdb heb hisb hnb (fun no => ?_) fun t p ht => ?_)))
    · have e : hitN eqf ys xs[j] = false := by
        unfold hitN
        rw [atKey_none_of_get no]
      rw [bad e] at h
      refine wpAny_pure ?_
      show wpAny _ _ (if (!false) = true then _ else _) _ _ _
      rw [if_pos (by decide)]
      exact wpAny_pure (wpAny_pure h)
    · have at' : atKey ys xs[j].1 = some p := atKey_of_get hnb ht
      have e : hitN eqf ys xs[j] = eqf xs[j].2.2 p.2 := by
        unfold hitN
        rw [at']
      refine wpAny_bind (wpAny_dictEntries hob hdb ?_)
      rw [entry_at heb t, ht]
      show wpAny _ _ (holding [p.2] (eqBool xs[j].2.2 p.2)) _ _ _
      refine wpAny_holding (hv _ p mem at' prog w _ _ ?_)
      cases hq : eqf xs[j].2.2 p.2 with
      | false =>
        rw [bad (e.trans hq)] at h
        show wpAny _ _ (if (!false) = true then _ else _) _ _ _
        rw [if_pos (by decide)]
        exact wpAny_pure (wpAny_pure h)
      | true =>
        show wpAny _ _ (if (!true) = true then _ else _) _ _ _
        rw [if_neg (by decide)]
        refine wpAny_bind (wpAny_dictEpoch hoa hda ?_)
        rw [if_neg (by simp)]
        refine wpAny_pure ⟨rfl, rfl, j + 1, hrest, hlt, ?_⟩
        rw [List.take_add_one, List.getElem?_eq_getElem jx, List.all_append, done]
        simp [e, hq]
  · rintro q s' ⟨rfl, rfl, i, hr, hi, done⟩
    have e : i = xs.length := by
      by_cases z : i < es.size
      · rw [show es.size - i = (es.size - (i + 1)) + 1 by omega, List.range'_succ] at hr
        cases hr
      · omega
    rw [e, List.take_length] at done
    rw [done] at h
    exact wpAny_pure h
end
section
variable {X : Cx}
/-- both dicts of shares -/
def rEqN (K : PySem.W.Frag) (w : World) (neg : Bool) : R2 := fun x y H Q => ∃ (a b : Addr) (L L' : List (Pr × V)) (M N : List (Pr × Rat)), x = .ref a ∧ y = .ref b ∧ NR K w H a L ∧ NR K w H b L' ∧ RatL K H L M ∧ RatL K H L' N ∧ Q (.bl (neg != eqM M N)) H
theorem eqN_hits {pins : List (Addr × Obj)} {σ : L2.St} {H : Hp} {s : Shared} {A : Around} (hu : A.units + 64 < cLine) (I : Inv X pins σ H s) {L L' : List (Pr × V)} {M N : List (Pr × Rat)} {ys : List (NestedKey × Addr × Value)} (rM : RatL X.K H L M) (rN : RatL X.K H L' N) (rb : KN X.K H L' ys) :
    ∃ eqf : Value → Value → Bool, ∀ xs, KN X.K H L xs → (∀ x p, x ∈ xs → atKey ys x.1 = some p → SeqAt.EqAt A s x.2.2 p.2 (eqf x.2.2 p.2)) ∧ xs.all (hitN eqf ys) = M.all fun x => decide (lookM N x.1 = some x.2) := by
  classical
  refine ⟨fun u v => decide (∃ (p q : Addr) (r : Rat), u = .ref p ∧ v = .ref q ∧ SqT X.K H p (ratV r) ∧ SqT X.K H q (ratV r)), fun xs rx => ?_⟩
  have inj : ∀ {p : Addr} {r t : Rat}, SqT X.K H p (ratV r) → SqT X.K H p (ratV t) → r = t := fun h1 h2 => by
    have z := I.tuple_inj h1 h2
    unfold ratV at z
    injection z with z1 z2
    injection z2 with z2 _
    injection z1 with z1
    injection z2 with z2
    exact Rat.ext z1 (by omega)
  have look : ∀ (k : Pr), (atKey ys (keyN k) = none ∧ lookM N k = none) ∨ ∃ (b q : Addr) (t : Rat), atKey ys (keyN k) = some (b, .ref q) ∧ lookM N k = some t ∧ SqT X.K H q (ratV t) := fun k => by
    have r := rb.val k
    rcases rN.val k with ⟨e1, e2⟩ | ⟨q, t, e1, e2, e3⟩
    · rw [e1] at r
      exact .inl ⟨Option.map_eq_none_iff.mp (RelO.none_of r), e2⟩
    · rw [e1] at r
      obtain ⟨u, hu', ru⟩ := RelO.some_of r
      obtain ⟨p, hp, hp2⟩ := Option.map_eq_some_iff.mp hu'
      obtain ⟨b, u'⟩ := p
      cases hp2
      obtain rfl : u' = Value.ref q := ru
      exact .inr ⟨b, q, t, hp, e2, e3⟩
  have one : ∀ (k : Pr) (p : Addr) (r : Rat), SqT X.K H p (ratV r) → ∀ (c : Addr), hitN (fun u v => decide (∃ (p q : Addr) (r : Rat), u = .ref p ∧ v = .ref q ∧ SqT X.K H p (ratV r) ∧ SqT X.K H q (ratV r))) ys (keyN k, c, .ref p) = decide (lookM N k = some r) := fun k p r hp c => by
    unfold hitN
    rcases look k with ⟨e1, e2⟩ | ⟨b, q, t, e1, e2, e3⟩
    · rw [e1, e2]
      simp
    · rw [e1, e2]
      show decide _ = _
      by_cases h : t = r
      · subst h
        rw [decide_eq_true ⟨p, q, t, rfl, rfl, hp, e3⟩]
        simp
      · have no : ¬ ∃ (p' q' : Addr) (r' : Rat), Value.ref p = .ref p' ∧ Value.ref q = .ref q' ∧ SqT X.K H p' (ratV r') ∧ SqT X.K H q' (ratV r') := fun ⟨p', q', r', h1, h2, h3, h4⟩ => by
          cases h1
          cases h2
          exact h ((inj e3 h4).trans (inj hp h3).symm)
        rw [decide_eq_false no]
        simp [h]
  constructor
  · -- each value is a share
    have vals : ∀ (L : List (Pr × V)) (M : List (Pr × Rat)) (xs : List (NestedKey × Addr × Value)), RatL X.K H L M → KN X.K H L xs → ∀ x ∈ xs, ∃ (k : Pr) (p : Addr) (r : Rat), x.1 = keyN k ∧ x.2.2 = .ref p ∧ SqT X.K H p (ratV r) := by
      intro L M xs rM
      induction rM generalizing xs with
      | nil =>
        intro rx x hx
        cases rx
        exact nomatch hx
      | @cons l m ls ms h t ih =>
        intro rx x hx
        cases rx with
        | @cons _ y _ ys hy ty =>
          rcases List.mem_cons.mp hx with e | hx
          · subst e
            obtain ⟨_, q, e1, e2⟩ := h
            obtain ⟨k1, _, rv⟩ := hy
            rw [e1] at rv
            exact ⟨l.1, q, m.2, k1.symm, rv, e2⟩
          · exact ih _ ty x hx
    intro x p hx hp
    obtain ⟨k, a, r, ek, ea, hr⟩ := vals _ _ _ rM rx x hx
    rw [ek] at hp
    rcases look k with ⟨e1, _⟩ | ⟨b, q, t, e1, e2, e3⟩
    · rw [e1] at hp
      cases hp
    · rw [e1] at hp
      cases hp
      rw [ea]
      have z := ratEq I hr e3 hu
      have e : decide (r = t) = decide (∃ (p q' : Addr) (r : Rat), Value.ref a = .ref p ∧ Value.ref q = .ref q' ∧ SqT X.K H p (ratV r) ∧ SqT X.K H q' (ratV r)) := by
        by_cases h : r = t
        · subst h
          rw [decide_eq_true rfl, decide_eq_true ⟨a, q, r, rfl, rfl, hr, e3⟩]
        · have no : ¬ ∃ (p q' : Addr) (r : Rat), Value.ref a = .ref p ∧ Value.ref q = .ref q' ∧ SqT X.K H p (ratV r) ∧ SqT X.K H q' (ratV r) := fun ⟨p', q', r', h1, h2, h3, h4⟩ => by
            cases h1
            cases h2
            exact h ((inj hr h3).trans (inj e3 h4).symm)
          rw [decide_eq_false h, decide_eq_false no]
      have z' : SeqAt.EqAt A s (.ref a) (.ref q) (decide (∃ (p q' : Addr) (r : Rat), Value.ref a = .ref p ∧ Value.ref q = .ref q' ∧ SqT X.K H p (ratV r) ∧ SqT X.K H q' (ratV r))) := by
        rw [← e]
        exact z
      exact z'
  · clear rb look
    induction rM generalizing xs with
    | nil =>
      cases rx
      rfl
    | @cons l m ls ms h t ih =>
      cases rx with
      | @cons _ y _ xs' hy ty =>
        obtain ⟨e0, q, e1, e2⟩ := h
        obtain ⟨k1, _, rv⟩ := hy
        rw [e1] at rv
        obtain ⟨y1, y2, y3⟩ := y
        simp only at k1 rv
        obtain rfl : y3 = Value.ref q := rv
        rw [List.all_cons, List.all_cons, ih _ ty, ← k1, one l.1 q m.2 e2 y2, e0]
theorem op_eqN (hu : X.A.units + 72 < cLine) : OpR X (compareOp .Eq) (rEqN X.K X.w false) := by
  intro pins s σ H x y v u Q I rx ry h
  obtain ⟨a, b, L, L', M, N, rfl, rfl, ⟨xs, ea, na⟩, ⟨ys, eb, nb⟩, rM, rN, q⟩ := h
  obtain rfl : v = Value.ref a := rx
  obtain rfl : u = Value.ref b := ry
  have da := na.dict I ea
  have db := nb.dict I eb
  obtain ⟨eqf, hits⟩ := eqN_hits (A := X.A.in1) (by rw [Around.in1_units]; omega) I rM rN nb.rel
  obtain ⟨h1, h2⟩ := hits xs na.rel
  refine wpAny_richCompare_same_room (op := .Eq) da.typeIs db.typeIs PySem.F.slot_dict_eq (wpAny_call_entry PySem.F.slot_dict_eq da.typeIs PySem.F.entry_dict_eq ?_ (PySem.F.args_dict_eq_2 _ _)) (by omega)
  show wpAny _ _ (Builtin.Dict.dictSlotArgs "__eq__" ⟨[.ref a, .ref b], []⟩ >>= _) _ _ s
  refine wpAny_bind ?_
  unfold Builtin.Dict.dictSlotArgs
  refine wpAny_bind (wpAny_notOrdered_dict da.typeIs ?_)
  show wpAny _ _ (pure (Value.ref a, Value.ref b)) _ _ s
  refine wpAny_pure ?_
  refine wpAny_bind (wpAny_isInstance (T := "dict") db.typeIs PySem.F.sub_dict_dict ?_)
  simp only [Bool.not_true, Bool.false_eq_true, if_false]
  refine wpAny_bind (wpAny_pure (wpAny_bind (wpAny_pure (wpAny_bind (samePairsN na.sys nb.sys da db (by rw [Around.in1_units]; omega) h1 ?_)))))
  refine wpAny_pure ⟨_, rfl, (fun x => nomatch x), ?_⟩
  have el : (xs.length == ys.length) = (M.length == N.length) := by rw [← Paired.length na.rel, ← Paired.length nb.rel, Paired.length rM, Paired.length rN]
  have e : ((xs.length == ys.length && xs.all (hitN eqf ys)) == true) = (false != eqM M N) := by
    rw [el, h2]
    unfold eqM
    simp
  rw [e]
  exact ⟨.bl (false != eqM M N), H, I, rfl, q⟩
theorem op_neN (hu : X.A.units + 72 < cLine) : OpR X (compareOp .NotEq) (rEqN X.K X.w true) := by
  intro pins s σ H x y v u Q I rx ry h
  obtain ⟨a, b, L, L', M, N, rfl, rfl, ⟨xs, ea, na⟩, ⟨ys, eb, nb⟩, rM, rN, q⟩ := h
  obtain rfl : v = Value.ref a := rx
  obtain rfl : u = Value.ref b := ry
  have da := na.dict I ea
  have db := nb.dict I eb
  obtain ⟨eqf, hits⟩ := eqN_hits (A := X.A.in1) (by rw [Around.in1_units]; omega) I rM rN nb.rel
  obtain ⟨h1, h2⟩ := hits xs na.rel
  refine wpAny_richCompare_same_room (op := .NotEq) da.typeIs db.typeIs PySem.F.slot_dict_ne (wpAny_call_entry PySem.F.slot_dict_ne da.typeIs PySem.F.entry_dict_ne ?_ (PySem.F.args_dict_ne_2 _ _)) (by omega)
  show wpAny _ _ (Builtin.Dict.dictSlotArgs "__ne__" ⟨[.ref a, .ref b], []⟩ >>= _) _ _ s
  refine wpAny_bind ?_
  unfold Builtin.Dict.dictSlotArgs
  refine wpAny_bind (wpAny_notOrdered_dict da.typeIs ?_)
  show wpAny _ _ (pure (Value.ref a, Value.ref b)) _ _ s
  refine wpAny_pure ?_
  refine wpAny_bind (wpAny_isInstance (T := "dict") db.typeIs PySem.F.sub_dict_dict ?_)
  simp only [Bool.not_true, Bool.false_eq_true, if_false]
  refine wpAny_bind (wpAny_pure (wpAny_bind (wpAny_pure (wpAny_bind (samePairsN na.sys nb.sys da db (by rw [Around.in1_units]; omega) h1 ?_)))))
  refine wpAny_pure ⟨_, rfl, (fun x => nomatch x), ?_⟩
  have el : (xs.length == ys.length) = (M.length == N.length) := by rw [← Paired.length na.rel, ← Paired.length nb.rel, Paired.length rM, Paired.length rN]
  have e : ((xs.length == ys.length && xs.all (hitN eqf ys)) == false) = (true != eqM M N) := by
    rw [el, h2]
    show (eqM M N == false) = (true != eqM M N)
    cases eqM M N <;> rfl
  rw [e]
  exact ⟨.bl (true != eqM M N), H, I, rfl, q⟩
end
/-! ### y = {k: v for ..} on one row, y a local name -/
section
variable {X : Cx}
theorem ps_setDn {i : Nat} {y : Str} {py : Pos} {kx vx tg iter : Expr} {ifs : List Expr} {scope : Scope} {own : List (Str × Nat)} {pos spos : Pos} {wi : TI} {g : TG} {tt : TT} {tk tv : TE} (hu : X.A.units + 64 < cLine) (hc : X.calm = true) (hN : X.N.Nodup)
    (hy : X.N[i]? = some y) (hyl : X.env.scope.names.lookup y = some .local) (hsw : swapsWith (.DictComp kx vx [⟨tg, iter, ifs, 0⟩] scope pos) (some (.Name y py)) spos.line X.env = pure true) (hi : PI X tg iter wi) (ok : BlkOk X.N X.env.scope scope own)
    (hg : ∀ (s : Shared) (H : Hp) (C : Addr) (cl : List (Str × Addr)) (fp : List Addr), PG (X.blk s H scope (compEnvC scope cl C X.env) fp) tg g) (ht : ∀ (s : Shared) (H : Hp) (C : Addr) (cl : List (Str × Addr)) (fp : List Addr), PTs (X.blk s H scope (compEnvC scope cl C X.env) fp) ifs tt)
    (hk : ∀ (s : Shared) (H : Hp) (C : Addr) (cl : List (Str × Addr)) (fp : List Addr), PE (X.blk s H scope (compEnvC scope cl C X.env) fp) kx tk) (he : ∀ (s : Shared) (H : Hp) (C : Addr) (cl : List (Str × Addr)) (fp : List Addr), PE (X.blk s H scope (compEnvC scope cl C X.env) fp) vx tv)
    (hs : ∀ x, foldedSetIterable iter X.env x = pure x := by intro _; rfl) : PS X (.Assign [.Name y py] (.DictComp kx vx [⟨tg, iter, ifs, 0⟩] scope pos) spos) (tAsg (tDn X.K X.w wi g tt tk tv (own.map (·.2))) (gName i)) := by
  refine ⟨fun pins s σ H D I h => ?_⟩
  rw [exec_Assign_Name_used _ _ _ _ hsw]
  refine wpAny_bind (wpAny_standAt (wpAny_bind ?_))
  show wpAny _ X.A (do let _ ← comprehension (.DictComp kx vx [⟨tg, iter, ifs, 0⟩] scope pos) scope X.env (firstIterPos [⟨tg, iter, ifs, 0⟩] pos) newDict false (eval iter X.env) (some (assign (.Name y py) X.env))) _ _ s
  have h' : tDn X.K X.w wi g tt tk tv (own.map (·.2)) σ H (fun x H1 => gName i x σ H1 D.nx) := h
  refine wpAny_bind (thn (dn_core (Qf := fun _ s' => SP X pins D .next s') hu hc hN I hi ok hg ht hk he hs h' fun L C s' m H' I' q hn ⟨f0, f1, f2, f3, f4, f5⟩ => ?_) fun _ s' hq => wpAny_pure (wpAny_pure hq))
  show wpAny _ _ (assign (.Name y py) X.env (.ref L)) _ _ _
  refine wpAny_assign_Name (store_ok2 (v := V.ref L) I' hN hy (.inl hyl) rfl (fun s2 I2 ⟨a, sb, ha⟩ => ⟨m, hn.sameBut sb ?_, fun h3 sb3 => ⟨_, H', I2.turned (t' := s2.toks) (fun b o hb e => (sb3.2 b hb).trans e) f0 f1 f3 f4 f5, q⟩⟩) (.inr hyl))
  rcases ha with z | z
  · rw [z]
    exact f1
  · exact fun e => f4 y a z e.symm
theorem sw_trueD {kx vx : Expr} {gs : List Comprehension} {scope : Scope} {pos py : Pos} {y : Str} {l : Nat} {env : Env} (hk : env.scope.kind = .function) (hy : env.scope.names.lookup y = some .local) (hl : (py.line == pos.line) = true)
    (ha : (scope.names.any fun (n, k) => n == y && (k == .local || k == .cell)) = false) : swapsWith (.DictComp kx vx gs scope pos) (some (.Name y py)) l env = pure true := by
  have a : env.kindOf y = some .local := hy
  have b : env.blockKind = .function := by
    unfold Env.blockKind
    rw [hk]
    rfl
  unfold swapsWith
  simp only [a, b, ha, Expr.pos, hl]
  rfl
end
/-! ### sums as lists of products with shares -/
abbrev Poly := List (Pr × Rat)
def lin (f : Pr → Rat) (M : Poly) : Rat := (M.map fun x => x.2 * f x.1).sum
theorem lin_nil (f : Pr → Rat) : lin f [] = 0 := rfl
theorem lin_cons (f : Pr → Rat) (x : Pr × Rat) (M : Poly) : lin f (x :: M) = x.2 * f x.1 + lin f M := by
  unfold lin
  rw [List.map_cons, List.sum_cons]
theorem lin_append (f : Pr → Rat) (M N : Poly) : lin f (M ++ N) = lin f M + lin f N := by
  induction M with
  | nil => rw [List.nil_append, lin_nil, Rat.zero_add]
  | cons x r ih => rw [List.cons_append, lin_cons, lin_cons, ih, Rat.add_assoc]
def putM (M : Poly) (k : Pr) (t : Rat) : Poly := if (M.any fun x => decide (x.1 = k)) = true then M.map (fun x => if x.1 = k then (x.1, t) else x) else M ++ [(k, t)]
def dropM (M : Poly) (k : Pr) : Poly := M.filter fun x => decide (x.1 ≠ k)
def addM (M : Poly) (k : Pr) (r : Rat) : Poly := if (lookM M k).getD 0 + r = 0 then dropM M k else putM M k ((lookM M k).getD 0 + r)
def coef (M : Poly) (k : Pr) : Rat := (lookM M k).getD 0
theorem lookM_nil (k : Pr) : lookM [] k = none := rfl
theorem lookM_cons (x : Pr × Rat) (M : Poly) (k : Pr) : lookM (x :: M) k = if x.1 = k then some x.2 else lookM M k := by
  unfold lookM
  by_cases e : x.1 = k
  · simp [e]
  · simp [e]
theorem lookM_none {M : Poly} {k : Pr} (h : ∀ x ∈ M, x.1 ≠ k) : lookM M k = none := by
  induction M with
  | nil => rfl
  | cons x r ih => rw [lookM_cons, if_neg (h x (by simp)), ih fun y hy => h y (by simp [hy])]
theorem lookM_any (M : Poly) (k : Pr) : (M.any fun x => decide (x.1 = k)) = (lookM M k).isSome := by
  induction M with
  | nil => rfl
  | cons x r ih =>
    rw [List.any_cons, lookM_cons, ih]
    by_cases e : x.1 = k
    · simp [e]
    · simp [e]
theorem lookM_mem {M : Poly} {k : Pr} {r : Rat} (h : lookM M k = some r) : (k, r) ∈ M := by
  induction M with
  | nil => cases h
  | cons x t ih =>
    rw [lookM_cons] at h
    by_cases e : x.1 = k
    · rw [if_pos e] at h
      cases h
      obtain ⟨a, b⟩ := x
      cases e
      exact List.mem_cons_self
    · rw [if_neg e] at h
      exact List.mem_cons_of_mem _ (ih h)
theorem lookM_of {M : Poly} (hn : (M.map (·.1)).Nodup) {k : Pr} {r : Rat} (h : (k, r) ∈ M) : lookM M k = some r := by
  induction M with
  | nil => cases h
  | cons x t ih =>
    rw [List.map_cons] at hn
    obtain ⟨n1, n2⟩ := List.nodup_cons.mp hn
    rw [lookM_cons]
    rcases List.mem_cons.mp h with e | h
    · subst e
      rw [if_pos rfl]
    · rw [if_neg (fun e => n1 (by rw [e]; exact List.mem_map.mpr ⟨_, h, rfl⟩)), ih n2 h]
theorem not_in {M : Poly} {k : Pr} (h : k ∉ M.map (·.1)) : ∀ x ∈ M, x.1 ≠ k := fun x hx e => h (List.mem_map.mpr ⟨x, hx, e⟩)
theorem dropM_id {M : Poly} {k : Pr} (h : ∀ x ∈ M, x.1 ≠ k) : dropM M k = M := List.filter_eq_self.mpr fun x hx => by simpa using h x hx
theorem map_id_of {M : Poly} {k : Pr} {t : Rat} (h : ∀ x ∈ M, x.1 ≠ k) : (M.map fun x => if x.1 = k then (x.1, t) else x) = M := by
  induction M with
  | nil => rfl
  | cons x r ih => rw [List.map_cons, if_neg (h x (by simp)), ih fun y hy => h y (by simp [hy])]
theorem lin_drop (f : Pr → Rat) {M : Poly} (hn : (M.map (·.1)).Nodup) (k : Pr) : lin f (dropM M k) = lin f M - coef M k * f k := by
  induction M with
  | nil =>
    show (0 : Rat) = 0 - (0 : Rat) * f k
    grind
  | cons x r ih =>
    rw [List.map_cons] at hn
    obtain ⟨n1, n2⟩ := List.nodup_cons.mp hn
    by_cases e : x.1 = k
    · have a : dropM (x :: r) k = dropM r k := List.filter_cons_of_neg (by simp [e])
      have b : dropM r k = r := dropM_id (not_in (by rw [← e]; exact n1))
      have c : coef (x :: r) k = x.2 := by unfold coef; rw [lookM_cons, if_pos e]; rfl
      rw [a, b, c, lin_cons, e]
      grind
    · have a : dropM (x :: r) k = x :: dropM r k := List.filter_cons_of_pos (by simp [e])
      have c : coef (x :: r) k = coef r k := by unfold coef; rw [lookM_cons, if_neg e]
      rw [a, c, lin_cons, lin_cons, ih n2]
      grind
theorem lin_put (f : Pr → Rat) {M : Poly} (hn : (M.map (·.1)).Nodup) (k : Pr) (t : Rat) : lin f (putM M k t) = lin f M - coef M k * f k + t * f k := by
  unfold putM
  rw [lookM_any]
  cases h : lookM M k with
  | none =>
    have c : coef M k = 0 := by unfold coef; rw [h]; rfl
    rw [if_neg (by simp), lin_append, lin_cons, lin_nil, c]
    grind
  | some r =>
    rw [if_pos (show (some r).isSome = true from rfl)]
    induction M with
    | nil => cases h
    | cons x m ih =>
      rw [List.map_cons] at hn
      obtain ⟨n1, n2⟩ := List.nodup_cons.mp hn
      by_cases e : x.1 = k
      · have c : coef (x :: m) k = x.2 := by unfold coef; rw [lookM_cons, if_pos e]; rfl
        rw [List.map_cons, if_pos e, map_id_of (not_in (by rw [← e]; exact n1)), lin_cons, lin_cons, c, e]
        grind
      · rw [lookM_cons, if_neg e] at h
        have c : coef (x :: m) k = coef m k := by unfold coef; rw [lookM_cons, if_neg e]
        rw [List.map_cons, if_neg e, lin_cons, lin_cons, ih n2 h, c]
        grind
theorem lin_add (f : Pr → Rat) {M : Poly} (hn : (M.map (·.1)).Nodup) (k : Pr) (r : Rat) : lin f (addM M k r) = lin f M + r * f k := by
  unfold addM
  split
  · rename_i h
    rw [lin_drop f hn]
    have : coef M k = -r := by unfold coef; grind
    grind
  · rw [lin_put f hn]
    show lin f M - coef M k * f k + (coef M k + r) * f k = _
    grind
theorem keys_put (M : Poly) (k : Pr) (t : Rat) : ∀ x ∈ putM M k t, x.1 = k ∧ x.2 = t ∨ x ∈ M := by
  intro x hx
  unfold putM at hx
  split at hx
  · obtain ⟨y, hy, e⟩ := List.mem_map.mp hx
    by_cases z : y.1 = k
    · rw [if_pos z] at e
      subst e
      exact .inl ⟨z, rfl⟩
    · rw [if_neg z] at e
      subst e
      exact .inr hy
  · rcases List.mem_append.mp hx with h | h
    · exact .inr h
    · have e : x = (k, t) := by simpa using h
      subst e
      exact .inl ⟨rfl, rfl⟩
theorem nodup_putM {M : Poly} (k : Pr) (t : Rat) (h : (M.map (·.1)).Nodup) : ((putM M k t).map (·.1)).Nodup := by
  unfold putM
  split
  · have e : (M.map fun x => if x.1 = k then (x.1, t) else x).map (·.1) = M.map (·.1) := by
      rw [List.map_map]
      refine List.map_congr_left fun x _ => ?_
      show (if x.1 = k then (x.1, t) else x).1 = x.1
      split <;> rfl
    rw [e]
    exact h
  · rename_i hn
    rw [List.map_append]
    refine List.nodup_append.mpr ⟨h, by simp, fun a ha b hb z => ?_⟩
    have eb : b = k := by simpa using hb
    subst z
    subst eb
    obtain ⟨x, hx, e⟩ := List.mem_map.mp ha
    exact hn (List.any_eq_true.mpr ⟨x, hx, by simp [e]⟩)
theorem nodup_dropM {M : Poly} (k : Pr) (h : (M.map (·.1)).Nodup) : ((dropM M k).map (·.1)).Nodup := h.sublist (List.Sublist.map _ List.filter_sublist)
theorem nodup_addM {M : Poly} (k : Pr) (r : Rat) (h : (M.map (·.1)).Nodup) : ((addM M k r).map (·.1)).Nodup := by
  unfold addM
  split
  · exact nodup_dropM k h
  · exact nodup_putM k _ h
theorem len_addM (M : Poly) (k : Pr) (r : Rat) : (addM M k r).length ≤ M.length + 1 := by
  unfold addM dropM putM
  split
  · exact Nat.le_succ_of_le (List.length_filter_le _ _)
  · split
    · rw [List.length_map]
      omega
    · rw [List.length_append]
      exact Nat.le_refl _
/-- what holds of each part of a sum -/
structure Good (A : Pr → Prop) (M : Poly) : Prop where
  nd : (M.map (·.1)).Nodup
  nz : ∀ x ∈ M, x.2 ≠ 0
  pr : ∀ x ∈ M, A x.1
theorem Good.nil {A : Pr → Prop} : Good A [] where
  nd := List.nodup_nil
  nz := fun _ h => nomatch h
  pr := fun _ h => nomatch h
theorem nodup_len {α : Type} [DecidableEq α] : ∀ {l m : List α}, l.Nodup → (∀ x ∈ l, x ∈ m) → l.length ≤ m.length
  | [], _, _, _ => Nat.zero_le _
  | x :: r, m, h, s => by
    obtain ⟨h1, h2⟩ := List.nodup_cons.mp h
    have hx : x ∈ m := s x (by simp)
    have ih := nodup_len (m := m.erase x) h2 fun y hy => (List.mem_erase_of_ne (fun e => h1 (by rw [← e]; exact hy))).mpr (s y (by simp [hy]))
    rw [List.length_erase_of_mem hx] at ih
    have := List.length_pos_of_mem hx
    rw [List.length_cons]
    omega
theorem Good.add {A : Pr → Prop} {M : Poly} (g : Good A M) {k : Pr} (hk : A k) (r : Rat) : Good A (addM M k r) := by
  refine ⟨nodup_addM k r g.nd, fun x hx => ?_, fun x hx => ?_⟩
  · unfold addM at hx
    split at hx
    · exact g.nz x (List.mem_filter.mp hx).1
    · rename_i nz
      rcases keys_put M k _ x hx with ⟨_, e⟩ | h
      · rw [e]
        exact nz
      · exact g.nz x h
  · unfold addM at hx
    split at hx
    · exact g.pr x (List.mem_filter.mp hx).1
    · rcases keys_put M k _ x hx with ⟨e, _⟩ | h
      · rw [e]
        exact hk
      · exact g.pr x h
theorem Good.tail {A : Pr → Prop} {x : Pr × Rat} {M : Poly} (g : Good A (x :: M)) : Good A M := by
  have nd := g.nd
  rw [List.map_cons] at nd
  exact ⟨(List.nodup_cons.mp nd).2, fun y hy => g.nz y (by simp [hy]), fun y hy => g.pr y (by simp [hy])⟩
theorem coef_lin {M : Poly} (hn : (M.map (·.1)).Nodup) (k : Pr) : coef M k = lin (fun p => if p = k then 1 else 0) M := by
  induction M with
  | nil => rfl
  | cons x r ih =>
    rw [List.map_cons] at hn
    obtain ⟨n1, n2⟩ := List.nodup_cons.mp hn
    rw [lin_cons, ← ih n2]
    unfold coef
    rw [lookM_cons]
    by_cases e : x.1 = k
    · rw [if_pos e, if_pos e, lookM_none (not_in (by rw [← e]; exact n1))]
      show x.2 = x.2 * 1 + 0
      grind
    · rw [if_neg e, if_neg e]
      grind
/-- two sums that tell the same, whatever is asked, have the same parts -/
theorem eqM_of {A B : Pr → Prop} {M N : Poly} (g : Good A M) (h : Good B N) (e : ∀ f, lin f M = lin f N) : eqM M N = true := by
  have c : ∀ k, coef M k = coef N k := fun k => by rw [coef_lin g.nd, coef_lin h.nd, e]
  have inN : ∀ (M N : Poly) (A B : Pr → Prop), Good A M → Good B N → (∀ k, coef M k = coef N k) → ∀ x ∈ M, lookM N x.1 = some x.2 := fun M N A B g h c x hx => by
    have l := lookM_of g.nd (k := x.1) (r := x.2) hx
    have z := c x.1
    unfold coef at z
    rw [l] at z
    cases y : lookM N x.1 with
    | none =>
      rw [y] at z
      exact absurd z (g.nz x hx)
    | some t =>
      rw [y] at z
      have z' : x.2 = t := z
      rw [z']
  have a := inN M N A B g h c
  have b := inN N M B A h g fun k => (c k).symm
  have sub : ∀ {M N : Poly}, (∀ x ∈ M, lookM N x.1 = some x.2) → ∀ k ∈ M.map (·.1), k ∈ N.map (·.1) := fun a k hk => by
    obtain ⟨x, hx, e⟩ := List.mem_map.mp hk
    subst e
    exact List.mem_map.mpr ⟨_, lookM_mem (a x hx), rfl⟩
  have len : M.length = N.length := by
    have l1 := nodup_len g.nd fun k hk => sub a k hk
    have l2 := nodup_len h.nd fun k hk => sub b k hk
    rw [List.length_map, List.length_map] at l1 l2
    omega
  unfold eqM
  rw [len]
  simp only [beq_self_eq_true, Bool.true_and, List.all_eq_true, decide_eq_true_eq]
  exact a
/-! ### their size -/
def Whole (D : Nat) (r : Rat) : Prop := (r * (D : Rat)).den = 1
def mag (D : Nat) (r : Rat) : Nat := (r * (D : Rat)).num.natAbs
theorem den_one {x : Rat} (h : x.den = 1) : x = (x.num : Rat) := by
  refine Rat.ext ?_ ?_
  · rw [Rat.num_intCast]
  · rw [Rat.den_intCast, h]
theorem Whole.zero (D : Nat) : Whole D 0 := by
  unfold Whole
  rw [Rat.zero_mul]
  rfl
theorem mag_zero (D : Nat) : mag D 0 = 0 := by
  unfold mag
  rw [Rat.zero_mul]
  rfl
theorem Whole.add {D : Nat} {r s : Rat} (h : Whole D r) (g : Whole D s) : Whole D (r + s) ∧ mag D (r + s) ≤ mag D r + mag D s := by
  unfold Whole mag at *
  have e : (r + s) * (D : Rat) = (((r * (D : Rat)).num + (s * (D : Rat)).num : Int) : Rat) := by
    rw [Rat.add_mul, Rat.intCast_add, ← den_one h, ← den_one g]
  rw [e, Rat.den_intCast, Rat.num_intCast]
  exact ⟨rfl, Int.natAbs_add_le _ _⟩
theorem Whole.neg {D : Nat} {r : Rat} (h : Whole D r) : Whole D (-r) ∧ mag D (-r) = mag D r := by
  unfold Whole mag at *
  rw [Rat.neg_mul, Rat.neg_den, Rat.neg_num, Int.natAbs_neg]
  exact ⟨h, rfl⟩
theorem Whole.mul {D E : Nat} {r s : Rat} (h : Whole D r) (g : Whole E s) : Whole (D * E) (r * s) ∧ mag (D * E) (r * s) = mag D r * mag E s := by
  unfold Whole mag at *
  have e : (r * s) * ((D * E : Nat) : Rat) = (((r * (D : Rat)).num * (s * (E : Rat)).num : Int) : Rat) := by
    rw [Rat.intCast_mul, ← den_one h, ← den_one g, Rat.natCast_mul]
    grind
  rw [e, Rat.den_intCast, Rat.num_intCast]
  exact ⟨rfl, Int.natAbs_mul _ _⟩
theorem mag_pos {D : Nat} {r : Rat} (hD : 0 < D) (h : r ≠ 0) : 0 < mag D r := by
  unfold mag
  have : r * (D : Rat) ≠ 0 := fun z => by
    rcases Rat.mul_eq_zero.mp z with z | z
    · exact h z
    · have : (D : Rat) = ((0 : Nat) : Rat) := z
      have := Rat.natCast_inj.mp this
      omega
  have n0 : (r * (D : Rat)).num ≠ 0 := fun z => this (Rat.num_eq_zero.mp z)
  omega
theorem RB.of {D a : Nat} {r : Rat} (hD : 0 < D) (h : Whole D r) (hm : mag D r < 2 ^ a) (hd : D < 2 ^ a) : RB a r := by
  have e : r = Rat.divInt (r * (D : Rat)).num (D : Int) := by
    have z := den_one h
    have d0 : (D : Rat) ≠ 0 := fun q => by
      have : (D : Rat) = ((0 : Nat) : Rat) := q
      have := Rat.natCast_inj.mp this
      omega
    rw [Rat.divInt_eq_div]
    show r = ((r * (D : Rat)).num : Rat) / ((D : Int) : Rat)
    rw [← z]
    have : ((D : Int) : Rat) = (D : Rat) := rfl
    rw [this, Rat.mul_div_cancel d0]
  rw [e]
  exact RB.divInt (by omega) hm hd
/-- the size of all shares of a sum: D times them are whole, these numbers without their signs together -/
def szM (D : Nat) (M : Poly) : Nat := (M.map fun x => mag D x.2).sum
def AllWhole (D : Nat) (M : Poly) : Prop := ∀ x ∈ M, Whole D x.2
theorem szM_cons (D : Nat) (x : Pr × Rat) (M : Poly) : szM D (x :: M) = mag D x.2 + szM D M := by
  unfold szM
  rw [List.map_cons, List.sum_cons]
theorem szM_nil (D : Nat) : szM D [] = 0 := rfl
theorem szM_append (D : Nat) (M N : Poly) : szM D (M ++ N) = szM D M + szM D N := by
  induction M with
  | nil => rw [List.nil_append, szM_nil, Nat.zero_add]
  | cons x r ih => rw [List.cons_append, szM_cons, szM_cons, ih, Nat.add_assoc]
theorem mag_le_szM {D : Nat} {M : Poly} {x : Pr × Rat} (h : x ∈ M) : mag D x.2 ≤ szM D M := by
  induction M with
  | nil => cases h
  | cons y r ih =>
    rw [szM_cons]
    rcases List.mem_cons.mp h with e | h
    · subst e
      omega
    · have := ih h
      omega
theorem szM_drop (D : Nat) (M : Poly) (k : Pr) : szM D (dropM M k) ≤ szM D M := by
  induction M with
  | nil => exact Nat.le_refl _
  | cons x r ih =>
    unfold dropM
    rw [List.filter_cons, szM_cons]
    split
    · rw [szM_cons]
      exact Nat.add_le_add_left ih _
    · exact Nat.le_trans ih (Nat.le_add_left _ _)
theorem szM_put {D : Nat} {M : Poly} (hn : (M.map (·.1)).Nodup) (k : Pr) (t : Rat) : szM D (putM M k t) + mag D (coef M k) = szM D M + mag D t := by
  unfold putM
  rw [lookM_any]
  cases h : lookM M k with
  | none =>
    have c : coef M k = 0 := by unfold coef; rw [h]; rfl
    rw [if_neg (by simp), szM_append, szM_cons, szM_nil, c, mag_zero]
    rfl
  | some r =>
    rw [if_pos (show (some r).isSome = true from rfl)]
    induction M with
    | nil => cases h
    | cons x m ih =>
      rw [List.map_cons] at hn
      obtain ⟨n1, n2⟩ := List.nodup_cons.mp hn
      by_cases e : x.1 = k
      · have c : coef (x :: m) k = x.2 := by unfold coef; rw [lookM_cons, if_pos e]; rfl
        rw [List.map_cons, if_pos e, map_id_of (not_in (by rw [← e]; exact n1)), szM_cons, szM_cons, c]
        show mag D t + szM D m + mag D x.2 = mag D x.2 + szM D m + mag D t
        omega
      · rw [lookM_cons, if_neg e] at h
        have c : coef (x :: m) k = coef m k := by unfold coef; rw [lookM_cons, if_neg e]
        have := ih n2 h
        rw [List.map_cons, if_neg e, szM_cons, szM_cons, c]
        omega
theorem AllWhole.at_ {D : Nat} {M : Poly} (h : AllWhole D M) (k : Pr) : Whole D (coef M k) ∧ mag D (coef M k) ≤ szM D M := by
  have e : coef M k = (lookM M k).getD 0 := rfl
  rw [e]
  cases l : lookM M k with
  | none => exact ⟨Whole.zero D, by show mag D 0 ≤ _; rw [mag_zero]; omega⟩
  | some r => exact ⟨h _ (lookM_mem l), mag_le_szM (x := (k, r)) (lookM_mem l)⟩
theorem AllWhole.add {D : Nat} {M : Poly} (h : AllWhole D M) (hn : (M.map (·.1)).Nodup) (k : Pr) {r : Rat} (hr : Whole D r) : AllWhole D (addM M k r) ∧ szM D (addM M k r) ≤ szM D M + mag D r := by
  have hc := h.at_ k
  have ha := hc.1.add hr
  have e : coef M k = (lookM M k).getD 0 := rfl
  unfold addM
  rw [← e]
  split
  · exact ⟨fun x hx => h x (List.mem_filter.mp hx).1, Nat.le_trans (szM_drop D M k) (Nat.le_add_right _ _)⟩
  · refine ⟨fun x hx => ?_, ?_⟩
    · rcases keys_put M k _ x hx with ⟨_, z⟩ | z
      · rw [z]
        exact ha.1
      · exact h x z
    · have := szM_put (D := D) hn k (coef M k + r)
      omega
/-! ### the class Sum -/
def tFreeze (t : TS) : TS := fun D σ H => t { D with nx := fun σ' H' => ∃ d u, H' d = some u ∧ Mut (some u) ∧ ∀ od, D.nx σ' (upd H' d (.frz od u)) } σ H
/-- behind the statement a thing is only read any more -/
theorem ps_freeze {X : Cx} {st : Stmt} {t : TS} (h : PS X st t) : PS X st (tFreeze t) := ⟨fun pins s σ H D I hw => thn (h.run pins s σ _ _ I hw) fun f s1 q => by
  cases f with
  | next =>
    obtain ⟨σ', H', I2, d, u, e, mu, q⟩ := q
    obtain ⟨od, I3⟩ := I2.lock e mu
    exact ⟨σ', _, I3, q od⟩
  | brk => exact q
  | cont => exact q
  | ret v => exact q⟩
def sumF (d : Addr) : List (Str × V) := putF "parts" (.ref d) []
theorem sumF_parts (d : Addr) : (sumF d).lookup ("parts" : Str) = some (.ref d) := by
  unfold sumF
  rw [lookup_putF, if_pos rfl]
/-- a Sum with the parts M stands at p -/
def SumAt (K : PySem.W.Frag) (w : World) (C : Addr) (H : Hp) (p : Addr) (M : Poly) : Prop := ∃ (dx d : Addr) (o : Obj) (L : List (Pr × V)), H p = some (.ins C dx (sumF d)) ∧ NF K w H d o L ∧ RatL K H L M
/-- .. a dict with these parts, changed or not -/
def PartsAt (K : PySem.W.Frag) (w : World) (H : Hp) (d : Addr) (M : Poly) : Prop := ∃ L : List (Pr × V), ND K w H d L ∧ RatL K H L M
theorem RatL.stay {K : PySem.W.Frag} {H H' : Hp} {L : List (Pr × V)} {M : Poly} (r : RatL K H L M) (t : TupsStay H H') : RatL K H' L M := Paired.mapP r fun _ _ ⟨e, q, e1, e2⟩ => ⟨e, q, e1, SqT.keeps e2 t⟩
theorem SumAt.same {K w C H H' p M} (h : SumAt K w C H p M) (s : Same H H') : SumAt K w C H' p M := by
  obtain ⟨dx, d, o, L, e, n, r⟩ := h
  exact ⟨dx, d, o, L, s _ _ e, n.stay (.same s) fun o e => s _ _ e, r.stay (.same s)⟩
theorem ND.new {K : PySem.W.Frag} {w : World} {H : Hp} {D : Addr} (s : (D == sysModules) = false) : ND K w (upd H D (ndO w D [])) D [] := ⟨[], upd_same, Nat.zero_le _, s, .nil, List.nodup_nil⟩
theorem PartsAt.new {K : PySem.W.Frag} {w : World} {H : Hp} {D : Addr} (s : (D == sysModules) = false) : PartsAt K w (upd H D (ndO w D [])) D [] := ⟨[], .new s, .nil⟩
/-- what stays when only d was changed, which is no tuple -/
def Else (d : Addr) (H H' : Hp) : Prop := ∀ b o, H b = some o → b ≠ d → H' b = some o
theorem Else.tups {d : Addr} {H H' : Hp} {u : HO} (h : Else d H H') (e : H d = some u) (n : NotTup u) : TupsStay H H' := fun b xs q => by
  have nb : b ≠ d := fun z => by
    subst z
    rcases q with q | ⟨ob, q⟩
    · rw [e] at q
      cases q
      exact n
    · rw [e] at q
      cases q
      exact n
  rcases q with q | ⟨ob, q⟩
  · exact .inl (h _ _ q nb)
  · exact .inr ⟨ob, h _ _ q nb⟩
theorem Else.refl (d : Addr) (H : Hp) : Else d H H := fun _ _ e _ => e
theorem Else.trans {d : Addr} {H H1 H2 : Hp} (a : Else d H H1) (b : Else d H1 H2) : Else d H H2 := fun x o e n => b x o (a x o e n) n
theorem Else.same {d : Addr} {H H1 H2 : Hp} (a : Else d H H1) (b : Same H1 H2) : Else d H H2 := fun x o e n => b x o (a x o e n)
theorem Same.else {d : Addr} {H H1 : Hp} (a : Same H H1) : Else d H H1 := fun x o e _ => a x o e
theorem Else.upd {d : Addr} {H : Hp} {o : HO} : Else d H (upd H d o) := fun b o' e n => by rw [upd_ne n]; exact e
theorem Else.fresh {d : Addr} {H0 H H' : Hp} (n : H0 d = none) (a : Same H0 H) (b : Else d H H') : Same H0 H' := fun x o e => b x o (a x o e) (ne_of_none e n)
theorem ND.ne {K : PySem.W.Frag} {w : World} {H : Hp} {d b : Addr} {L : List (Pr × V)} {o : HO} (h : ND K w H d L) (e : H b = some o) (n : ∀ xs, o ≠ ndO w d xs) : b ≠ d := fun z => by
  obtain ⟨xs, q, _⟩ := h
  rw [z, q] at e
  cases e
  exact n xs rfl
/-- no new parts by a key that is not there -/
theorem put_take {L : List (Pr × V)} (hn : (L.map (·.1)).Nodup) {i : Nat} {k : Pr} {v : V} (h : L[i]? = some (k, v)) : putK (L.take i) k v = L.take (i + 1) := by
  have hi : i < L.length := (List.getElem?_eq_some_iff.mp h).1
  have no : valV (L.take i) k = none := by
    cases e : valV (L.take i) k with
    | none => rfl
    | some u =>
      exfalso
      unfold valV at e
      obtain ⟨p, hp, _⟩ := Option.map_eq_some_iff.mp e
      have e1 : p.1 = k := by simpa using List.find?_some hp
      have mem := List.mem_of_find?_eq_some hp
      obtain ⟨j, hj⟩ := List.mem_iff_getElem?.mp mem
      rw [List.getElem?_take] at hj
      split at hj
      · rename_i lt
        have a : (L.map (·.1))[j]? = some k := by rw [List.getElem?_map, hj, ← e1]; rfl
        have b : (L.map (·.1))[i]? = some k := by rw [List.getElem?_map, h]; rfl
        have := nd_ix hn a b
        omega
      · cases hj
  rw [putK_new _ no, List.take_add_one, h]
  rfl
section
variable {P : Program} {w : World} {K : PySem.W.Frag} {mg : Str → Option Value} {base : Heap} {C : Addr}
def spInit (K : PySem.W.Frag) (w : World) (C : Addr) : Sp := fun vs H Q _ => ∃ (p dx d : Addr) (M : Poly), vs = [.ref p, .ref d] ∧ H p = some (.ins C dx []) ∧ PartsAt K w H d M ∧ ∀ H', SumAt K w C H' p M → (∀ b o, H b = some o → b ≠ p → H' b = some o) → Q .non H'
theorem ok_Sum_init {f : Addr} {fd : FuncData} (T : Txt K mg C) (F : Fun K "__init__" "Sum.__init__" s_Sum_init f fd) : FnOk P w K mg base CX0 1 f fd ["self", "parts"] (spInit K w C) := by
  refine F.ok sc_Sum_init (fun vs H Q E h => ?_) (fun cdv A outer s H vs Q E hr h => ?_)
  · obtain ⟨p, dx, d, M, rfl, _⟩ := h
    rfl
  · obtain ⟨p, dx, d, M, rfl, hp, ⟨L, ⟨xs, ed, na⟩, rL⟩, q⟩ := h
    refine ⟨_, (pss_one (ps_freeze (ps_fld (pv 0) (pe_lock (pe_dn (own := [("product", 2), ("part", 3)]) (g := gTup K 2 (gCons (gName 2) (gCons (gName 3) gNil))) (tt := tYes) hr.units rfl sc_Sum_init.nd (pi_itemsN (pv 1)) (blkOk_by (own := [("product", 2), ("part", 3)]) (N := ["self", "parts", "product", "part"]) (sc := defScope s_Sum_init) (by decide +kernel)) (fun _ _ _ _ _ => pg_tup (by rfl) (pgs_cons (pg_name (i := 2) sc_Sum_init.nd rfl (.inl rfl)) (pgs_cons (pg_name (i := 3) sc_Sum_init.nd rfl (.inl rfl)) pgs_nil))) (fun _ _ _ _ _ => pts_nil) (fun _ _ _ _ _ => pv 2) (fun _ _ _ _ _ => pv 3))) rfl))), ?_⟩
    refine ⟨d, _, ed, True.intro, fun od => ?_⟩
    have npd : p ≠ d := ne_of hp ed (by intro z; cases z)
    have nF : NF K w (upd H d (.frz od (ndO w d xs))) d od L := ⟨xs, upd_same, na.stay (.upd ed True.intro)⟩
    refine ⟨_, rfl, d, od, L, rfl, nF, fun D nD sD => dn_items (fun i H2 => ND K w H2 D (L.take i) ∧ Same (upd H d (.frz od (ndO w d xs))) H2) ⟨by rw [List.take_zero]; exact ND.new sD, same_upd nD⟩ (fun i H2 _ h => nF.stay (.same h.2) fun o e => h.2 _ _ e) ?_ ?_⟩
    · rintro i k v H2 Tt b hL ⟨n2, s2⟩ nT hb
      have i1 : i < L.length := (List.getElem?_eq_some_iff.mp hL).1
      refine ⟨Tt, [.ref b, v], rfl, SqT.of upd_same, rfl, _, [v], rfl, _, [], rfl, rfl, rfl, _, rfl, _, rfl, L.take i, k, b, rfl, ?_, ?_, hb.stay (.new nT), fun o n3 => ?_⟩
      · exact n2.stay (.new nT) fun o e => same_upd nT _ _ e
      · rw [List.length_take]
        have := na.len
        omega
      · rw [put_take na.nd hL] at n3
        refine ⟨n3, fun c u e => ?_⟩
        have nc : c ≠ D := ne_of_none e nD
        rw [upd_ne nc]
        exact same_upd nT _ _ (s2 _ _ e)
    · rintro H2 ⟨n2, s2⟩
      rw [List.take_length] at n2
      obtain ⟨ys, eD, nb⟩ := n2
      have ed2 : H2 d = some (.frz od (ndO w d xs)) := s2 _ _ upd_same
      have hp2 : H2 p = some (.ins C dx []) := s2 _ _ (by rw [upd_ne npd]; exact hp)
      have nDd : D ≠ d := (ne_of_none upd_same nD).symm
      have nDp : D ≠ p := (ne_of_none (by rw [upd_ne npd]; exact hp) nD).symm
      refine ⟨ed2, _, rfl, p, C, dx, [], rfl, (by rw [upd_ne npd]; exact hp2), T.cl_Sum, T.n_Sum_parts, (by show 0 < 1000; decide), D, ndO w D ys, ?_, True.intro, fun od' => ?_⟩
      · rw [upd_ne nDp, upd_ne nDd]
        exact eD
      · have t1 : TupsStay H2 (upd H2 d (ndO w d xs)) := .upd ed2 True.intro
        have t2 : TupsStay (upd H2 d (ndO w d xs)) (upd (upd H2 d (ndO w d xs)) p (.ins C dx (sumF D))) := .upd (u := .ins C dx []) (by rw [upd_ne npd]; exact hp2) True.intro
        have t3 : TupsStay (upd (upd H2 d (ndO w d xs)) p (.ins C dx (sumF D))) (upd (upd (upd H2 d (ndO w d xs)) p (.ins C dx (sumF D))) D (.frz od' (ndO w D ys))) := .upd (u := ndO w D ys) (by rw [upd_ne nDp, upd_ne nDd]; exact eD) True.intro
        have t : TupsStay H2 _ := (t1.trans t2).trans t3
        have t0 : TupsStay H H2 := (TupsStay.upd ed True.intro).trans (.same s2)
        refine q _ ⟨dx, D, od', L, ?_, ⟨ys, upd_same, nb.stay t⟩, rL.stay (t0.trans t)⟩ fun b o e nb' => ?_
        · rw [upd_ne nDp.symm]
          exact upd_same
        · have nbD : b ≠ D := by
            by_cases z : b = d
            · rw [z]
              exact nDd.symm
            · exact ne_of_none (by rw [upd_ne z]; exact e) nD
          rw [upd_ne nbD, upd_ne nb']
          by_cases z : b = d
          · subst z
            rw [upd_same]
            rw [ed] at e
            exact e
          · rw [upd_ne z]
            exact s2 _ _ (by rw [upd_ne z]; exact e)
end
/-! ### what a sum's shares keep to -/
structure Fit (A : Pr → Prop) (n D S : Nat) (M : Poly) : Prop where
  good : Good A M
  len : M.length ≤ n
  wh : AllWhole D M
  sz : szM D M ≤ S
theorem Fit.nil {A : Pr → Prop} {n D S : Nat} : Fit A n D S [] where
  good := .nil
  len := Nat.zero_le _
  wh := fun _ h => nomatch h
  sz := Nat.zero_le _
theorem Fit.mono {A : Pr → Prop} {n n' D S S' : Nat} {M : Poly} (h : Fit A n D S M) (hn : n ≤ n') (hS : S ≤ S') : Fit A n' D S' M := ⟨h.good, Nat.le_trans h.len hn, h.wh, Nat.le_trans h.sz hS⟩
theorem Fit.add {A : Pr → Prop} {n D S : Nat} {M : Poly} (h : Fit A n D S M) {k : Pr} {r : Rat} (hk : A k) (hr : Whole D r) : Fit A (n + 1) D (S + mag D r) (addM M k r) := by
  obtain ⟨a, b⟩ := h.wh.add h.good.nd k hr
  exact ⟨h.good.add hk r, Nat.le_trans (len_addM M k r) (Nat.succ_le_succ h.len), a, Nat.le_trans b (Nat.add_le_add_right h.sz _)⟩
theorem Fit.coef {A : Pr → Prop} {n D S : Nat} {M : Poly} (h : Fit A n D S M) (k : Pr) : Whole D (coef M k) ∧ mag D (coef M k) ≤ S := let z := h.wh.at_ k; ⟨z.1, Nat.le_trans z.2 h.sz⟩
theorem Fit.one {A : Pr → Prop} {n D S : Nat} {M : Poly} (h : Fit A n D S M) {x : Pr × Rat} (hx : x ∈ M) : Whole D x.2 ∧ mag D x.2 ≤ S := ⟨h.wh x hx, Nat.le_trans (mag_le_szM hx) h.sz⟩
/-- all of N added to M -/
def sumM (M N : Poly) : Poly := N.foldl (fun acc x => addM acc x.1 x.2) M
theorem sumM_cons (M N : Poly) (x : Pr × Rat) : sumM M (x :: N) = sumM (addM M x.1 x.2) N := rfl
theorem sumM_append (M N N' : Poly) : sumM M (N ++ N') = sumM (sumM M N) N' := List.foldl_append
theorem sumM_take {M N : Poly} {i : Nat} {x : Pr × Rat} (h : N[i]? = some x) : sumM M (N.take (i + 1)) = addM (sumM M (N.take i)) x.1 x.2 := by
  rw [List.take_add_one, h]
  show sumM M (N.take i ++ [x]) = _
  rw [sumM_append]
  rfl
theorem lin_sumM (f : Pr → Rat) : ∀ {M : Poly} (N : Poly), (M.map (·.1)).Nodup → lin f (sumM M N) = lin f M + lin f N
  | M, [], _ => by
    show lin f M = lin f M + lin f []
    rw [lin_nil, Rat.add_zero]
  | M, x :: N, h => by
    rw [sumM_cons, lin_sumM f N (nodup_addM x.1 x.2 h), lin_add f h, lin_cons]
    grind
theorem Fit.sum {A : Pr → Prop} {D : Nat} : ∀ (N : Poly) {n S : Nat} {M : Poly}, Fit A n D S M → (∀ x ∈ N, A x.1 ∧ Whole D x.2) → Fit A (n + N.length) D (S + szM D N) (sumM M N)
  | [], _, _, _, h, _ => h
  | x :: N, n, S, M, h, hN => by
    have a := hN x (by simp)
    have z := Fit.sum N (h.add (k := x.1) (r := x.2) a.1 a.2) fun y hy => hN y (by simp [hy])
    rw [szM_cons, List.length_cons]
    exact z.mono (by omega) (by omega)
theorem szM_take (D : Nat) (N : Poly) (i : Nat) : szM D (N.take i) ≤ szM D N := by
  induction N generalizing i with
  | nil => rw [List.take_nil]; exact Nat.le_refl _
  | cons x r ih =>
    cases i with
    | zero => exact Nat.zero_le _
    | succ i =>
      rw [List.take_succ_cons, szM_cons, szM_cons]
      exact Nat.add_le_add_left (ih i) _
/-- small enough to be reckoned with -/
abbrev big : Nat := 2 ^ 4000
theorem RB.small {D : Nat} {r : Rat} (hD : 0 < D) (hd : D < big) (h : Whole D r) (hm : mag D r < big) : RB 4000 r := RB.of hD h hm hd
/-! ### adding a share to the parts of a sum -/
theorem RatL.look {K : PySem.W.Frag} {H : Hp} {L : List (Pr × V)} {M : Poly} (r : RatL K H L M) (k : Pr) {z : Addr} (hz : SqT K H z (ratV 0)) : ∃ q, (valV L k).getD (.ref z) = .ref q ∧ SqT K H q (ratV (coef M k)) := by
  rcases r.val k with ⟨e1, e2⟩ | ⟨q, x, e1, e2, e3⟩
  · refine ⟨z, by rw [e1]; rfl, ?_⟩
    unfold coef
    rw [e2]
    exact hz
  · refine ⟨q, by rw [e1]; rfl, ?_⟩
    unfold coef
    rw [e2]
    exact e3
theorem RatL.put {K : PySem.W.Frag} {H : Hp} {L : List (Pr × V)} {M : Poly} (r : RatL K H L M) (k : Pr) {t : Rat} {q : Addr} (hq : SqT K H q (ratV t)) : RatL K H (putK L k (.ref q)) (putM M k t) := by
  have e : (L.any fun kv => decide (kv.1 = k)) = (M.any fun x => decide (x.1 = k)) := by
    rw [valV_any, lookM_any]
    rcases r.val k with ⟨e1, e2⟩ | ⟨_, _, e1, e2, _⟩
    · rw [e1, e2]
      rfl
    · rw [e1, e2]
      rfl
  unfold putK putM
  rw [e]
  by_cases c : (M.any fun x => decide (x.1 = k)) = true
  · rw [if_pos c, if_pos c]
    clear e c
    induction r with
    | nil => exact .nil
    | @cons l m ls ms h t' ih =>
      rw [List.map_cons, List.map_cons]
      refine .cons ?_ ih
      obtain ⟨h1, h2⟩ := h
      by_cases z : l.1 = k
      · rw [if_pos z, if_pos (h1 ▸ z)]
        exact ⟨h1, q, rfl, hq⟩
      · rw [if_neg z, if_neg (fun y => z (h1.trans y))]
        exact ⟨h1, h2⟩
  · rw [if_neg c, if_neg c]
    exact Paired.snoc r ⟨rfl, q, rfl, hq⟩
theorem RatL.drop {K : PySem.W.Frag} {H : Hp} {L : List (Pr × V)} {M : Poly} (r : RatL K H L M) (k : Pr) : RatL K H (dropK L k) (dropM M k) := by
  induction r with
  | nil => exact .nil
  | @cons l m ls ms h t ih =>
    unfold dropK dropM
    rw [List.filter_cons, List.filter_cons]
    obtain ⟨h1, h2⟩ := h
    by_cases z : l.1 = k
    · rw [if_neg (by simp [z]), if_neg (by simp [← h1, z])]
      exact ih
    · rw [if_pos (by simp [z]), if_pos (by simp [← h1, z])]
      exact .cons ⟨h1, h2⟩ ih
theorem dropM_none {M : Poly} {k : Pr} (h : lookM M k = none) : dropM M k = M := by
  refine dropM_id fun x hx e => ?_
  have : (lookM M k).isSome = true := by
    rw [← lookM_any]
    exact List.any_eq_true.mpr ⟨x, hx, by simp [e]⟩
  rw [h] at this
  cases this
section
variable {P : Program} {w : World} {K : PySem.W.Frag} {mg : Str → Option Value} {base : Heap} {C : Addr}
def spPut (K : PySem.W.Frag) (w : World) : Sp := fun vs H Q _ => ∃ (d b p : Addr) (k : Pr) (r : Rat) (M : Poly) (A : Pr → Prop) (n D S : Nat), vs = [.ref d, .ref b, .ref p] ∧ PartsAt K w H d M ∧ Fit A n D S M ∧ ProdAt K H b k ∧ SqT K H p (ratV r) ∧ Whole D r ∧
  0 < D ∧ D < big ∧ S < big ∧ mag D r < big ∧ n < sizeLine ∧ ∀ H', PartsAt K w H' d (addM M k r) → Else d H H' → Q .non H'
theorem ok_put_to {f : Addr} {fd : FuncData} (T : Txt K mg C) (F : DefAt K mg "_put_to" "_put_to" s_put_to ["shares", "key", "part"] f fd) : FnOk P w K mg base CX0 3 f fd ["shares", "key", "part"] (spPut K w) := by
  obtain ⟨f1, fd1, D_plus⟩ := T.d_plus
  have G_plus : FnOk P w K mg base CX0 2 f1 fd1 ["one", "other"] (spRat K (· + ·)) := ok_plus T D_plus
  obtain ⟨aN, gN, tN⟩ := T.c_NOUGHT
  refine F.F.ok sc_put_to (fun vs H Q E h => ?_) (fun cdv A outer s H vs Q E hr h => ?_)
  · obtain ⟨d, b, p, k, r, M, A, n, D, S, rfl, _⟩ := h
    rfl
  · obtain ⟨d, b, p, k, r, M, A, n, D, S, rfl, ⟨L, nL, rL⟩, fit, hb, hp, wr, hD, hd, hS, hm, hn, q⟩ := h
    refine ⟨_, pss_cons (ps_set (i := 3) sc_put_to.nd rfl (.inl rfl) (pe_call G_plus (hr.mono (by decide)) (by rfl) D_plus.g D_plus.F.kp D_plus.b .nil pass0 (pa_cons (pe_getN hr.units (pv 0) (pv 1) (pe_glob (v := .ref aN) rfl gN rfl) ⟨rfl, rfl, rfl, rfl⟩) (pa_cons (pv 2) pa_nil))))
      (pss_one (ps_if (pt_cmpR (op_eqD hr.units) (pv 3) (pe_glob (v := .ref aN) rfl gN rfl) (nomark _)) (pss_one (ps_expr (pe_popN hr.units (pv 0) (pv 1) pe_non ⟨rfl, rfl, rfl, rfl⟩))) (pss_one (ps_putN hr.units (pv 0) (pv 1) (pv 3) rfl)))), ?_⟩
    obtain ⟨qa, eqa, hqa⟩ := rL.look k (tN H)
    have wc := fit.coef k
    refine ⟨_, rfl, d, L, rfl, nL.r, _, rfl, L, k, b, rfl, nL.r, hb, _, rfl, ?_⟩
    refine ⟨qa, p, coef M k, r, 4000, 4000, by rw [eqa]; rfl, hqa, hp, .small hD hd wc.1 (Nat.lt_of_le_of_lt wc.2 hS), .small hD hd wr hm, by decide, by decide, by decide, fun o H1 sm no eo => ?_⟩
    have nL1 : ND K w H1 d L := nL.stay (.same sm) fun u e => sm _ _ e
    have rL1 := rL.stay (.same sm)
    have hb1 := hb.stay (.same sm)
    have fin : ∀ (H' : Hp), PartsAt K w H' d (addM M k r) → Else d H1 H' → Q .non H' := fun H' h1 h2 => q H' h1 ((Same.else sm).trans h2)
    refine ⟨_, rfl, .tuple [.int (coef M k + r).num, .int ((coef M k + r).den : Int)], .tuple [.int 0, .int 1], .tup (SqT.of eo) (.cons (.int _) (.cons (.int _) .nil)), .tup (tN H1) (.cons (.int _) (.cons (.int _) .nil)), by simp [SeqAt.shaped, PyData.canLay0, PyData.canLayAll0, PyData.depth, PyData.depthAll],
      by decide, _, rfl, ite2 (fun e => ?_) (fun e => ?_)⟩
    · have e0 : coef M k + r = 0 := by
        simp only [PyData.eqv, PyData.eqvAll, Bool.and_true, Bool.and_eq_true, beq_iff_eq] at e
        exact Rat.num_eq_zero.mp e.1
      have ea : addM M k r = dropM M k := if_pos e0
      rw [ea] at fin
      obtain ⟨xs, ed, na⟩ := id nL1
      refine ⟨_, rfl, d, L, rfl, nL1.r, _, rfl, L, k, b, rfl, nL1, hb1, fun v o hv n2 => ?_, fun hv => ?_⟩
      · exact fin _ ⟨dropK L k, n2, (rL1.drop k).stay (.upd ed True.intro)⟩ .upd
      · have hno : lookM M k = none := by
          rcases rL.val k with ⟨_, e2⟩ | ⟨_, _, e1, _⟩
          · exact e2
          · rw [e1] at hv
            cases hv
        rw [dropM_none hno] at fin
        exact fin H1 ⟨L, nL1, rL1⟩ (.refl _ _)
    · have e0 : ¬ coef M k + r = 0 := fun z => by
        rw [z] at e
        exact e (by decide)
      have ea : addM M k r = putM M k (coef M k + r) := if_neg e0
      rw [ea] at fin
      obtain ⟨xs, ed, na⟩ := id nL1
      refine ⟨_, rfl, _, rfl, _, rfl, d, L, k, b, rfl, rfl, nL1, ?_, hb1, fun o' n2 => ?_⟩
      · have a1 := fit.len
        have a2 : L.length = M.length := Paired.length rL
        omega
      · exact fin _ ⟨_, n2, (rL1.put k (SqT.of eo)).stay (.upd ed True.intro)⟩ .upd
end
/-! ### sums made, added, lessened -/
theorem SqT.keeps' {K : PySem.W.Frag} {H H' : Hp} {a : Addr} {xs : List V} (h : SqT K H a xs) (t : TupsStay H H') : SqT K H' a xs := SqT.keeps h t
theorem PartsAt.stay {K w H H' d M} (h : PartsAt K w H d M) (t : TupsStay H H') (k : ∀ o, H d = some o → H' d = some o) : PartsAt K w H' d M := let ⟨L, n, r⟩ := h; ⟨L, n.stay t k, r.stay t⟩
theorem PartsAt.made {K w H d M} {C x dx : Addr} (h : PartsAt K w H d M) (nx : H x = none) (ndx : H dx = none) : PartsAt K w (upd (upd H dx (.own x)) x (.ins C dx [])) d M := by
  have s : Same H (upd (upd H dx (.own x)) x (.ins C dx [])) := fun b o e => by
    rw [upd_ne (ne_of_none e nx), upd_ne (ne_of_none e ndx)]
    exact e
  exact h.stay (.same s) fun o e => s _ _ e
theorem RatL.at_ {K : PySem.W.Frag} {H : Hp} {L : List (Pr × V)} {N : Poly} (r : RatL K H L N) {i : Nat} {k : Pr} {v : V} (h : L[i]? = some (k, v)) : ∃ (q : Addr) (x : Rat), N[i]? = some (k, x) ∧ v = .ref q ∧ SqT K H q (ratV x) := by
  obtain ⟨m, hm, e1, q, e2, e3⟩ := paired_get r h
  obtain ⟨m1, m2⟩ := m
  simp only at e1 e2 e3
  subst e1
  exact ⟨q, m2, hm, e2, e3⟩
theorem PartsAt.elseNF {K : PySem.W.Frag} {w : World} {H H' : Hp} {d d2 : Addr} {o : Obj} {L2 L : List (Pr × V)} (n : NF K w H d2 o L2) (e : ND K w H d L) (h : Else d H H') : NF K w H' d2 o L2 := by
  obtain ⟨xs, ed, na⟩ := e
  obtain ⟨ys, e2, nb⟩ := n
  exact ⟨ys, h _ _ e2 (ne_of e2 ed (by intro z; cases z)), nb.stay (h.tups ed True.intro)⟩
section
variable {P : Program} {w : World} {K : PySem.W.Frag} {mg : Str → Option Value} {base : Heap} {C : Addr}
def spPutAll (K : PySem.W.Frag) (w : World) (C : Addr) : Sp := fun vs H Q _ => ∃ (d p : Addr) (M N : Poly) (A : Pr → Prop) (n D S : Nat), vs = [.ref d, .ref p] ∧ PartsAt K w H d M ∧ SumAt K w C H p N ∧ Fit A n D S M ∧ (∀ x ∈ N, A x.1 ∧ Whole D x.2) ∧
  0 < D ∧ D < big ∧ S + szM D N < big ∧ n + N.length < sizeLine ∧ ∀ H', PartsAt K w H' d (sumM M N) → Else d H H' → Q .non H'
theorem ok_put_all_to {f : Addr} {fd : FuncData} (T : Txt K mg C) (F : DefAt K mg "_put_all_to" "_put_all_to" s_put_all_to ["parts", "other"] f fd) : FnOk P w K mg base CX0 4 f fd ["parts", "other"] (spPutAll K w C) := by
  obtain ⟨f1, fd1, D_put_to⟩ := T.d_put_to
  have G_put_to : FnOk P w K mg base CX0 3 f1 fd1 ["shares", "key", "part"] (spPut K w) := ok_put_to T D_put_to
  refine F.F.ok sc_put_all_to (fun vs H Q E h => ?_) (fun cdv A outer s H vs Q E hr h => ?_)
  · obtain ⟨d, p, M, N, A, n, D, S, rfl, _⟩ := h
    rfl
  · obtain ⟨d, p, M, N, A, n, D, S, rfl, ⟨L, nL, rL⟩, ⟨dx, d2, o2, L2, ep, n2, r2⟩, fit, hN, hD, hd, hS, hn, q⟩ := h
    refine ⟨_, (pss_one (ps_for PassesOwn.never rfl (pi_itemsN (pe_fld (pv 1) rfl)) (pg_tup (by rfl) (pgs_cons (pg_name (i := 2) sc_put_all_to.nd rfl (.inl rfl)) (pgs_cons (pg_name (i := 3) sc_put_all_to.nd rfl (.inl rfl)) pgs_nil))) (pss_one (ps_expr (pe_call G_put_to (hr.mono (by decide)) (by rfl) D_put_to.g D_put_to.F.kp D_put_to.b .nil pass0 (pa_cons (pv 0) (pa_cons (pv 2) (pa_cons (pv 3) pa_nil)))))))), ?_⟩
    have lN : L2.length = N.length := Paired.length r2
    refine ⟨_, rfl, p, C, dx, _, _, rfl, ep, T.cl_Sum, T.n_Sum_parts, sumF_parts _, d2, o2, L2, rfl, n2, for_itemsN (fun i σ H2 => ∃ v2 v3 : Option V, σ = [some (.ref d), some (.ref p), v2, v3] ∧ PartsAt K w H2 d (sumM M (N.take i)) ∧ Else d H H2) ⟨none, none, rfl, ⟨L, nL, rL⟩, .refl _ _⟩ (fun i σ H2 _ ⟨_, _, _, _, z⟩ => PartsAt.elseNF n2 nL z) ?_ ?_⟩
    · rintro i k v σ H2 Tt b hL ⟨v2, v3, rfl, pM, el⟩ nT hb
      obtain ⟨x, r, hNi, rfl, hq⟩ := r2.at_ hL
      have mem : (k, r) ∈ N := List.mem_of_getElem? hNi
      have sT : Same H2 (upd H2 Tt (.tup [.ref b, .ref x])) := same_upd nT
      refine ⟨Tt, [.ref b, .ref x], rfl, SqT.of upd_same, rfl, _, [.ref x], rfl, _, [], rfl, rfl, ?_⟩
      obtain ⟨xs, ed, na⟩ := id nL
      have tq : SqT K (upd H2 Tt (.tup [.ref b, .ref x])) x (ratV r) := SqT.keeps (SqT.keeps hq (el.tups ed True.intro)) (TupsStay.same sT)
      have fi := Fit.sum (N.take i) fit fun y hy => hN y (List.mem_of_mem_take hy)
      have sz := szM_take D N i
      have sm : mag D r ≤ szM D N := mag_le_szM (x := (k, r)) mem
      have li : (N.take i).length ≤ N.length := by rw [List.length_take]; omega
      obtain ⟨L3, n3, r3⟩ := pM
      refine ⟨_, rfl, _, rfl, _, rfl, d, b, x, k, r, sumM M (N.take i), A, _, D, _, rfl, ⟨L3, n3.stay (.same sT) fun u e => sT _ _ e, r3.stay (.same sT)⟩, fi, hb.stay (.same sT), tq, (hN _ mem).2, hD, hd, by omega, by omega, by omega, fun H' pM' el' => ?_⟩
      refine ⟨_, _, rfl, ?_, (el.same sT).trans el'⟩
      rw [sumM_take hNi]
      exact pM'
    · rintro σ H2 ⟨v2, v3, rfl, pM, el⟩
      rw [lN, List.take_length] at pM
      exact q H2 pM el
def spNumber (K : PySem.W.Frag) (w : World) (C : Addr) : Sp := fun vs H Q _ => ∃ n : Int, vs = [.int n] ∧ n.natAbs < big ∧ ∀ p H', SumAt K w C H' p (addM [] [] (n : Rat)) → Same H H' → H p = none → Q (.ref p) H'
theorem ratV_int (n : Int) : ratV (n : Rat) = [.int n, .int 1] := by
  unfold ratV
  rw [Rat.num_intCast, Rat.den_intCast]
  rfl
theorem whole_int (n : Int) : Whole 1 (n : Rat) ∧ mag 1 (n : Rat) = n.natAbs := by
  unfold Whole mag
  have e : (n : Rat) * ((1 : Nat) : Rat) = (n : Rat) := Rat.mul_one _
  rw [e, Rat.den_intCast, Rat.num_intCast]
  exact ⟨rfl, rfl⟩
theorem ok_sum_of_number {f : Addr} {fd : FuncData} (T : Txt K mg C) (F : DefAt K mg "sum_of_number" "sum_of_number" s_sum_of_number ["n"] f fd) : FnOk P w K mg base CX0 4 f fd ["n"] (spNumber K w C) := by
  obtain ⟨f1, fd1, D_put_to⟩ := T.d_put_to
  have G_put_to : FnOk P w K mg base CX0 3 f1 fd1 ["shares", "key", "part"] (spPut K w) := ok_put_to T D_put_to
  obtain ⟨f2, fd2, M_Sum, FI, b_Sum_init⟩ := T.mk_Sum
  have G_Sum_init : FnOk P w K mg base CX0 1 f2 fd2 ["self", "parts"] (spInit K w C) := ok_Sum_init T FI
  refine F.F.ok sc_sum_of_number (fun vs H Q E h => ?_) (fun cdv A outer s H vs Q E hr h => ?_)
  · obtain ⟨n, rfl, _⟩ := h
    rfl
  · obtain ⟨n, rfl, hn, q⟩ := h
    refine ⟨_, (pss_cons (ps_set (i := 1) sc_sum_of_number.nd rfl (.inl rfl) pe_newN)
      (pss_cons (ps_expr (pe_call G_put_to (hr.mono (by decide)) (by rfl) D_put_to.g D_put_to.F.kp D_put_to.b .nil pass0 (pa_cons (pv 1) (pa_cons (pe_tup pa_nil) (pa_cons (pe_tup (pa_cons (pv 0) (pa_cons pe_int pa_nil))) pa_nil)))))
      (pss_one (ps_ret (pe_make M_Sum G_Sum_init (hr.mono (by decide)) (by rfl) T.g_Sum b_Sum_init .nil pass0 (pa_cons (pv 1) pa_nil)))))), ?_⟩
    intro d nd sd
    refine ⟨_, rfl, (by show 0 ≤ sizeLine; decide), fun b hb => ⟨_, rfl, (by show 2 ≤ sizeLine; decide), fun t ht => ?_⟩⟩
    have p0 : PartsAt K w (upd H d (ndO w d [])) d [] := .new sd
    have s1 := same_upd (o := .tup []) hb
    have s2 := same_upd (o := .tup [.int n, .int 1]) ht
    have p2 := p0.stay (.same (s1.trans s2)) fun u e => (s1.trans s2) _ _ e
    have w1 := whole_int n
    refine ⟨d, b, t, [], (n : Rat), [], fun p => p = [], 0, 1, 0, rfl, p2, .nil, ⟨[], SqT.keeps' (SqT.of upd_same) (.same s2), .nil⟩, ?_, w1.1, by decide, by decide +kernel, by decide +kernel, by rw [w1.2]; exact hn, by decide, fun H1 p1 el => ?_⟩
    · rw [ratV_int]
      exact SqT.of upd_same
    · have el0 : Same H H1 := Else.fresh nd (same_upd nd) ((Same.else (s1.trans s2)).trans el)
      exact ⟨_, rfl, fun x dx nx ndx nex => ⟨x, dx, d, addM [] [] (n : Rat), rfl, upd_same, p1.made nx ndx, fun H2 sA kp => ⟨rfl, q x H2 sA (el0.trans (Same.made nx ndx kp)) (el0.free nx)⟩⟩⟩
end
section
variable {P : Program} {w : World} {K : PySem.W.Frag} {mg : Str → Option Value} {base : Heap} {C : Addr}
/-- what is said of two sums that are reckoned with -/
structure Two (K : PySem.W.Frag) (w : World) (C : Addr) (H : Hp) (p q : Addr) (M N : Poly) (A : Pr → Prop) (n m D S R : Nat) : Prop where
  one : SumAt K w C H p M
  two : SumAt K w C H q N
  fone : Fit A n D S M
  ftwo : Fit A m D R N
  pos : 0 < D
  lit : D < big
def spAdded (K : PySem.W.Frag) (w : World) (C : Addr) : Sp := fun vs H Q _ => ∃ (p q : Addr) (M N : Poly) (A : Pr → Prop) (n m D S R : Nat), vs = [.ref p, .ref q] ∧ Two K w C H p q M N A n m D S R ∧ S + R < big ∧ n + m < sizeLine ∧
  ∀ x H', SumAt K w C H' x (sumM M N) → Same H H' → H x = none → Q (.ref x) H'
/-- the copy of a sum's parts, by a comprehension -/
theorem copy_take {K : PySem.W.Frag} {w : World} {H H2 : Hp} {L : List (Pr × V)} {D d : Addr} {o : Obj} (n : NF K w H d o L) (nD : H D = none) {i : Nat} {k : Pr} {v : V} {Tt b : Addr} (hL : L[i]? = some (k, v)) (n2 : ND K w H2 D (L.take i)) (s2 : Same H H2) (nT : H2 Tt = none) (hb : ProdAt K H2 b k) :
    setN K w D (.ref b) v (upd H2 Tt (.tup [.ref b, v])) (fun H3 => ND K w H3 D (L.take (i + 1)) ∧ Same H H3) := by
  obtain ⟨xs, e, na⟩ := n
  refine ⟨L.take i, k, b, rfl, n2.stay (.new nT) fun o e => same_upd nT _ _ e, ?_, hb.stay (.new nT), fun o n3 => ?_⟩
  · have i1 : i < L.length := (List.getElem?_eq_some_iff.mp hL).1
    rw [List.length_take]
    have := na.len
    omega
  · rw [put_take na.nd hL] at n3
    refine ⟨n3, fun c u e => ?_⟩
    rw [upd_ne (ne_of_none e nD)]
    exact same_upd nT _ _ (s2 _ _ e)
theorem Fit.parts {A : Pr → Prop} {n D S : Nat} {N : Poly} (h : Fit A n D S N) : ∀ x ∈ N, A x.1 ∧ Whole D x.2 := fun x hx => ⟨h.good.pr x hx, h.wh x hx⟩
theorem ok_added {f : Addr} {fd : FuncData} (T : Txt K mg C) (F : DefAt K mg "added" "added" s_added ["one", "other"] f fd) : FnOk P w K mg base CX0 5 f fd ["one", "other"] (spAdded K w C) := by
  obtain ⟨f1, fd1, D_put_all_to⟩ := T.d_put_all_to
  have G_put_all_to : FnOk P w K mg base CX0 4 f1 fd1 ["parts", "other"] (spPutAll K w C) := ok_put_all_to T D_put_all_to
  obtain ⟨f2, fd2, M_Sum, FI, b_Sum_init⟩ := T.mk_Sum
  have G_Sum_init : FnOk P w K mg base CX0 1 f2 fd2 ["self", "parts"] (spInit K w C) := ok_Sum_init T FI
  refine F.F.ok sc_added (fun vs H Q E h => ?_) (fun cdv A outer s H vs Q E hr h => ?_)
  · obtain ⟨p, q, M, N, A, n, m, D, S, R, rfl, _⟩ := h
    rfl
  · obtain ⟨p, q, M, N, A, n, m, D, S, R, rfl, tw, hS, hn, k⟩ := h
    obtain ⟨dx, d1, o1, L1, e1, n1, r1⟩ := id tw.one
    refine ⟨_, (pss_cons (ps_setDn (i := 2) (own := [("product", 3), ("part", 4)]) (g := gTup K 2 (gCons (gName 3) (gCons (gName 4) gNil))) (tt := tYes) hr.units rfl sc_added.nd rfl rfl (sw_trueD rfl rfl rfl (by decide +kernel)) (pi_itemsN (pe_fld (pv 0) rfl)) (blkOk_by (own := [("product", 3), ("part", 4)]) (N := ["one", "other", "total", "product", "part"]) (sc := defScope s_added) (by decide +kernel)) (fun _ _ _ _ _ => (pg_tup (by rfl) (pgs_cons (pg_name (i := 3) sc_added.nd rfl (.inl rfl)) (pgs_cons (pg_name (i := 4) sc_added.nd rfl (.inl rfl)) pgs_nil)))) (fun _ _ _ _ _ => pts_nil) (fun _ _ _ _ _ => (pv 3)) (fun _ _ _ _ _ => (pv 4)))
      (pss_cons (ps_expr (pe_call G_put_all_to (hr.mono (by decide)) (by rfl) D_put_all_to.g D_put_all_to.F.kp D_put_all_to.b .nil pass0 (pa_cons (pv 2) (pa_cons (pv 1) pa_nil))))
      (pss_one (ps_ret (pe_make M_Sum G_Sum_init (hr.mono (by decide)) (by rfl) T.g_Sum b_Sum_init .nil pass0 (pa_cons (pv 2) pa_nil)))))), ?_⟩
    -- total = a copy
    refine ⟨_, rfl, p, C, dx, _, _, rfl, e1, T.cl_Sum, T.n_Sum_parts, sumF_parts _, d1, o1, L1, rfl, n1, fun D' nD sD => dn_items (fun i H2 => ND K w H2 D' (L1.take i) ∧ Same H H2) ⟨by rw [List.take_zero]; exact ND.new sD, same_upd nD⟩ (fun i H2 _ z => n1.stay (.same z.2) fun o e => z.2 _ _ e) ?_ ?_⟩
    · rintro i k' v H2 Tt b hL ⟨n2, s2⟩ nT hb
      exact ⟨Tt, [.ref b, v], rfl, SqT.of upd_same, rfl, _, [v], rfl, _, [], rfl, rfl, rfl, _, rfl, _, rfl, copy_take n1 nD hL n2 s2 nT hb⟩
    · rintro H2 ⟨n2, s2⟩
      rw [List.take_length] at n2
      have r2 := r1.stay (.same s2)
      -- _put_all_to(total, other)
      have szR := tw.ftwo.sz
      have lnR := tw.ftwo.len
      refine ⟨_, rfl, _, rfl, D', q, M, N, A, n, D, S, rfl, ⟨L1, n2, r2⟩, tw.two.same s2, tw.fone, tw.ftwo.parts, tw.pos, tw.lit, by omega, by omega, fun H3 p3 el => ?_⟩
      have s3 : Same H H3 := Else.fresh nD s2 el
      refine ⟨_, rfl, fun x dx nx ndx nex => ⟨x, dx, D', _, rfl, upd_same, p3.made nx ndx, fun H4 sA kp => ⟨rfl, ?_⟩⟩⟩
      exact k x H4 sA (s3.trans (Same.made nx ndx kp)) (s3.free nx)
/-- a sum with the other taken from it -/
def lessM (M N : Poly) : Poly := N.foldl (fun acc x => addM acc x.1 (0 - x.2)) M
theorem lessM_eq (M N : Poly) : lessM M N = sumM M (N.map fun x => (x.1, 0 - x.2)) := by
  unfold lessM sumM
  rw [List.foldl_map]
def negM (N : Poly) : Poly := N.map fun x => (x.1, 0 - x.2)
theorem neg_at {N : Poly} {i : Nat} {k : Pr} {r : Rat} (h : N[i]? = some (k, r)) : (negM N)[i]? = some (k, 0 - r) := by
  unfold negM
  rw [List.getElem?_map, h]
  rfl
theorem whole_neg {D : Nat} {r : Rat} (h : Whole D r) : Whole D (0 - r) ∧ mag D (0 - r) = mag D r := by
  have e : (0 : Rat) - r = -r := by grind
  rw [e]
  exact h.neg
theorem sz_neg {D : Nat} {N : Poly} (h : AllWhole D N) : szM D (negM N) = szM D N := by
  unfold negM
  induction N with
  | nil => rfl
  | cons x r ih =>
    rw [List.map_cons, szM_cons, szM_cons, ih fun y hy => h y (by simp [hy])]
    show mag D (0 - x.2) + _ = _
    rw [(whole_neg (h x (by simp))).2]
theorem lin_neg (f : Pr → Rat) (N : Poly) : lin f (negM N) = - lin f N := by
  unfold negM
  induction N with
  | nil => rfl
  | cons x r ih =>
    rw [List.map_cons, lin_cons, lin_cons, ih]
    grind
theorem neg_parts {A : Pr → Prop} {D : Nat} {N : Poly} (h : ∀ x ∈ N, A x.1 ∧ Whole D x.2) : ∀ x ∈ negM N, A x.1 ∧ Whole D x.2 := fun x hx => by
  obtain ⟨y, hy, e⟩ := List.mem_map.mp hx
  subst e
  exact ⟨(h y hy).1, (whole_neg (h y hy).2).1⟩
theorem neg_len (N : Poly) : (negM N).length = N.length := List.length_map _
def spLessened (K : PySem.W.Frag) (w : World) (C : Addr) : Sp := fun vs H Q _ => ∃ (p q : Addr) (M N : Poly) (A : Pr → Prop) (n m D S R : Nat), vs = [.ref p, .ref q] ∧ Two K w C H p q M N A n m D S R ∧ S + R < big ∧ n + m < sizeLine ∧
  ∀ x H', SumAt K w C H' x (sumM M (negM N)) → Same H H' → H x = none → Q (.ref x) H'
theorem ok_lessened {f : Addr} {fd : FuncData} (T : Txt K mg C) (F : DefAt K mg "lessened" "lessened" s_lessened ["one", "other"] f fd) : FnOk P w K mg base CX0 5 f fd ["one", "other"] (spLessened K w C) := by
  obtain ⟨f1, fd1, D_put_to⟩ := T.d_put_to
  have G_put_to : FnOk P w K mg base CX0 3 f1 fd1 ["shares", "key", "part"] (spPut K w) := ok_put_to T D_put_to
  obtain ⟨f3, fd3, D_minus⟩ := T.d_minus
  have G_minus : FnOk P w K mg base CX0 2 f3 fd3 ["one", "other"] (spRat K (· - ·)) := ok_minus T D_minus
  obtain ⟨f2, fd2, M_Sum, FI, b_Sum_init⟩ := T.mk_Sum
  have G_Sum_init : FnOk P w K mg base CX0 1 f2 fd2 ["self", "parts"] (spInit K w C) := ok_Sum_init T FI
  obtain ⟨aN, g_NOUGHT, tN⟩ := T.c_NOUGHT
  refine F.F.ok sc_lessened (fun vs H Q E h => ?_) (fun cdv A outer s H vs Q E hr h => ?_)
  · obtain ⟨p, q, M, N, A, n, m, D, S, R, rfl, _⟩ := h
    rfl
  · obtain ⟨p, q, M, N, A, n, m, D, S, R, rfl, tw, hS, hn, k⟩ := h
    obtain ⟨dx, d1, o1, L1, e1, n1, r1⟩ := id tw.one
    refine ⟨_, (pss_cons (ps_setDn (i := 4) (own := [("product", 2), ("part", 3)]) (g := gTup K 2 (gCons (gName 2) (gCons (gName 3) gNil))) (tt := tYes) hr.units rfl sc_lessened.nd rfl rfl (sw_trueD rfl rfl rfl (by decide +kernel)) (pi_itemsN (pe_fld (pv 0) rfl)) (blkOk_by (own := [("product", 2), ("part", 3)]) (N := ["one", "other", "product", "part", "total"]) (sc := defScope s_lessened) (by decide +kernel)) (fun _ _ _ _ _ => (pg_tup (by rfl) (pgs_cons (pg_name (i := 2) sc_lessened.nd rfl (.inl rfl)) (pgs_cons (pg_name (i := 3) sc_lessened.nd rfl (.inl rfl)) pgs_nil)))) (fun _ _ _ _ _ => pts_nil) (fun _ _ _ _ _ => (pv 2)) (fun _ _ _ _ _ => (pv 3)))
      (pss_cons (ps_for PassesOwn.never rfl (pi_itemsN (pe_fld (pv 1) rfl)) (pg_tup (by rfl) (pgs_cons (pg_name (i := 2) sc_lessened.nd rfl (.inl rfl)) (pgs_cons (pg_name (i := 3) sc_lessened.nd rfl (.inl rfl)) pgs_nil))) (pss_one (ps_expr (pe_call G_put_to (hr.mono (by decide)) (by rfl) D_put_to.g D_put_to.F.kp D_put_to.b .nil pass0 (pa_cons (pv 4) (pa_cons (pv 2) (pa_cons (pe_call G_minus (hr.mono (by decide)) (by rfl) D_minus.g D_minus.F.kp D_minus.b .nil pass0 (pa_cons (pe_glob (v := .ref aN) rfl g_NOUGHT rfl) (pa_cons (pv 3) pa_nil))) pa_nil)))))))
      (pss_one (ps_ret (pe_make M_Sum G_Sum_init (hr.mono (by decide)) (by rfl) T.g_Sum b_Sum_init .nil pass0 (pa_cons (pv 4) pa_nil)))))), ?_⟩
    refine ⟨_, rfl, p, C, dx, _, _, rfl, e1, T.cl_Sum, T.n_Sum_parts, sumF_parts _, d1, o1, L1, rfl, n1, fun D' nD sD => dn_items (fun i H2 => ND K w H2 D' (L1.take i) ∧ Same H H2) ⟨by rw [List.take_zero]; exact ND.new sD, same_upd nD⟩ (fun i H2 _ z => n1.stay (.same z.2) fun o e => z.2 _ _ e) ?_ ?_⟩
    · rintro i k' v H2 Tt b hL ⟨n2, s2⟩ nT hb
      exact ⟨Tt, [.ref b, v], rfl, SqT.of upd_same, rfl, _, [v], rfl, _, [], rfl, rfl, rfl, _, rfl, _, rfl, copy_take n1 nD hL n2 s2 nT hb⟩
    · rintro H2 ⟨n2, s2⟩
      rw [List.take_length] at n2
      have r2 := r1.stay (.same s2)
      obtain ⟨dy, d3, o3, L3, e3, n3, r3⟩ := tw.two.same s2
      have l3 : L3.length = N.length := Paired.length r3
      have hN := neg_parts tw.ftwo.parts
      have szR : szM D (negM N) ≤ R := by rw [sz_neg tw.ftwo.wh]; exact tw.ftwo.sz
      have lnR : (negM N).length ≤ m := by rw [neg_len]; exact tw.ftwo.len
      refine ⟨_, rfl, q, C, dy, _, _, rfl, e3, T.cl_Sum, T.n_Sum_parts, sumF_parts _, d3, o3, L3, rfl, n3, for_itemsN (fun i σ H3 => ∃ v2 v3 : Option V, σ = [some (.ref p), some (.ref q), v2, v3, some (.ref D')] ∧ PartsAt K w H3 D' (sumM M ((negM N).take i)) ∧ Else D' H2 H3) ⟨none, none, rfl, ⟨L1, n2, r2⟩, .refl _ _⟩ (fun i σ H3 _ ⟨_, _, _, _, z⟩ => PartsAt.elseNF n3 n2 z) ?_ ?_⟩
      · rintro i kk v σ H3 Tt b hL ⟨v2, v3, rfl, pM, el⟩ nT hb
        obtain ⟨x, r, hNi, rfl, hq⟩ := r3.at_ hL
        have hNn := neg_at hNi
        have mem : (kk, 0 - r) ∈ negM N := List.mem_of_getElem? hNn
        have wr : Whole D r ∧ mag D r ≤ R := tw.ftwo.one (x := (kk, r)) (List.mem_of_getElem? hNi)
        have sT : Same H3 (upd H3 Tt (.tup [.ref b, .ref x])) := same_upd nT
        refine ⟨Tt, [.ref b, .ref x], rfl, SqT.of upd_same, rfl, _, [.ref x], rfl, _, [], rfl, rfl, ?_⟩
        obtain ⟨xs, ed, na⟩ := id n2
        have tq : SqT K (upd H3 Tt (.tup [.ref b, .ref x])) x (ratV r) := SqT.keeps (SqT.keeps hq (el.tups ed True.intro)) (TupsStay.same sT)
        refine ⟨_, rfl, _, rfl, _, rfl, aN, x, 0, r, 4000, 4000, rfl, tN _, tq, .small tw.pos tw.lit (Whole.zero D) (by rw [mag_zero]; decide +kernel), .small tw.pos tw.lit wr.1 (by have := wr.2; omega), by decide, by decide, by decide, fun t H4 sm nt et => ?_⟩
        have s34 := sT.trans sm
        have fi := Fit.sum ((negM N).take i) tw.fone fun y hy => hN y (List.mem_of_mem_take hy)
        have sz := szM_take D (negM N) i
        have sm' : mag D (0 - r) ≤ szM D (negM N) := mag_le_szM (x := (kk, 0 - r)) mem
        have li : ((negM N).take i).length ≤ (negM N).length := by rw [List.length_take]; omega
        refine ⟨D', b, t, kk, 0 - r, sumM M ((negM N).take i), A, _, D, _, rfl, pM.stay (.same s34) fun u e => s34 _ _ e, fi, hb.stay (.same s34), SqT.of et, (hN _ mem).2, tw.pos, tw.lit, by omega, by omega, by omega, fun H' pM' el' => ?_⟩
        refine ⟨_, _, rfl, ?_, (el.same s34).trans el'⟩
        rw [sumM_take hNn]
        exact pM'
      · rintro σ H3 ⟨v2, v3, rfl, pM, el⟩
        rw [l3, ← neg_len, List.take_length] at pM
        have s3 : Same H H3 := Else.fresh nD s2 el
        refine ⟨_, rfl, fun x dx nx ndx nex => ⟨x, dx, D', _, rfl, upd_same, pM.made nx ndx, fun H4 sA kp => ⟨rfl, ?_⟩⟩⟩
        exact k x H4 sA (s3.trans (Same.made nx ndx kp)) (s3.free nx)
def spSame (K : PySem.W.Frag) (w : World) (C : Addr) : Sp := fun vs H Q _ => ∃ (p q : Addr) (M N : Poly), vs = [.ref p, .ref q] ∧ SumAt K w C H p M ∧ SumAt K w C H q N ∧ Q (.bl (eqM M N)) H
theorem room72 {A : Around} {k : Nat} (hr : Room k A) : A.units + 72 < cLine := by
  have := hr.un
  omega
theorem ok_same {f : Addr} {fd : FuncData} (T : Txt K mg C) (F : DefAt K mg "same" "same" s_same ["one", "other"] f fd) : FnOk P w K mg base CX0 1 f fd ["one", "other"] (spSame K w C) := by
  refine F.F.ok sc_same (fun vs H Q E h => ?_) (fun cdv A outer s H vs Q E hr h => ?_)
  · obtain ⟨p, q, M, N, rfl, _⟩ := h
    rfl
  · obtain ⟨p, q, M, N, rfl, ⟨dx, d1, o1, L1, e1, n1, r1⟩, ⟨dy, d2, o2, L2, e2, n2, r2⟩, k⟩ := h
    refine ⟨_, (pss_one (ps_ret (pe_cmpR (op_eqN (room72 hr)) (pe_fld (pv 0) rfl) (pe_fld (pv 1) rfl) (nomark _)))), ?_⟩
    refine ⟨_, rfl, p, C, dx, _, _, rfl, e1, T.cl_Sum, T.n_Sum_parts, sumF_parts _, _, rfl, q, C, dy, _, _, rfl, e2, T.cl_Sum, T.n_Sum_parts, sumF_parts _, d1, d2, L1, L2, M, N, rfl, rfl, n1.r, n2.r, r1, r2, ?_⟩
    have e : (false != eqM M N) = eqM M N := by cases eqM M N <;> rfl
    rw [e]
    exact k
def spName (K : PySem.W.Frag) (w : World) (C : Addr) : Sp := fun vs H Q _ => ∃ x : Str, vs = [.str x] ∧ ∀ p H', SumAt K w C H' p [([(x, 1)], 1)] → Same H H' → H p = none → Q (.ref p) H'
theorem ok_sum_of_name {f : Addr} {fd : FuncData} (T : Txt K mg C) (F : DefAt K mg "sum_of_name" "sum_of_name" s_sum_of_name ["x"] f fd) : FnOk P w K mg base CX0 3 f fd ["x"] (spName K w C) := by
  obtain ⟨f2, fd2, M_Sum, FI, b_Sum_init⟩ := T.mk_Sum
  have G_Sum_init : FnOk P w K mg base CX0 1 f2 fd2 ["self", "parts"] (spInit K w C) := ok_Sum_init T FI
  obtain ⟨aO, g_ONE, tO⟩ := T.c_ONE
  refine F.F.ok sc_sum_of_name (fun vs H Q E h => ?_) (fun cdv A outer s H vs Q E hr h => ?_)
  · obtain ⟨x, rfl, _⟩ := h
    rfl
  · obtain ⟨x, rfl, k⟩ := h
    refine ⟨_, pss_one (ps_ret (pe_make M_Sum G_Sum_init (hr.mono (by decide)) (by rfl) T.g_Sum b_Sum_init .nil pass0 (pa_cons (pe_oneN hr.units (pe_tup (pa_cons (pe_tup (pa_cons (pv 0) (pa_cons pe_int pa_nil))) pa_nil)) (pe_glob (v := .ref aO) rfl g_ONE rfl)) pa_nil))), ?_⟩
    intro d nd sd
    refine ⟨_, rfl, (by show 2 ≤ sizeLine; decide), fun t nt => ⟨(by show 1 ≤ sizeLine; decide), fun u nu => ?_⟩⟩
    have s1 := same_upd (o := .tup [.str x, .int 1]) nt
    have s2 := same_upd (o := .tup [.ref t]) nu
    refine ⟨[(x, 1)], u, rfl, ⟨[t], SqT.of upd_same, .cons (SqT.of (s2 _ _ upd_same)) .nil⟩, (s1.trans s2) _ _ upd_same, fun o n3 => ?_⟩
    have el0 : Same H (upd (upd (upd (upd H d (ndO w d [])) t (.tup [.str x, .int 1])) u (.tup [.ref t])) d o) := Else.fresh nd (same_upd nd) ((Same.else (s1.trans s2)).trans .upd)
    have p3 : PartsAt K w (upd (upd (upd (upd H d (ndO w d [])) t (.tup [.str x, .int 1])) u (.tup [.ref t])) d o) d [([(x, 1)], 1)] := ⟨_, n3, .cons ⟨rfl, aO, rfl, tO _⟩ .nil⟩
    refine fun p dx np ndx nex => ⟨p, dx, d, _, rfl, upd_same, p3.made np ndx, fun H2 sA kp => ⟨rfl, ?_⟩⟩
    exact k p H2 sA (el0.trans (Same.made np ndx kp)) (el0.free np)
end
/-! ### sorted(d.items()), keys texts, values whole numbers -/
def slt (x y : Str) : Prop := x.cps.toList < y.cps.toList
instance (x y : Str) : Decidable (slt x y) := inferInstanceAs (Decidable (x.cps.toList < y.cps.toList))
theorem slt_irrefl (x : Str) : ¬ slt x x := List.lt_irrefl _
theorem slt_trans {x y z : Str} (h : slt x y) (g : slt y z) : slt x z := List.lt_trans h g
theorem slt_or {x y : Str} (h : ¬ slt x y) : slt y x ∨ x = y := by
  by_cases g : slt y x
  · exact .inl g
  · right
    have e : x.cps.toList = y.cps.toList := List.le_antisymm (List.not_lt.mp g) (List.not_lt.mp h)
    obtain ⟨⟨l⟩⟩ := x
    obtain ⟨⟨m⟩⟩ := y
    simp only at e
    rw [e]
/-- how many of the names stand ahead of x -/
def rankS (l : List Str) (x : Str) : Int := ((l.filter fun y => decide (slt y x)).length : Int)
theorem rankS_lt {l : List Str} {x y : Str} (hx : x ∈ l) (h : slt x y) : rankS l x < rankS l y := by
  unfold rankS
  have mono : ∀ m : List Str, (m.filter fun z => decide (slt z x)).length ≤ (m.filter fun z => decide (slt z y)).length ∧ (x ∈ m → (m.filter fun z => decide (slt z x)).length < (m.filter fun z => decide (slt z y)).length) := by
    intro m
    induction m with
    | nil => exact ⟨Nat.le_refl _, fun z => nomatch z⟩
    | cons a r ih =>
      rw [List.filter_cons, List.filter_cons]
      by_cases e : slt a x
      · rw [if_pos (by simpa using e), if_pos (by simpa using slt_trans e h), List.length_cons, List.length_cons]
        refine ⟨Nat.succ_le_succ ih.1, fun z => Nat.succ_lt_succ (ih.2 ?_)⟩
        rcases List.mem_cons.mp z with z | z
        · exact absurd (z ▸ e) (slt_irrefl x)
        · exact z
      · rw [if_neg (by simpa using e)]
        by_cases e2 : slt a y
        · rw [if_pos (by simpa using e2), List.length_cons]
          exact ⟨Nat.le_succ_of_le ih.1, fun _ => Nat.lt_succ_of_le ih.1⟩
        · rw [if_neg (by simpa using e2)]
          refine ⟨ih.1, fun z => ih.2 ?_⟩
          rcases List.mem_cons.mp z with z | z
          · exact absurd (z ▸ h) e2
          · exact z
  have := (mono l).2 hx
  omega
theorem rankS_iff {l : List Str} {x y : Str} (hx : x ∈ l) (hy : y ∈ l) : decide (slt x y) = decide (rankS l x < rankS l y) := by
  by_cases h : slt x y
  · rw [decide_eq_true h, decide_eq_true (rankS_lt hx h)]
  · rw [decide_eq_false h]
    rcases slt_or h with g | g
    · have := rankS_lt hy g
      rw [decide_eq_false (by omega)]
    · subst g
      rw [decide_eq_false (by omega)]
section
variable {prog : Program} {w : World} {A : Around} {E : Value → Shared → Prop} {s : Shared}
/-- v is the pair e -/
def PairV (h : Heap) (v : Value) (e : Str × Int) : Prop := ∃ (a : Addr) (t u : Tok), v = .ref a ∧ IsTup h a #[.str e.1 t, .int e.2 u]
def nameV (h : Heap) (v : Value) : Str := DT.txOf (DT.seqAt0 h (DT.refOf (some v)))
theorem PairV.name {h : Heap} {v : Value} {e : Str × Int} (p : PairV h v e) : nameV h v = e.1 := by
  obtain ⟨a, t, u, rfl, ha⟩ := p
  show DT.txOf (DT.seqAt0 h a) = e.1
  rw [DT.seqAt0_of ha]
  rfl
theorem pairs_firsts {h : Heap} : ∀ vs : List Value, (∀ v ∈ vs, ∃ e, PairV h v e) → ∃ fs : List Value, PySem.W.KatTups h vs fs ∧ fs.length = vs.length ∧ ∀ f ∈ fs, ∃ x t, f = Value.str x t
  | [], _ => ⟨[], PySem.W.KatTups.nil, rfl, fun f hf => nomatch hf⟩
  | v :: vs, p => by
    obtain ⟨fs, k, hl, hi⟩ := pairs_firsts vs fun u hu => p u (by simp [hu])
    obtain ⟨e, a, t, u, rfl, o, ho, hc, n, hd⟩ := p v (by simp)
    refine ⟨.str e.1 t :: fs, PySem.W.KatTups.cons ho hc hd rfl k, by simp [hl], fun f hf => ?_⟩
    rcases List.mem_cons.mp hf with z | z
    · exact ⟨_, _, z⟩
    · exact hi f z
theorem kind_pairs {vs : List Value} {l : List Str} (h2 : 2 ≤ vs.length) (p : ∀ v ∈ vs, ∃ e : Str × Int, PairV s.heap v e ∧ e.1 ∈ l) (inj : ∀ (v u : Value) (e f : Str × Int), v ∈ vs → u ∈ vs → PairV s.heap v e → PairV s.heap u f → e.1 = f.1 → e = f) (Q : PyProof.Rows.SortKind → Shared → Prop)
    (h : ∀ κ, TS.Cmp prog w A s κ (PyProof.Rows.pairsOf vs) (fun v => rankS l (nameV s.heap v)) → Q κ s) : wpAny (model prog w) A (PyProof.Rows.keyKind' vs.toArray) Q E s := by
  obtain ⟨fs, k, hl, hi⟩ := pairs_firsts vs fun v hv => let ⟨e, z, _⟩ := p v hv; ⟨e, z⟩
  refine PySem.W.kat_kind (T := Value.type "str") k (by omega) (fun f hf => ?_) rfl (h _ ?_)
  · obtain ⟨x, t, rfl⟩ := hi f hf
    exact .now
  · rw [show (Value.type "str" != Value.type "tuple") = true by decide]
    intro a b ha hb Q' E' hQ
    rw [PyProof.Rows.pairsOf_toList] at ha hb
    have ma := (mem_zip_self ha).2
    have mb := (mem_zip_self hb).2
    obtain ⟨e, pe, ie⟩ := p _ ma
    obtain ⟨f, pf, jf⟩ := p _ mb
    have hQ2 : Q' (decide (slt e.1 f.1)) s := by
      rw [rankS_iff ie jf, ← pe.name, ← pf.name]
      exact hQ
    have same := inj _ _ e f ma mb pe pf
    obtain ⟨x, t, u, e1, o, ho, hc, n, hd⟩ := pe
    obtain ⟨y, t', u', e2, o', ho', hc', n', hd'⟩ := pf
    rw [e1, e2]
    refine PySem.W.kat_lt ho hd ho' hd' ?_
    show PySem.W.KatLex prog w A true false Q' [(Value.str e.1 t, Value.str f.1 t'), (Value.int e.2 u, Value.int f.2 u')] 0 s
    refine PySem.W.kat_cons (wpAny_eqBool_str (PySem.W.kat_go (fun c => ?_) (fun c => ?_)))
    · have z := same (of_decide_eq_true c)
      subst z
      rw [decide_eq_false (slt_irrefl _)] at hQ2
      refine PySem.W.kat_yes (PySem.W.kat_cons (wpAny_eqBool_int (PySem.W.kat_go (fun _ => PySem.W.kat_yes (PySem.W.kat_nil hQ2)) (fun c => ?_))))
      simp at c
    · refine PySem.W.kat_no ?_
      show wpAny _ _ (PyProof.Rows.oneLt' true _ _) _ _ _
      exact PyProof.Rows.oneLt_str hQ2
end
/-! ### sorted(d.items()) of a dict from texts to whole numbers, by values -/
/-- a dict from texts to whole numbers -/
def dSI (L : List (Str × Int)) : List (L2.Key × V) := L.map fun e => (Sum.inr e.1, V.int e.2)
theorem dSI_pairs {P : Program} {w : World} : ∀ {L : List (Str × Int)} {es : List DictEntry} {vs : List (L2.Key × Value)}, KV (dSI L) vs → PySem.Pairs (mixKind P w) es vs → es.length = L.length ∧ ∀ (j : Nat) (e : DictEntry), es[j]? = some e → ∃ (x : Str × Int) (t u : Tok), L[j]? = some x ∧ e.key = .str x.1 t ∧ e.val = .int x.2 u
  | [], _, _, .nil, .nil => ⟨rfl, fun j e h => by simp at h⟩
  | x :: L, _, _, .cons (b := kv) h1 h2, .cons (e := en) k1 k2 k3 => by
    obtain ⟨l, ih⟩ := dSI_pairs h2 k3
    refine ⟨by simp [l], fun j e h => ?_⟩
    cases j with
    | zero =>
      simp only [List.getElem?_cons_zero, Option.some.injEq] at h
      subst h
      have e1 : (Sum.inr x.1 : L2.Key) = kv.1 := h1.1
      rw [← e1] at k1
      obtain ⟨u, hu⟩ : ∃ u, kv.2 = Value.int x.2 u := h1.2
      rcases keyIs_shape (k := (Sum.inr x.1 : L2.Key)) k1 with ⟨i, t, z, _⟩ | ⟨y, t, z, e2⟩
      · cases z
      · cases z
        exact ⟨x, t, u, rfl, e2, k2.trans hu⟩
    | succ j => exact ih j e (by simpa using h)
/-- the view d.items() -/
def rItemsK : V → List V → Hp → VK → Prop := fun x xs H Q => ∃ (a : Addr) (kvs : List (L2.Key × V)), x = .ref a ∧ xs = [] ∧ H a = some (.dK kvs) ∧ ∀ p, H p = none → Q (.ref p) (upd H p (DX.itemsO p a))
theorem mt_itemsK {X : Cx} : MtR X "dict.items" rItemsK := by
  intro pins s σ H x xs v us Q I rx rxs h
  obtain ⟨a, kvs, rfl, rfl, ha, q⟩ := h
  cases rx
  cases rxs
  obtain ⟨z, hd, xs', rel, o, es, ep, ho, hx, hdat, _⟩ := dk_of I.hok ha
  refine DT.callItems (es := es) (ep := ep) hd ⟨o, ho, hx, hdat⟩ ?_
  have hf : H s.heap.objs.size = none := I.hok.fresh (Nat.le_refl _)
  exact ⟨.ref s.heap.objs.size, upd H s.heap.objs.size (DX.itemsO s.heap.objs.size a), I.laid (t' := s.toks) (fun b u e => Heap.get?_push_of_some _ e) (Nat.le_refl _) (DX.itemsO_ok (Heap.get?_push_size _ rfl)), rfl, q _ hf⟩
def rSortK : List V → Hp → VK → Prop := fun vs H Q => ∃ (p a : Addr) (L : List (Str × Int)), vs = [.ref p] ∧ H p = some (DX.itemsO p a) ∧ H a = some (.dK (dSI L)) ∧ L.length < 64 ∧
  ∀ (H' : Hp) (l : Addr) (ps : List (Addr × Str × Int)), Same H H' → (ps.map (·.2)).Perm L → (ps.map (·.2)).Pairwise (fun e f => slt e.1 f.1) → H l = none → H' l = some (.lst (ps.map fun z => V.ref z.1)) →
    (∀ z ∈ ps, H' z.1 = some (.tup [.str z.2.1, .int z.2.2])) → Q (.ref l) H'
theorem cr_sortedK {X : Cx} (hc : X.calm = true) : CallR X (.builtin "sorted") rSortK := by
  intro pins s σ H xs us Q I r h
  obtain ⟨p, a, ks, rfl, hp, ha, h64, q⟩ := h
  obtain rfl := Vals.ref1 r
  have view : s.heap.IsItemsView p a := (show ObjOk X.prog X.w H s.heap p (DX.itemsO p a) from I.hok p _ hp).1
  obtain ⟨z, hd, vs, rel, o, es, ep, ho, hx, hdat, _, hes, hn⟩ := dk_of I.hok ha
  obtain ⟨l2, ent⟩ := dSI_pairs rel hes
  rw [Array.length_toList] at l2
  have ndK : (ks.map (·.1)).Nodup := by
    have e : vs.map (·.1) = ks.map fun e => (Sum.inr e.1 : L2.Key) := by
      rw [← KV.keys rel]
      show (ks.map _).map _ = _
      rw [List.map_map]
      rfl
    rw [e] at hn
    rw [List.nodup_iff_pairwise_ne, List.pairwise_map] at hn ⊢
    exact hn.imp fun {x y} h e => h (by rw [e])
  have hh : X.A.handled = none := I.ok.hd hc
  refine DT.sortedI (es := es) (ep := ep) hh view ⟨o, ho, hx, hdat⟩ (by rw [sizeLine_eq]; omega) fun h' tk as hk hlt hl hG => ?_
  have lak : as.length = ks.length := by omega
  have nd : as.Nodup := List.Pairwise.imp (fun h => Nat.ne_of_lt h) hG.rise
  have pr : ∀ (j : Nat) (b : Addr), as[j]? = some b → ∃ (e : Str × Int) (t u : Tok), ks[j]? = some e ∧ h'.get? b = some { cls := .type "tuple", data := .seq #[Value.str e.1 t, Value.int e.2 u] } := by
    intro j b hj
    obtain ⟨en, he, hg⟩ := hG.pairs j b hj
    rw [← Array.getElem?_toList] at he
    obtain ⟨x, t, u, hx, e1, e2⟩ := ent j en he
    exact ⟨x, t, u, hx, by rw [hg, e1, e2]⟩
  have hob : (h'.push { cls := .type "list", data := .seq (as.map Value.ref).toArray }).get? h'.objs.size = some (seqObj "list" (as.map Value.ref).toArray 0) := Heap.get?_push_size _ rfl
  have kb : ∀ b o, s.heap.get? b = some o → (h'.push { cls := .type "list", data := .seq (as.map Value.ref).toArray }).get? b = some o := fun b o e => Heap.get?_push_of_some _ (hk b o e)
  have ne0 : ∀ b o, h'.get? b = some o → b ≠ h'.objs.size := fun b o e => Nat.ne_of_lt (Heap.lt_size e)
  generalize hh2 : h'.push { cls := .type "list", data := .seq (as.map Value.ref).toArray } = h2 at hob kb ⊢
  have ka : ∀ b o, h'.get? b = some o → h2.get? b = some o := fun b o e => by rw [← hh2]; exact Heap.get?_push_of_some _ e
  have pin : ∀ (j : Nat) (b : Addr), as[j]? = some b → ∃ e : Str × Int, ks[j]? = some e ∧ PairV (TS.midHeap h2 h'.objs.size (as.map Value.ref)) (.ref b) e := by
    intro j b hj
    obtain ⟨e, t, u, he, hg⟩ := pr j b hj
    exact ⟨e, he, b, t, u, rfl, ⟨_, TS.midHeap_old (ne0 _ _ hg) (ka _ _ hg), rfl, 0, rfl⟩⟩
  have tx : ∀ (j : Nat) (b : Addr) (e : Str × Int), as[j]? = some b → ks[j]? = some e → nameV (TS.midHeap h2 h'.objs.size (as.map Value.ref)) (.ref b) = e.1 := by
    intro j b e hj he
    obtain ⟨e', he', hp'⟩ := pin j b hj
    have ee : e' = e := Option.some.inj (he'.symm.trans he)
    rw [← ee]
    exact hp'.name
  have at_ : ∀ v ∈ as.map Value.ref, ∃ (j : Nat) (b : Addr) (e : Str × Int), v = .ref b ∧ as[j]? = some b ∧ ks[j]? = some e := by
    intro v hv'
    obtain ⟨b, hb, rfl⟩ := List.mem_map.mp hv'
    obtain ⟨j, hj⟩ := List.mem_iff_getElem?.mp hb
    obtain ⟨e, _, _, he, _⟩ := pr j b hj
    exact ⟨j, b, e, rfl, hj, he⟩
  refine wpAny_call_entry PyProof.Rows.slot_list_sort ⟨_, hob, rfl⟩ PyProof.Rows.entry_list_sort
    (SK.plain_sort (s := { s with heap := h2, toks := tk }) (r := fun v => rankS (ks.map (·.1)) (nameV (TS.midHeap h2 h'.objs.size (as.map Value.ref)) v)) hob (by rw [List.length_map]; omega) (fun h2' Qk hQk => ?_) fun ps out o1 o2 o3 => ⟨.none, rfl, ?_⟩) (PyProof.Rows.args_list_sort _)
  · refine kind_pairs (s := { s with heap := TS.midHeap h2 h'.objs.size (as.map Value.ref), toks := tk }) (l := ks.map (·.1)) h2' (fun v hv' => ?_) (fun v u e f hv' hu' pe pf ef => ?_) Qk hQk
    · obtain ⟨j, b, e, rfl, hj, he⟩ := at_ v hv'
      obtain ⟨e', he', hp'⟩ := pin j b hj
      exact ⟨e', hp', List.mem_map.mpr ⟨_, List.mem_of_getElem? he', rfl⟩⟩
    · obtain ⟨j, b, e0, rfl, hj, he⟩ := at_ v hv'
      obtain ⟨j2, b2, f0, rfl, hj2, hf⟩ := at_ u hu'
      have a1 := tx j b e0 hj he
      have a2 := tx j2 b2 f0 hj2 hf
      rw [pe.name] at a1
      rw [pf.name] at a2
      have b1 : (ks.map (·.1))[j]? = some e0.1 := by rw [List.getElem?_map, he]; rfl
      have b2' : (ks.map (·.1))[j2]? = some e0.1 := by rw [List.getElem?_map, hf, ← a1, ef, a2]; rfl
      have ej : j = j2 := (List.getElem?_inj (List.getElem?_eq_some_iff.mp b1).1 ndK).mp (b1.trans b2'.symm)
      subst ej
      have eb : b = b2 := Option.some.inj (hj.symm.trans hj2)
      subst eb
      obtain ⟨c1, t1, u1, z1, o1, g1, _, n1, d1⟩ := pe
      obtain ⟨c2, t2, u2, z2, o2, g2, _, n2, d2⟩ := pf
      cases z1
      cases z2
      rw [g1] at g2
      cases g2
      rw [d1] at d2
      injection d2 with d3
      have d4 := congrArg Array.toList d3
      injection d4 with d5 d6
      injection d6 with d7
      injection d5 with d8
      injection d7 with d9
      exact Prod.ext d8 d9
  · show EP X pins σ Q (.ref h'.objs.size) { s with heap := sortedHeap h2 h'.objs.size (as.map Value.ref) out, toks := tk }
    obtain ⟨zs, pz, ez⟩ := perm_lift (fun z : Addr × Str × Int => (Value.ref z.1, Value.ref z.1)) o2 (as.zip ks) (DX.zip_self Value.ref as ks lak)
    have idx : ∀ z ∈ zs, ∃ j : Nat, as[j]? = some z.1 ∧ ks[j]? = some z.2 := by
      intro z' hz'
      obtain ⟨j, hj⟩ := List.mem_iff_getElem?.mp (pz.mem_iff.mp hz')
      exact ⟨j, List.getElem?_zip_eq_some.mp hj⟩
    have hout : out.toList = zs.map fun z => Value.ref z.1 := by
      rw [o1, ← ez, List.map_map]
      all_goals rfl
    have hperm : (zs.map (·.2)).Perm ks := by
      have e := pz.map (·.2)
      have m2 : (as.zip ks).map (·.2) = ks := List.map_snd_zip (by rw [lak]; exact Nat.le_refl _)
      rw [m2] at e
      exact e
    have ndz : ((zs.map (·.2)).map (·.1)).Nodup := (hperm.map (·.1)).nodup_iff.mpr ndK
    have hsort : (zs.map (·.2)).Pairwise (fun e f => slt e.1 f.1) := by
      rw [← ez, List.pairwise_map] at o3
      rw [List.map_map, List.nodup_iff_pairwise_ne, List.pairwise_map] at ndz
      rw [List.pairwise_map]
      refine List.Pairwise.imp_of_mem (fun {x y} hx hy h => ?_) (o3.and ndz)
      obtain ⟨j, j1, j2⟩ := idx x hx
      obtain ⟨i, i1, i2⟩ := idx y hy
      have h1 : rankS (ks.map (·.1)) (nameV (TS.midHeap h2 h'.objs.size (as.map Value.ref)) (.ref x.1)) ≤ rankS (ks.map (·.1)) (nameV (TS.midHeap h2 h'.objs.size (as.map Value.ref)) (.ref y.1)) := h.1
      rw [tx j _ _ j1 j2, tx i _ _ i1 i2] at h1
      have h3 : x.2.1 ≠ y.2.1 := h.2
      by_cases c : slt x.2.1 y.2.1
      · exact c
      · rcases slt_or c with g | g
        · have := rankS_lt (l := ks.map (·.1)) (List.mem_map.mpr ⟨_, List.mem_of_getElem? i2, rfl⟩) g
          omega
        · exact absurd g h3
    have kF : ∀ b o, b ≠ h'.objs.size → h2.get? b = some o → (sortedHeap h2 h'.objs.size (as.map Value.ref) out).get? b = some o := fun b o hb e => (PyProof.Rows.sortedHeap_old hb (Heap.lt_size e)).trans e
    have kS : ∀ b o, s.heap.get? b = some o → (sortedHeap h2 h'.objs.size (as.map Value.ref) out).get? b = some o := fun b o e => kF b o (ne0 _ _ (hk b o e)) (kb b o e)
    obtain ⟨eF, heF⟩ := PyProof.Rows.sortedHeap_at (vs := as.map Value.ref) (out := out) hob
    have I1 : Inv X pins σ H { s with heap := sortedHeap h2 h'.objs.size (as.map Value.ref) out, toks := tk } := I.kept (t' := tk) kS
    have hn0 : H h'.objs.size = none := I.hok.fresh (Nat.le_of_lt hlt)
    have hlen : (zs.map fun z => V.ref z.1).length ≤ sizeLine := by
      have e := hperm.length_eq
      rw [List.length_map] at e
      rw [List.length_map, sizeLine_eq]
      omega
    have rv : Vals (zs.map fun z => V.ref z.1) out.toList := by
      rw [hout]
      exact vals_maps (fun z : Addr × Str × Int => V.ref z.1) (fun z => Value.ref z.1) zs fun _ _ => rfl
    have I2 : Inv X pins σ (upd H h'.objs.size (.lst (zs.map fun z => V.ref z.1))) { s with heap := sortedHeap h2 h'.objs.size (as.map Value.ref) out, toks := tk } :=
      I1.take (h' := sortedHeap h2 h'.objs.size (as.map Value.ref) out) (t' := tk) (fun b ob _ e => e) (I.fpOk (Nat.le_of_lt hlt) hn0) ⟨hlen, out.toList, eF, rv, heF⟩
    obtain ⟨H2, I3, g, qt⟩ := DX.takeT (P := fun b vs => ∃ (j : Nat) (e : Str × Int), as[j]? = some b ∧ ks[j]? = some e ∧ vs = [.str e.1, .int e.2]) I as _ I2 nd fun b hb => by
      obtain ⟨j, hj⟩ := List.mem_iff_getElem?.mp hb
      obtain ⟨e, t, u, he, hg⟩ := pr j b hj
      have hbl : s.heap.objs.size ≤ b := Nat.le_of_lt (hG.above b hb)
      refine ⟨hbl, ?_, [.str e.1, .int e.2], ⟨j, e, hj, he, rfl⟩, fun H3 => ⟨(by rw [sizeLine_eq]; show 2 ≤ 16777216; omega), [Value.str e.1 t, Value.int e.2 u], .cons ⟨t, rfl⟩ (.cons ⟨u, rfl⟩ .nil), ⟨_, kF _ _ (ne0 _ _ hg) (ka _ _ hg), rfl, 0, rfl⟩⟩⟩
      rw [upd_ne (ne0 _ _ hg)]
      exact I.hok.fresh hbl
    have gr : ∀ b o, H b = some o → H2 b = some o := fun b o e => g b o (by rw [upd_ne (ne_of_none e hn0)]; exact e)
    refine ⟨.ref h'.objs.size, H2, I3, rfl, q H2 h'.objs.size zs gr hperm hsort hn0 (g _ _ upd_same) fun z' hz' => ?_⟩
    obtain ⟨i, i1, i2⟩ := idx z' hz'
    obtain ⟨vs, ⟨j, e, j1, j2, ev⟩, hH⟩ := qt z'.1 (List.mem_of_getElem? i1)
    have eij : i = j := (List.getElem?_inj (List.getElem?_eq_some_iff.mp i1).1 nd).mp (i1.trans j1.symm)
    subst eij
    have ee : e = z'.2 := Option.some.inj (j2.symm.trans i2)
    rw [ev, ee] at hH
    exact hH
/-! ### products of names: canonical, joined -/
def expo : Pr → Str → Int
  | [], _ => 0
  | e :: r, x => (if e.1 = x then e.2 else 0) + expo r x
structure Canon (p : Pr) : Prop where
  up : p.Pairwise fun e f => slt e.1 f.1
  one : ∀ e ∈ p, 1 ≤ e.2
theorem Canon.nil : Canon [] := ⟨.nil, fun _ h => nomatch h⟩
theorem Canon.tail {e : Str × Int} {p : Pr} (h : Canon (e :: p)) : Canon p := ⟨(List.pairwise_cons.mp h.up).2, fun f hf => h.one f (by simp [hf])⟩
theorem Canon.nodup {p : Pr} (h : Canon p) : (p.map (·.1)).Nodup := by
  rw [List.nodup_iff_pairwise_ne, List.pairwise_map]
  exact h.up.imp fun {x y} g e => by rw [e] at g; exact slt_irrefl _ g
theorem expo_nonneg {p : Pr} (h : ∀ e ∈ p, 1 ≤ e.2) (x : Str) : 0 ≤ expo p x := by
  induction p with
  | nil => exact Int.le_refl _
  | cons e r ih =>
    have a := ih fun f hf => h f (by simp [hf])
    have b := h e (by simp)
    show 0 ≤ (if e.1 = x then e.2 else 0) + expo r x
    split <;> omega
theorem expo_zero {p : Pr} {x : Str} (h : ∀ e ∈ p, e.1 ≠ x) : expo p x = 0 := by
  induction p with
  | nil => rfl
  | cons e r ih =>
    show (if e.1 = x then e.2 else 0) + expo r x = 0
    rw [if_neg (h e (by simp)), ih fun f hf => h f (by simp [hf])]
    rfl
theorem expo_pos {p : Pr} (h : ∀ e ∈ p, 1 ≤ e.2) {x : Str} (hx : ∃ e ∈ p, e.1 = x) : 1 ≤ expo p x := by
  induction p with
  | nil =>
    obtain ⟨e, he, _⟩ := hx
    cases he
  | cons e r ih =>
    show 1 ≤ (if e.1 = x then e.2 else 0) + expo r x
    have a := expo_nonneg (p := r) (fun f hf => h f (by simp [hf])) x
    have b := h e (by simp)
    by_cases z : e.1 = x
    · rw [if_pos z]
      omega
    · obtain ⟨f, hf, ef⟩ := hx
      rcases List.mem_cons.mp hf with q | q
      · subst q
        exact absurd ef z
      · have := ih (fun f hf => h f (by simp [hf])) ⟨f, q, ef⟩
        rw [if_neg z]
        omega
theorem mem_of_expo {p : Pr} {x : Str} (h : expo p x ≠ 0) : ∃ e ∈ p, e.1 = x := by
  by_cases q : ∃ e ∈ p, e.1 = x
  · exact q
  · exact absurd (expo_zero fun e he z => q ⟨e, he, z⟩) h
theorem Canon.head {e : Str × Int} {p : Pr} (h : Canon (e :: p)) : expo (e :: p) e.1 = e.2 := by
  show (if e.1 = e.1 then e.2 else 0) + expo p e.1 = e.2
  rw [if_pos rfl, expo_zero fun f hf z => ?_]
  · omega
  · have := (List.pairwise_cons.mp h.up).1 f hf
    rw [z] at this
    exact slt_irrefl _ this
theorem Canon.low {e : Str × Int} {p : Pr} (h : Canon (e :: p)) {x : Str} (hx : slt x e.1) : expo (e :: p) x = 0 := by
  refine expo_zero fun f hf z => ?_
  rcases List.mem_cons.mp hf with q | q
  · subst q
    rw [z] at hx
    exact slt_irrefl _ hx
  · have := (List.pairwise_cons.mp h.up).1 f q
    rw [z] at this
    exact slt_irrefl _ (slt_trans hx this)
theorem canon_eq : ∀ {p q : Pr}, Canon p → Canon q → (∀ x, expo p x = expo q x) → p = q
  | [], [], _, _, _ => rfl
  | [], f :: q, _, hq, h => by
    have a := h f.1
    rw [hq.head] at a
    have b := hq.one f (by simp)
    have : expo [] f.1 = 0 := rfl
    omega
  | e :: p, [], hp, _, h => by
    have a := h e.1
    rw [hp.head] at a
    have b := hp.one e (by simp)
    have : expo [] e.1 = 0 := rfl
    omega
  | e :: p, f :: q, hp, hq, h => by
    have n1 : ¬ slt e.1 f.1 := fun z => by
      have a := h e.1
      rw [hp.head, hq.low z] at a
      have := hp.one e (by simp)
      omega
    have n2 : ¬ slt f.1 e.1 := fun z => by
      have a := h f.1
      rw [hq.head, hp.low z] at a
      have := hq.one f (by simp)
      omega
    have e1 : e.1 = f.1 := (slt_or n1).resolve_left n2
    have e2 : e.2 = f.2 := by
      have a := h e.1
      rw [hp.head, e1, hq.head] at a
      exact a
    have ef : e = f := Prod.ext e1 e2
    subst ef
    rw [canon_eq hp.tail hq.tail fun x => by
      have a : (if e.1 = x then e.2 else 0) + expo p x = (if e.1 = x then e.2 else 0) + expo q x := h x
      omega]
def insE (e : Str × Int) : Pr → Pr
  | [] => [e]
  | f :: r => if slt e.1 f.1 then e :: f :: r else if e.1 = f.1 then (f.1, f.2 + e.2) :: r else f :: insE e r
theorem expo_ins (e : Str × Int) (p : Pr) (x : Str) : expo (insE e p) x = (if e.1 = x then e.2 else 0) + expo p x := by
  induction p with
  | nil => rfl
  | cons f r ih =>
    unfold insE
    split
    · rfl
    · split
      · rename_i h
        show (if f.1 = x then f.2 + e.2 else 0) + expo r x = (if e.1 = x then e.2 else 0) + ((if f.1 = x then f.2 else 0) + expo r x)
        rw [h]
        split <;> omega
      · show (if f.1 = x then f.2 else 0) + expo (insE e r) x = (if e.1 = x then e.2 else 0) + ((if f.1 = x then f.2 else 0) + expo r x)
        rw [ih]
        omega
theorem ins_names {e : Str × Int} {p : Pr} {f : Str × Int} (h : f ∈ insE e p) : f.1 = e.1 ∨ ∃ g ∈ p, g.1 = f.1 := by
  induction p with
  | nil => exact .inl (by rw [show f = e by simpa [insE] using h])
  | cons g r ih =>
    unfold insE at h
    split at h
    · rcases List.mem_cons.mp h with z | z
      · exact .inl (by rw [z])
      · exact .inr ⟨f, z, rfl⟩
    · split at h
      · rename_i q
        rcases List.mem_cons.mp h with z | z
        · exact .inl (by rw [z]; exact q.symm)
        · exact .inr ⟨f, by simp [z], rfl⟩
      · rcases List.mem_cons.mp h with z | z
        · exact .inr ⟨f, by simp [z], rfl⟩
        · rcases ih z with y | ⟨t, ht, et⟩
          · exact .inl y
          · exact .inr ⟨t, by simp [ht], et⟩
theorem Canon.ins {e : Str × Int} {p : Pr} (he : 1 ≤ e.2) (h : Canon p) : Canon (insE e p) := by
  induction p with
  | nil => exact ⟨List.pairwise_singleton _ _, fun f hf => by rw [show f = e by simpa [insE] using hf]; exact he⟩
  | cons f r ih =>
    have hr := ih h.tail
    have hf := h.one f (by simp)
    have up := List.pairwise_cons.mp h.up
    unfold insE
    split
    · rename_i z
      refine ⟨List.pairwise_cons.mpr ⟨fun g hg => ?_, h.up⟩, fun g hg => ?_⟩
      · rcases List.mem_cons.mp hg with q | q
        · rw [q]; exact z
        · exact slt_trans z (up.1 g q)
      · rcases List.mem_cons.mp hg with q | q
        · rw [q]; exact he
        · exact h.one g q
    · split
      · refine ⟨List.pairwise_cons.mpr ⟨up.1, up.2⟩, fun g hg => ?_⟩
        rcases List.mem_cons.mp hg with q | q
        · rw [q]
          show 1 ≤ f.2 + e.2
          omega
        · exact h.one g (by simp [q])
      · rename_i n1 n2
        refine ⟨List.pairwise_cons.mpr ⟨fun g hg => ?_, hr.up⟩, fun g hg => ?_⟩
        · rcases ins_names hg with q | ⟨t, ht, et⟩
          · rw [q]
            rcases slt_or n1 with z | z
            · exact z
            · exact absurd z n2
          · rw [← et]
            exact up.1 t ht
        · rcases List.mem_cons.mp hg with q | q
          · rw [q]; exact hf
          · exact hr.one g q
/-- the product of two products -/
def joinP (p q : Pr) : Pr := p.foldr insE q
theorem expo_join (p q : Pr) (x : Str) : expo (joinP p q) x = expo p x + expo q x := by
  induction p with
  | nil =>
    show expo q x = 0 + expo q x
    omega
  | cons e r ih =>
    show expo (insE e (joinP r q)) x = (if e.1 = x then e.2 else 0) + expo r x + expo q x
    rw [expo_ins, ih]
    omega
theorem Canon.join {p q : Pr} (hp : ∀ e ∈ p, 1 ≤ e.2) (hq : Canon q) : Canon (joinP p q) := by
  induction p with
  | nil => exact hq
  | cons e r ih => exact (ih fun f hf => hp f (by simp [hf])).ins (hp e (by simp))
theorem join_names {p q : Pr} {f : Str × Int} (h : f ∈ joinP p q) : (∃ g ∈ p, g.1 = f.1) ∨ ∃ g ∈ q, g.1 = f.1 := by
  induction p generalizing f with
  | nil => exact .inr ⟨f, h, rfl⟩
  | cons e r ih =>
    rcases ins_names h with z | ⟨t, ht, et⟩
    · exact .inl ⟨e, by simp, z.symm⟩
    · rcases ih ht with ⟨g, hg, eg⟩ | ⟨g, hg, eg⟩
      · exact .inl ⟨g, by simp [hg], eg.trans et⟩
      · exact .inr ⟨g, hg, eg.trans et⟩
theorem join_comm {p q : Pr} (hp : Canon p) (hq : Canon q) : joinP p q = joinP q p := canon_eq (hq.join hp.one) (hp.join hq.one) fun x => by rw [expo_join, expo_join]; omega
theorem join_assoc {p q r : Pr} (hp : Canon p) (hq : Canon q) (hr : Canon r) : joinP (joinP p q) r = joinP p (joinP q r) := canon_eq (hr.join (hq.join hp.one).one) ((hr.join hq.one).join hp.one) fun x => by rw [expo_join, expo_join, expo_join, expo_join]; omega
theorem join_nil {p : Pr} (hp : Canon p) : joinP p [] = p := canon_eq (Canon.nil.join hp.one) hp fun x => by rw [expo_join]; show expo p x + 0 = _; omega
theorem nil_join (p : Pr) : joinP [] p = p := rfl
theorem expo_perm {p q : Pr} (h : p.Perm q) (x : Str) : expo p x = expo q x := by
  induction h with
  | nil => rfl
  | cons e _ ih =>
    show (if e.1 = x then e.2 else 0) + _ = (if e.1 = x then e.2 else 0) + _
    rw [ih]
  | swap e f r =>
    show (if f.1 = x then f.2 else 0) + ((if e.1 = x then e.2 else 0) + expo r x) = (if e.1 = x then e.2 else 0) + ((if f.1 = x then f.2 else 0) + expo r x)
    omega
  | trans _ _ a b => exact a.trans b
/-! ### dicts from names to powers, by turns -/
def putS (L : Pr) (x : Str) (v : Int) : Pr := if (L.any fun e => decide (e.1 = x)) = true then L.map (fun e => if e.1 = x then (e.1, v) else e) else L ++ [(x, v)]
theorem dSI_put (L : Pr) (x : Str) (v : Int) : putK (dSI L) (Sum.inr x) (.int v) = dSI (putS L x v) := by
  unfold putK putS dSI
  have e : ((L.map fun e => ((Sum.inr e.1 : L2.Key), V.int e.2)).any fun kv => decide (kv.1 = (Sum.inr x : L2.Key))) = L.any fun e => decide (e.1 = x) := by
    rw [List.any_map]
    congr 1
    funext a
    show decide ((Sum.inr a.1 : L2.Key) = Sum.inr x) = decide (a.1 = x)
    by_cases z : a.1 = x
    · simp [z]
    · simp [z]
  rw [e]
  by_cases c : (L.any fun e => decide (e.1 = x)) = true
  · rw [if_pos c, if_pos c, List.map_map, List.map_map]
    refine List.map_congr_left fun a _ => ?_
    show (if (Sum.inr a.1 : L2.Key) = Sum.inr x then ((Sum.inr a.1 : L2.Key), V.int v) else (Sum.inr a.1, V.int a.2)) = (Sum.inr (if a.1 = x then (a.1, v) else a).1, V.int (if a.1 = x then (a.1, v) else a).2)
    by_cases z : a.1 = x
    · rw [if_pos (by rw [z]), if_pos z]
    · rw [if_neg (by simpa using z), if_neg z]
  · rw [if_neg c, if_neg c, List.map_append]
    rfl
theorem valV_dSI {L : Pr} (hn : (L.map (·.1)).Nodup) (x : Str) : (valV (dSI L) (Sum.inr x)).getD (.int 0) = .int (expo L x) := by
  induction L with
  | nil => rfl
  | cons e r ih =>
    rw [List.map_cons] at hn
    obtain ⟨n1, n2⟩ := List.nodup_cons.mp hn
    have ih := ih n2
    unfold valV dSI at ih ⊢
    rw [List.map_cons, List.find?_cons]
    show _ = V.int ((if e.1 = x then e.2 else 0) + expo r x)
    by_cases z : e.1 = x
    · rw [if_pos z, expo_zero fun f hf q => n1 (by rw [z, ← q]; exact List.mem_map.mpr ⟨f, hf, rfl⟩)]
      simp [z]
    · rw [if_neg z]
      simp only [show decide ((Sum.inr e.1 : L2.Key) = Sum.inr x) = false by simpa using z, Int.zero_add]
      exact ih
theorem expo_append (p q : Pr) (x : Str) : expo (p ++ q) x = expo p x + expo q x := by
  induction p with
  | nil =>
    show expo q x = 0 + expo q x
    omega
  | cons e r ih =>
    show (if e.1 = x then e.2 else 0) + expo (r ++ q) x = (if e.1 = x then e.2 else 0) + expo r x + expo q x
    rw [ih]
    omega
theorem putS_keys (L : Pr) (x : Str) (v : Int) : ∀ e ∈ putS L x v, e = (x, v) ∨ e ∈ L := by
  intro e he
  unfold putS at he
  split at he
  · obtain ⟨f, hf, ef⟩ := List.mem_map.mp he
    by_cases z : f.1 = x
    · rw [if_pos z] at ef
      exact .inl (by rw [← ef, z])
    · rw [if_neg z] at ef
      exact .inr (by rw [← ef]; exact hf)
  · rcases List.mem_append.mp he with h | h
    · exact .inr h
    · exact .inl (by simpa using h)
theorem putS_nodup {L : Pr} (x : Str) (v : Int) (h : (L.map (·.1)).Nodup) : ((putS L x v).map (·.1)).Nodup := by
  unfold putS
  split
  · have e : (L.map fun e => if e.1 = x then (e.1, v) else e).map (·.1) = L.map (·.1) := by
      rw [List.map_map]
      refine List.map_congr_left fun e _ => ?_
      show (if e.1 = x then (e.1, v) else e).1 = e.1
      split <;> rfl
    rw [e]
    exact h
  · rename_i hn
    rw [List.map_append]
    refine List.nodup_append.mpr ⟨h, by simp, fun a ha b hb z => ?_⟩
    have eb : b = x := by simpa using hb
    subst z
    subst eb
    obtain ⟨e, he, ee⟩ := List.mem_map.mp ha
    exact hn (List.any_eq_true.mpr ⟨e, he, by simp [ee]⟩)
theorem putS_len (L : Pr) (x : Str) (v : Int) : (putS L x v).length ≤ L.length + 1 := by
  unfold putS
  split
  · rw [List.length_map]
    omega
  · rw [List.length_append]
    exact Nat.le_refl _
theorem expo_put {L : Pr} (hn : (L.map (·.1)).Nodup) (x : Str) (k : Int) (y : Str) : expo (putS L x (expo L x + k)) y = expo L y + (if x = y then k else 0) := by
  have gen : ∀ v, expo (putS L x v) y = expo L y + (if x = y then v - expo L x else 0) := by
    intro v
    unfold putS
    by_cases c : (L.any fun e => decide (e.1 = x)) = true
    · rw [if_pos c]
      obtain ⟨e0, he0, ee0⟩ := List.any_eq_true.mp c
      have ee1 : e0.1 = x := by simpa using ee0
      clear c ee0
      induction L with
      | nil => cases he0
      | cons e r ih =>
        rw [List.map_cons] at hn
        obtain ⟨n1, n2⟩ := List.nodup_cons.mp hn
        by_cases z : e.1 = x
        · have same : (r.map fun f => if f.1 = x then (f.1, v) else f) = r := by
            conv => rhs; rw [← List.map_id r]
            refine List.map_congr_left fun f hf => ?_
            rw [if_neg fun q => n1 (by rw [z, ← q]; exact List.mem_map.mpr ⟨f, hf, rfl⟩)]
            rfl
          have z0 : expo r x = 0 := expo_zero fun f hf q => n1 (by rw [z, ← q]; exact List.mem_map.mpr ⟨f, hf, rfl⟩)
          rw [List.map_cons, if_pos z, same]
          show (if e.1 = y then v else 0) + expo r y = (if e.1 = y then e.2 else 0) + expo r y + (if x = y then v - ((if e.1 = x then e.2 else 0) + expo r x) else 0)
          rw [if_pos z, z0, z]
          split <;> omega
        · rw [List.map_cons, if_neg z]
          rcases List.mem_cons.mp he0 with q | q
          · subst q
            exact absurd ee1 z
          · show (if e.1 = y then e.2 else 0) + _ = (if e.1 = y then e.2 else 0) + expo r y + (if x = y then v - ((if e.1 = x then e.2 else 0) + expo r x) else 0)
            rw [ih n2 q, if_neg z]
            split <;> split <;> omega
    · rw [if_neg c, expo_append]
      have z0 : expo L x = 0 := expo_zero fun f hf q => c (List.any_eq_true.mpr ⟨f, hf, by simp [q]⟩)
      rw [z0]
      show expo L y + ((if x = y then v else 0) + 0) = _
      split <;> omega
  rw [gen]
  split <;> omega
section
variable {X : Cx}
/-- y = {k: v for ..} on one row, y a local name, keys texts or numbers -/
theorem ps_setDc {i : Nat} {y : Str} {py : Pos} {kx vx tg iter : Expr} {ifs : List Expr} {scope : Scope} {own : List (Str × Nat)} {pos spos : Pos} {wi : TI} {g : TG} {tt : TT} {tk tv : TE} (hc : X.calm = true) (hN : X.N.Nodup)
    (hy : X.N[i]? = some y) (hyl : X.env.scope.names.lookup y = some .local) (hsw : swapsWith (.DictComp kx vx [⟨tg, iter, ifs, 0⟩] scope pos) (some (.Name y py)) spos.line X.env = pure true) (hi : PI X tg iter wi) (ok : BlkOk X.N X.env.scope scope own)
    (hg : ∀ (s : Shared) (H : Hp) (C : Addr) (cl : List (Str × Addr)) (fp : List Addr), PG (X.blk s H scope (compEnvC scope cl C X.env) fp) tg g) (ht : ∀ (s : Shared) (H : Hp) (C : Addr) (cl : List (Str × Addr)) (fp : List Addr), PTs (X.blk s H scope (compEnvC scope cl C X.env) fp) ifs tt)
    (hk : ∀ (s : Shared) (H : Hp) (C : Addr) (cl : List (Str × Addr)) (fp : List Addr), PE (X.blk s H scope (compEnvC scope cl C X.env) fp) kx tk) (he : ∀ (s : Shared) (H : Hp) (C : Addr) (cl : List (Str × Addr)) (fp : List Addr), PE (X.blk s H scope (compEnvC scope cl C X.env) fp) vx tv)
    (hs : ∀ x, foldedSetIterable iter X.env x = pure x := by intro _; rfl) : PS X (.Assign [.Name y py] (.DictComp kx vx [⟨tg, iter, ifs, 0⟩] scope pos) spos) (tAsg (tDc wi g tt tk tv (own.map (·.2))) (gName i)) := by
  refine ⟨fun pins s σ H D I h => ?_⟩
  rw [exec_Assign_Name_used _ _ _ _ hsw]
  refine wpAny_bind (wpAny_standAt (wpAny_bind ?_))
  show wpAny _ X.A (do let _ ← comprehension (.DictComp kx vx [⟨tg, iter, ifs, 0⟩] scope pos) scope X.env (firstIterPos [⟨tg, iter, ifs, 0⟩] pos) newDict false (eval iter X.env) (some (assign (.Name y py) X.env))) _ _ s
  have h' : tDc wi g tt tk tv (own.map (·.2)) σ H (fun x H1 => gName i x σ H1 D.nx) := h
  refine wpAny_bind (thn (dc_core (Qf := fun _ s' => SP X pins D .next s') hc hN I hi ok hg ht hk he hs h' fun L C s' m H' I' q hn ⟨f0, f1, f2, f3, f4, f5⟩ => ?_) fun _ s' hq => wpAny_pure (wpAny_pure hq))
  show wpAny _ _ (assign (.Name y py) X.env (.ref L)) _ _ _
  refine wpAny_assign_Name (store_ok2 (v := V.ref L) I' hN hy (.inl hyl) rfl (fun s2 I2 ⟨a, sb, ha⟩ => ⟨m, hn.sameBut sb ?_, fun h3 sb3 => ⟨_, H', I2.turned (t' := s2.toks) (fun b o hb e => (sb3.2 b hb).trans e) f0 f1 f3 f4 f5, q⟩⟩) (.inr hyl))
  rcases ha with z | z
  · rw [z]
    exact f1
  · exact fun e => f4 y a z e.symm
end
/-! ### the product of two products -/
theorem Paired.ixR {K : PySem.W.Frag} {H : Hp} {qs : List Addr} {m : Pr} (h : Paired (PairAt K H) qs m) {i : Nat} {x : V} (hx : (qs.map V.ref)[i]? = some x) : ∃ q e, x = .ref q ∧ m[i]? = some e ∧ PairAt K H q e := by
  rw [List.getElem?_map] at hx
  cases hq : qs[i]? with
  | none =>
    rw [hq] at hx
    cases hx
  | some q =>
    rw [hq] at hx
    obtain ⟨e, he, pe⟩ := paired_get h hq
    exact ⟨q, e, (Option.some.inj hx).symm, he, pe⟩
theorem take_putS {L : Pr} (hn : (L.map (·.1)).Nodup) {i : Nat} {e : Str × Int} (h : L[i]? = some e) : putS (L.take i) e.1 e.2 = L.take (i + 1) := by
  unfold putS
  rw [if_neg, List.take_add_one, h]
  · rfl
  · intro z
    obtain ⟨f, hf, ef⟩ := List.any_eq_true.mp z
    obtain ⟨j, hj⟩ := List.mem_iff_getElem?.mp hf
    rw [List.getElem?_take] at hj
    split at hj
    · rename_i lt
      have a : (L.map (·.1))[j]? = some e.1 := by rw [List.getElem?_map, hj]; simpa using ef
      have b : (L.map (·.1))[i]? = some e.1 := by rw [List.getElem?_map, h]; rfl
      have := nd_ix hn a b
      omega
    · cases hj
theorem expo_take {q : Pr} {i : Nat} {e : Str × Int} (h : q[i]? = some e) (x : Str) : expo (q.take (i + 1)) x = expo (q.take i) x + (if e.1 = x then e.2 else 0) := by
  rw [List.take_add_one, h, expo_append]
  show _ + ((if e.1 = x then e.2 else 0) + 0) = _
  omega
theorem dSI_len (L : Pr) : (dSI L).length = L.length := List.length_map ..
section
variable {P : Program} {w : World} {K : PySem.W.Frag} {mg : Str → Option Value} {base : Heap} {C : Addr}
theorem room1 {A : Around} {k : Nat} (hr : Room k A) : A.units + 1 < cLine := by
  have := hr.un
  omega
def spJoin (K : PySem.W.Frag) : Sp := fun vs H Q _ => ∃ (a b : Addr) (p q : Pr), vs = [.ref a, .ref b] ∧ ProdAt K H a p ∧ ProdAt K H b q ∧ Canon p ∧ Canon q ∧ p.length + q.length < 64 ∧ ∀ (r : Addr) (H' : Hp), ProdAt K H' r (joinP p q) → Same H H' → Q (.ref r) H'
theorem ok_joined {f : Addr} {fd : FuncData} (T : Txt K mg C) (F : DefAt K mg "_joined" "_joined" s_joined ["one", "other"] f fd) : FnOk P w K mg base CX0 1 f fd ["one", "other"] (spJoin K) := by
  refine F.F.ok sc_joined (fun vs H Q E h => ?_) (fun cdv A outer s H vs Q E hr h => ?_)
  · obtain ⟨a, b, p, q, rfl, _⟩ := h
    rfl
  · obtain ⟨a, b, p, q, rfl, ⟨ps, hp, pp⟩, ⟨qs, hq, pq⟩, cp, cq, hl, k⟩ := h
    refine ⟨_, (pss_cons (ps_setDc (i := 4) (own := [("name", 2), ("power", 3)]) (g := gTup K 2 (gCons (gName 2) (gCons (gName 3) gNil))) (tt := tYes) rfl sc_joined.nd rfl rfl (sw_trueD rfl rfl rfl (by decide +kernel)) (pi_tup (pv 0)) (blkOk_by (own := [("name", 2), ("power", 3)]) (N := ["one", "other", "name", "power", "powers"]) (sc := defScope s_joined) (by decide +kernel)) (fun _ _ _ _ _ => (pg_tup (by rfl) (pgs_cons (pg_name (i := 2) sc_joined.nd rfl (.inl rfl)) (pgs_cons (pg_name (i := 3) sc_joined.nd rfl (.inl rfl)) pgs_nil)))) (fun _ _ _ _ _ => pts_nil) (fun _ _ _ _ _ => (pv 2)) (fun _ _ _ _ _ => (pv 3)))
      (pss_cons (ps_for PassesOwn.never rfl (pi_tup (pv 1)) (pg_tup (by rfl) (pgs_cons (pg_name (i := 2) sc_joined.nd rfl (.inl rfl)) (pgs_cons (pg_name (i := 3) sc_joined.nd rfl (.inl rfl)) pgs_nil))) (pss_one (ps_dput (room1 hr) (pv 4) (pv 2) (pe_op op_add (pe_dget2 (room1 hr) (pv 4) (pv 2) pe_int ⟨rfl, rfl, rfl, rfl⟩) (pv 3)) rfl)))
      (pss_one (ps_ret (pe_tupleOf (by rfl) T.m_tuple (pe_callB (cr_sortedK rfl) (by rfl) T.m_sorted (by decide +kernel) (pa_cons (pe_bm0 PySem.F.plainAttrs_dict PySem.F.slot_dict_items PySem.F.type_dict_items mt_itemsK (pv 4)) pa_nil))))))), ?_⟩
    have lp : ps.length = p.length := Paired.length pp
    have lq : qs.length = q.length := Paired.length pq
    refine ⟨_, rfl, a, rfl, ⟨_, hp⟩, fun D nD => dc_tup (fun i H2 => H2 D = some (.dK (dSI (p.take i))) ∧ Same H H2) ⟨by rw [List.take_zero]; exact upd_same, same_upd nD⟩ (fun i H2 _ z => SqT.keeps hp (TupsStay.same z.2)) ?_ ?_⟩
    · rintro i x H2 hx ⟨e2, s2⟩
      obtain ⟨qa, e, rfl, he, hqa⟩ := Paired.ixR pp hx
      refine ⟨qa, _, rfl, SqT.keeps hqa (TupsStay.same s2), rfl, _, [.int e.2], rfl, _, [], rfl, rfl, rfl, ?_⟩
      unfold tYes
      simp only [↓reduceIte]
      refine ⟨_, rfl, _, rfl, dSI (p.take i), .inr e.1, rfl, e2, ?_, ?_⟩
      · rw [dSI_len, List.length_take, sizeLine_eq]
        omega
      · rw [dSI_put, take_putS cp.nodup he]
        refine ⟨upd_same, fun c u ec => ?_⟩
        rw [upd_ne (ne_of_none ec nD)]
        exact s2 _ _ ec
    · rintro H2 ⟨e2, s2⟩
      rw [List.length_map, lp, List.take_length] at e2
      refine ⟨_, rfl, b, rfl, ⟨_, SqT.keeps hq (TupsStay.same s2)⟩, for_tup (fun i σ H3 => ∃ (v2 v3 : Option V) (L : Pr), σ = [some (.ref a), some (.ref b), v2, v3, some (.ref D)] ∧ H3 D = some (.dK (dSI L)) ∧ (L.map (·.1)).Nodup ∧ L.length ≤ p.length + i ∧ (∀ x, expo L x = expo p x + expo (q.take i) x) ∧ (∀ e ∈ L, 1 ≤ e.2) ∧ Else D H2 H3)
        ⟨_, _, p, rfl, e2, cp.nodup, Nat.le_refl _, fun x => by rw [List.take_zero]; show _ = _ + (0 : Int); omega, cp.one, .refl _ _⟩ (fun i σ H3 _ ⟨_, _, _, _, _, _, _, _, _, z⟩ => SqT.keeps (SqT.keeps hq (TupsStay.same s2)) (z.tups e2 True.intro)) ?_ ?_⟩
      · rintro i x σ H3 hx ⟨v2, v3, L, rfl, e3, nL, lL, xL, oL, el⟩
        obtain ⟨qa, e, rfl, he, hqa⟩ := Paired.ixR pq hx
        have hi : i < q.length := (List.getElem?_eq_some_iff.mp he).1
        have mem : e ∈ q := List.mem_of_getElem? he
        refine ⟨qa, _, rfl, SqT.keeps (SqT.keeps hqa (TupsStay.same s2)) (el.tups e2 True.intro), rfl, _, [.int e.2], rfl, _, [], rfl, rfl, ?_⟩
        refine ⟨_, rfl, D, rfl, .inl ⟨_, .inl e3⟩, _, rfl, _, DGet.k (k := .inr e.1) e3, ?_⟩
        rw [valV_dSI nL]
        refine ⟨_, rfl, _, _, rfl, rfl, _, rfl, _, rfl, D, _, rfl, DPut.k (k := .inr e.1) e3 ?_, ?_⟩
        · rw [dSI_len, sizeLine_eq]
          omega
        · refine ⟨_, _, putS L e.1 (expo L e.1 + e.2), rfl, by rw [← dSI_put]; exact upd_same, putS_nodup _ _ nL, ?_, fun x => ?_, fun g hg => ?_, el.trans .upd⟩
          · have := putS_len L e.1 (expo L e.1 + e.2)
            omega
          · rw [expo_put nL, xL, expo_take he]
            omega
          · rcases putS_keys L e.1 _ g hg with z | z
            · rw [z]
              have a1 := expo_nonneg oL e.1
              have a2 := cq.one e mem
              show 1 ≤ expo L e.1 + e.2
              omega
            · exact oL g z
      · rintro σ H3 ⟨v2, v3, L, rfl, e3, nL, lL, xL, oL, el⟩
        rw [List.length_map, lq] at lL xL
        rw [List.take_length] at xL
        refine ⟨_, rfl, .inr (.inr (.inl ⟨rfl, .inl ⟨_, e3⟩⟩)), D, _, rfl, rfl, e3, fun vw nv => ?_⟩
        have s3 : Same H3 (upd H3 vw (DX.itemsO vw D)) := same_upd nv
        refine ⟨vw, D, L, rfl, upd_same, s3 _ _ e3, by omega, fun H4 l zs s4 pm up nl el4 tz => ?_⟩
        refine .inl ⟨l, _, rfl, SqL.of el4, fun r nr => ?_⟩
        have sr : Same H4 (upd H4 r (.tup (zs.map fun z => V.ref z.1))) := same_upd nr
        have can : Canon (zs.map (·.2)) := ⟨up, fun e he => oL e (pm.mem_iff.mp he)⟩
        have ej : joinP p q = zs.map (·.2) := canon_eq (cq.join cp.one) can fun x => by rw [expo_join, expo_perm pm, xL]
        refine k r _ ?_ ?_
        · rw [ej]
          refine ⟨zs.map (·.1), SqT.of (by rw [upd_same, List.map_map]; rfl), ?_⟩
          have gen : ∀ ys : List (Addr × Str × Int), (∀ z ∈ ys, z ∈ zs) → Paired (PairAt K (upd H4 r (.tup (zs.map fun z => V.ref z.1)))) (ys.map (·.1)) (ys.map (·.2)) := by
            intro ys
            induction ys with
            | nil => exact fun _ => .nil
            | cons y r' ih => exact fun h => .cons (SqT.of (sr _ _ (tz y (h y (by simp))))) (ih fun z hz => h z (by simp [hz]))
          exact gen zs fun z h => h
        · exact (((Else.fresh nD s2 el).trans s3).trans s4).trans sr
end
/-! ### one sum, as often as the other tells -/
def rowM (x : Pr × Rat) (N : Poly) : Poly := N.map fun y => (joinP x.1 y.1, x.2 * y.2)
def crossM (M N : Poly) : Poly := M.flatMap fun x => rowM x N
def mulM (M N : Poly) : Poly := sumM [] (crossM M N)
theorem crossM_take {M N : Poly} {i : Nat} {x : Pr × Rat} (h : M[i]? = some x) : crossM (M.take (i + 1)) N = crossM (M.take i) N ++ rowM x N := by
  unfold crossM
  rw [List.take_add_one, h, List.flatMap_append]
  simp
theorem crossM_pre (M N : Poly) (i : Nat) : crossM (M.take i) N <+: crossM M N := by
  refine ⟨crossM (M.drop i) N, ?_⟩
  unfold crossM
  rw [← List.flatMap_append, List.take_append_drop]
theorem rowM_at {x : Pr × Rat} {N : Poly} {j : Nat} {y : Pr × Rat} (h : N[j]? = some y) : (rowM x N)[j]? = some (joinP x.1 y.1, x.2 * y.2) := by
  unfold rowM
  rw [List.getElem?_map, h]
  rfl
theorem rowM_len (x : Pr × Rat) (N : Poly) : (rowM x N).length = N.length := List.length_map _
theorem crossM_len (M N : Poly) : (crossM M N).length = M.length * N.length := by
  unfold crossM
  induction M with
  | nil => simp
  | cons x r ih => rw [List.flatMap_cons, List.length_append, ih, rowM_len, List.length_cons, Nat.succ_mul, Nat.add_comm]
theorem szM_pre {D : Nat} {l L : Poly} (h : l <+: L) : szM D l ≤ szM D L ∧ l.length ≤ L.length := by
  obtain ⟨t, rfl⟩ := h
  rw [szM_append, List.length_append]
  omega
theorem crossM_parts {A : Pr → Prop} {M N : Poly} {D E : Nat} (hM : ∀ x ∈ M, A x.1 ∧ Whole D x.2) (hN : ∀ x ∈ N, A x.1 ∧ Whole E x.2) (hA : ∀ a b, A a → A b → A (joinP a b)) : ∀ x ∈ crossM M N, A x.1 ∧ Whole (D * E) x.2 := by
  intro z hz
  obtain ⟨x, hx, hz⟩ := List.mem_flatMap.mp hz
  obtain ⟨y, hy, e⟩ := List.mem_map.mp hz
  subst e
  exact ⟨hA _ _ (hM x hx).1 (hN y hy).1, ((hM x hx).2.mul (hN y hy).2).1⟩
theorem szM_cross {M N : Poly} {D E : Nat} (hM : ∀ x ∈ M, Whole D x.2) (hN : ∀ x ∈ N, Whole E x.2) : szM (D * E) (crossM M N) = szM D M * szM E N := by
  unfold crossM
  induction M with
  | nil => rw [szM_nil, Nat.zero_mul]; rfl
  | cons x r ih =>
    rw [List.flatMap_cons, szM_append, ih fun y hy => hM y (by simp [hy]), szM_cons, Nat.add_mul]
    have row : szM (D * E) (rowM x N) = mag D x.2 * szM E N := by
      unfold rowM
      have wx := hM x (by simp)
      clear ih hM
      induction N with
      | nil => rfl
      | cons y s ih2 =>
        rw [List.map_cons, szM_cons, szM_cons, ih2 fun z hz => hN z (by simp [hz]), Nat.mul_add]
        show mag (D * E) (x.2 * y.2) + _ = _
        rw [(wx.mul (hN y (by simp))).2]
    rw [row]
theorem lin_cross (f : Pr → Rat) (M N : Poly) : lin f (crossM M N) = lin (fun a => lin (fun b => f (joinP a b)) N) M := by
  unfold crossM
  induction M with
  | nil => rfl
  | cons x r ih =>
    rw [List.flatMap_cons, lin_append, ih, lin_cons]
    have row : lin f (rowM x N) = x.2 * lin (fun b => f (joinP x.1 b)) N := by
      unfold rowM
      clear ih
      induction N with
      | nil =>
        show (0 : Rat) = x.2 * 0
        grind
      | cons y s ih2 =>
        rw [List.map_cons, lin_cons, lin_cons, ih2]
        show x.2 * y.2 * f (joinP x.1 y.1) + _ = _
        grind
    rw [row]
theorem lin_mul (f : Pr → Rat) (M N : Poly) : lin f (mulM M N) = lin (fun a => lin (fun b => f (joinP a b)) N) M := by
  unfold mulM
  rw [lin_sumM f (M := []) (crossM M N) List.nodup_nil, lin_cross, lin_nil]
  grind
theorem Fit.mul {A : Pr → Prop} {n m D E S R : Nat} {M N : Poly} (hM : Fit A n D S M) (hN : Fit A m E R N) (hA : ∀ a b, A a → A b → A (joinP a b)) : Fit A (n * m) (D * E) (S * R) (mulM M N) := by
  have z := Fit.sum (crossM M N) (Fit.nil (A := A) (n := 0) (D := D * E) (S := 0)) (crossM_parts hM.parts hN.parts hA)
  rw [crossM_len, szM_cross hM.wh hN.wh] at z
  refine z.mono ?_ ?_
  · rw [Nat.zero_add]
    exact Nat.mul_le_mul hM.len hN.len
  · rw [Nat.zero_add]
    exact Nat.mul_le_mul hM.sz hN.sz
section
variable {P : Program} {w : World} {K : PySem.W.Frag} {mg : Str → Option Value} {base : Heap} {C : Addr}
def spTimed (K : PySem.W.Frag) (w : World) (C : Addr) : Sp := fun vs H Q _ => ∃ (p q : Addr) (M N : Poly) (A : Pr → Prop) (n m D E S R : Nat), vs = [.ref p, .ref q] ∧ SumAt K w C H p M ∧ SumAt K w C H q N ∧ Fit A n D S M ∧ Fit A m E R N ∧ 0 < D ∧ 0 < E ∧ D * E < big ∧ S < big ∧ R < big ∧ S * R < big ∧ n * m < sizeLine ∧
  (∀ a b, A a → A b → A (joinP a b)) ∧ (∀ a, A a → Canon a ∧ a.length < 32) ∧ ∀ x H', SumAt K w C H' x (mulM M N) → Same H H' → H x = none → Q (.ref x) H'
theorem ok_timed {f : Addr} {fd : FuncData} (T : Txt K mg C) (F : DefAt K mg "timed" "timed" s_timed ["one", "other"] f fd) : FnOk P w K mg base CX0 4 f fd ["one", "other"] (spTimed K w C) := by
  obtain ⟨f1, fd1, D_put_to⟩ := T.d_put_to
  have G_put_to : FnOk P w K mg base CX0 3 f1 fd1 ["shares", "key", "part"] (spPut K w) := ok_put_to T D_put_to
  obtain ⟨f3, fd3, D_times⟩ := T.d_times
  have G_times : FnOk P w K mg base CX0 2 f3 fd3 ["one", "other"] (spRat K (· * ·)) := ok_times T D_times
  obtain ⟨f4, fd4, D_joined⟩ := T.d_joined
  have G_joined : FnOk P w K mg base CX0 1 f4 fd4 ["one", "other"] (spJoin K) := ok_joined T D_joined
  obtain ⟨f2, fd2, M_Sum, FI, b_Sum_init⟩ := T.mk_Sum
  have G_Sum_init : FnOk P w K mg base CX0 1 f2 fd2 ["self", "parts"] (spInit K w C) := ok_Sum_init T FI
  refine F.F.ok sc_timed (fun vs H Q E h => ?_) (fun cdv A outer s H vs Q E hr h => ?_)
  · obtain ⟨p, q, M, N, A, n, m, D, E, S, R, rfl, _⟩ := h
    rfl
  · obtain ⟨p, q, M, N, B, n, m, D, E', S, R, rfl, ap, aq, fM, fN, hD, hE, hDE, hS, hR, hSR, hn, hB, hC, k⟩ := h
    obtain ⟨dx, d1, o1, L1, e1, n1, r1⟩ := id ap
    obtain ⟨dy, d2, o2, L2, e2, n2, r2⟩ := id aq
    have l1 : L1.length = M.length := Paired.length r1
    have l2 : L2.length = N.length := Paired.length r2
    have hD0 : D < big := Nat.lt_of_le_of_lt (Nat.le_mul_of_pos_right D hE) hDE
    have hE0 : E' < big := Nat.lt_of_le_of_lt (Nat.le_mul_of_pos_left E' hD) hDE
    have cp := crossM_parts fM.parts fN.parts hB
    have csz : szM (D * E') (crossM M N) ≤ S * R := by rw [szM_cross fM.wh fN.wh]; exact Nat.mul_le_mul fM.sz fN.sz
    have cln : (crossM M N).length ≤ n * m := by rw [crossM_len]; exact Nat.mul_le_mul fM.len fN.len
    refine ⟨_, (pss_cons (ps_set (i := 2) sc_timed.nd rfl (.inl rfl) pe_newN)
      (pss_cons (ps_for PassesOwn.never rfl (pi_itemsN (pe_fld (pv 0) rfl)) (pg_tup (by rfl) (pgs_cons (pg_name (i := 3) sc_timed.nd rfl (.inl rfl)) (pgs_cons (pg_name (i := 4) sc_timed.nd rfl (.inl rfl)) pgs_nil))) (pss_one (ps_for PassesOwn.never rfl (pi_itemsN (pe_fld (pv 1) rfl)) (pg_tup (by rfl) (pgs_cons (pg_name (i := 5) sc_timed.nd rfl (.inl rfl)) (pgs_cons (pg_name (i := 6) sc_timed.nd rfl (.inl rfl)) pgs_nil))) (pss_one (ps_expr (pe_call G_put_to (hr.mono (by decide)) (by rfl) D_put_to.g D_put_to.F.kp D_put_to.b .nil pass0 (pa_cons (pv 2) (pa_cons (pe_call G_joined (hr.mono (by decide)) (by rfl) D_joined.g D_joined.F.kp D_joined.b .nil pass0 (pa_cons (pv 3) (pa_cons (pv 5) pa_nil))) (pa_cons (pe_call G_times (hr.mono (by decide)) (by rfl) D_times.g D_times.F.kp D_times.b .nil pass0 (pa_cons (pv 4) (pa_cons (pv 6) pa_nil))) pa_nil)))))))))
      (pss_one (ps_ret (pe_make M_Sum G_Sum_init (hr.mono (by decide)) (by rfl) T.g_Sum b_Sum_init .nil pass0 (pa_cons (pv 2) pa_nil)))))), ?_⟩
    intro D' nD sD
    have s0 : Same H (upd H D' (ndO w D' [])) := same_upd nD
    have e0 : (upd H D' (ndO w D' [])) D' = some (ndO w D' []) := upd_same
    have nd0 : ND K w (upd H D' (ndO w D' [])) D' [] := .new sD
    have n1' := n1.stay (.same s0) fun o e => s0 _ _ e
    have n2' := n2.stay (.same s0) fun o e => s0 _ _ e
    have r1' := r1.stay (.same s0)
    have r2' := r2.stay (.same s0)
    have e1' := s0 _ _ e1
    have e2' := s0 _ _ e2
    refine ⟨_, rfl, p, C, dx, _, _, rfl, e1', T.cl_Sum, T.n_Sum_parts, sumF_parts _, d1, o1, L1, rfl, n1', for_itemsN (fun i σ H3 => ∃ v3 v4 v5 v6 : Option V, σ = [some (.ref p), some (.ref q), some (.ref D'), v3, v4, v5, v6] ∧ PartsAt K w H3 D' (sumM [] (crossM (M.take i) N)) ∧ Else D' (upd H D' (ndO w D' [])) H3)
      ⟨none, none, none, none, rfl, ⟨[], nd0, .nil⟩, .refl _ _⟩ (fun i σ H3 _ ⟨_, _, _, _, _, _, z⟩ => PartsAt.elseNF n1' nd0 z) ?_ ?_⟩
    · rintro i kk v σ H3 Tt b hL ⟨v3, v4, v5, v6, rfl, pM, el⟩ nT hb
      obtain ⟨x, r, hMi, rfl, hq⟩ := r1'.at_ hL
      have memM : (kk, r) ∈ M := List.mem_of_getElem? hMi
      have sT : Same H3 (upd H3 Tt (.tup [.ref b, .ref x])) := same_upd nT
      refine ⟨Tt, [.ref b, .ref x], rfl, SqT.of upd_same, rfl, _, [.ref x], rfl, _, [], rfl, rfl, ?_⟩
      have el3 : Else D' (upd H D' (ndO w D' [])) (upd H3 Tt (.tup [.ref b, .ref x])) := el.same sT
      have hb3 : ProdAt K (upd H3 Tt (.tup [.ref b, .ref x])) b kk := hb.stay (.same sT)
      have hq3 : SqT K (upd H3 Tt (.tup [.ref b, .ref x])) x (ratV r) := SqT.keeps hq (el3.tups e0 True.intro)
      have p3 := pM.stay (.same sT) fun u e => sT _ _ e
      generalize (upd H3 Tt (.tup [.ref b, .ref x])) = H4 at el3 hb3 hq3 p3
      obtain ⟨L3, nd3, r3⟩ := id p3
      obtain ⟨xs3, ed3, na3⟩ := id nd3
      have n24 := PartsAt.elseNF n2' nd0 el3
      have pq2 : q ≠ D' := ne_of e2' e0 (by intro z; cases z)
      refine ⟨_, rfl, q, C, dy, _, _, rfl, el3 _ _ e2' pq2, T.cl_Sum, T.n_Sum_parts, sumF_parts _, d2, o2, L2, rfl, n24, for_itemsN (fun j σ H5 => ∃ v5 v6 : Option V, σ = [some (.ref p), some (.ref q), some (.ref D'), some (.ref b), some (.ref x), v5, v6] ∧ PartsAt K w H5 D' (sumM [] (crossM (M.take i) N ++ (rowM (kk, r) N).take j)) ∧ Else D' H4 H5)
        ⟨v5, v6, rfl, by rw [List.take_zero, List.append_nil]; exact p3, .refl _ _⟩ (fun j σ H5 _ ⟨_, _, _, _, z⟩ => PartsAt.elseNF n24 nd3 z) ?_ ?_⟩
      · rintro j k2 v2 σ H5 Tu b2 hL2 ⟨v5, v6, rfl, pM2, el5⟩ nU hb2
        obtain ⟨x2, r2r, hNj, rfl, hq2⟩ := r2'.at_ hL2
        have memN : (k2, r2r) ∈ N := List.mem_of_getElem? hNj
        have sU : Same H5 (upd H5 Tu (.tup [.ref b2, .ref x2])) := same_upd nU
        refine ⟨Tu, [.ref b2, .ref x2], rfl, SqT.of upd_same, rfl, _, [.ref x2], rfl, _, [], rfl, rfl, ?_⟩
        have el6 : Else D' H4 (upd H5 Tu (.tup [.ref b2, .ref x2])) := el5.same sU
        have t46 : TupsStay H4 (upd H5 Tu (.tup [.ref b2, .ref x2])) := el6.tups ed3 True.intro
        have t26 : TupsStay (upd H D' (ndO w D' [])) (upd H5 Tu (.tup [.ref b2, .ref x2])) := (el3.trans el6).tups e0 True.intro
        have hb6 : ProdAt K (upd H5 Tu (.tup [.ref b2, .ref x2])) b kk := hb3.stay t46
        have hq6 : SqT K (upd H5 Tu (.tup [.ref b2, .ref x2])) x (ratV r) := SqT.keeps hq3 t46
        have hb26 : ProdAt K (upd H5 Tu (.tup [.ref b2, .ref x2])) b2 k2 := hb2.stay (.same sU)
        have hq26 : SqT K (upd H5 Tu (.tup [.ref b2, .ref x2])) x2 (ratV r2r) := SqT.keeps hq2 t26
        have p6 := pM2.stay (.same sU) fun u e => sU _ _ e
        generalize (upd H5 Tu (.tup [.ref b2, .ref x2])) = H6 at el6 hb6 hq6 hb26 hq26 p6
        have a1 := hC _ (fM.parts _ memM).1
        have a2 := hC _ (fN.parts _ memN).1
        refine ⟨_, rfl, _, rfl, _, rfl, b, b2, kk, k2, rfl, hb6, hb26, a1.1, a2.1, Nat.lt_of_lt_of_le (Nat.add_lt_add a1.2 a2.2) (by decide), fun jr H7 pj s67 => ?_⟩
        have wr := fM.one (x := (kk, r)) memM
        have wr2 := fN.one (x := (k2, r2r)) memN
        refine ⟨_, rfl, _, rfl, x, x2, r, r2r, 4000, 4000, rfl, SqT.keeps hq6 (TupsStay.same s67), SqT.keeps hq26 (TupsStay.same s67), .small hD hD0 wr.1 (Nat.lt_of_le_of_lt wr.2 hS), .small hE hE0 wr2.1 (Nat.lt_of_le_of_lt wr2.2 hR), by decide, by decide, by decide, fun t H8 s78 nt et => ?_⟩
        have s68 := s67.trans s78
        have at3 : (rowM (kk, r) N)[j]? = some (joinP kk k2, r * r2r) := rowM_at hNj
        have pre1 : crossM (M.take i) N ++ (rowM (kk, r) N).take (j + 1) <+: crossM M N := by
          refine List.IsPrefix.trans ?_ (crossM_pre M N (i + 1))
          rw [crossM_take hMi]
          exact (List.prefix_append_right_inj _).mpr (List.take_prefix _ _)
        have mem3 : (joinP kk k2, r * r2r) ∈ crossM M N := pre1.subset (List.mem_append_right _ (by rw [List.take_add_one, at3]; simp))
        have pre0 : crossM (M.take i) N ++ (rowM (kk, r) N).take j <+: crossM M N := by
          refine List.IsPrefix.trans ?_ (crossM_pre M N (i + 1))
          rw [crossM_take hMi]
          exact (List.prefix_append_right_inj _).mpr (List.take_prefix _ _)
        have fi := Fit.sum (crossM (M.take i) N ++ (rowM (kk, r) N).take j) (Fit.nil (A := B) (n := 0) (D := D * E') (S := 0)) fun y hy => cp y (pre0.subset hy)
        have sp := szM_pre (D := D * E') pre0
        have mg3 : mag (D * E') (r * r2r) ≤ szM (D * E') (crossM M N) := mag_le_szM (x := (joinP kk k2, r * r2r)) mem3
        refine ⟨D', jr, t, joinP kk k2, r * r2r, _, B, _, D * E', _, rfl, p6.stay (.same s68) fun u e => s68 _ _ e, fi, pj.stay (.same s78), SqT.of et, (cp _ mem3).2, Nat.mul_pos hD hE, hDE, by omega, by omega, by omega, fun H' pM' el' => ?_⟩
        refine ⟨_, _, rfl, ?_, (el6.same s68).trans el'⟩
        rw [List.take_add_one, at3, ← List.append_assoc, sumM_append]
        exact pM'
      · rintro σ H5 ⟨v5, v6, rfl, pM2, el5⟩
        rw [l2, ← rowM_len (kk, r) N, List.take_length, ← crossM_take hMi] at pM2
        exact ⟨_, _, _, _, rfl, pM2, el3.trans el5⟩
    · rintro σ H3 ⟨v3, v4, v5, v6, rfl, pM, el⟩
      rw [l1, List.take_length] at pM
      have s3 : Same H H3 := Else.fresh nD s0 el
      refine ⟨_, rfl, fun x dx nx ndx nex => ⟨x, dx, D', _, rfl, upd_same, pM.made nx ndx, fun H4 sA kp => ⟨rfl, ?_⟩⟩⟩
      exact k x H4 sA (s3.trans (Same.made nx ndx kp)) (s3.free nx)
end
/-! ### the draws -/
/-- the three cells of the drawing: a seed, the list of what is left of the script, a place -/
structure HAt (H : Hp) (h c : Addr) (s k : Int) (cs : List Int) : Prop where
  h : H h = some (.lst [.int s, .ref c, .int k])
  c : H c = some (.lst (cs.map V.int))
  n : cs.length ≤ 63
theorem HAt.ne {H : Hp} {h c : Addr} {s k : Int} {cs : List Int} (D : HAt H h c s k cs) : h ≠ c := by
  refine ne_of D.h D.c (fun e => ?_)
  cases cs with
  | nil => cases e
  | cons x r =>
    cases r with
    | nil => cases e
    | cons y r => cases e
/-- all that was tracked is as it was, but for the drawing's two lists -/
def But (h c : Addr) (H H' : Hp) : Prop := ∀ b o, H b = some o → b ≠ h → b ≠ c → H' b = some o
theorem But.refl (h c : Addr) (H : Hp) : But h c H H := fun _ _ e _ _ => e
theorem But.trans {h c : Addr} {H H1 H2 : Hp} (a : But h c H H1) (b : But h c H1 H2) : But h c H H2 := fun x o e n1 n2 => b x o (a x o e n1 n2) n1 n2
theorem But.same {h c : Addr} {H H1 H2 : Hp} (a : But h c H H1) (b : Same H1 H2) : But h c H H2 := fun x o e n1 n2 => b x o (a x o e n1 n2)
theorem Same.but {h c : Addr} {H H1 : Hp} (a : Same H H1) : But h c H H1 := fun x o e _ _ => a x o e
theorem HAt.same {H H' : Hp} {h c : Addr} {s k : Int} {cs : List Int} (D : HAt H h c s k cs) (e : Same H H') : HAt H' h c s k cs := ⟨e _ _ D.h, e _ _ D.c, D.n⟩
def spNext : Sp := fun vs H Q _ => ∃ (h c : Addr) (s k m : Int) (cs : List Int), vs = [.ref h, .int m] ∧ 0 < m ∧ m < 1073741824 ∧ HAt H h c s k cs ∧
  ∀ (s' k' : Int) (cs' : List Int) (r : Int) (H' : Hp), 0 ≤ r → r < m → HAt H' h c s' k' cs' → But h c H H' → Q (.int r) H'
theorem fmod_lo {x m : Int} (h : 0 < m) : 0 ≤ x.fmod m := by
  rw [Int.fmod_eq_emod_of_nonneg _ (by omega)]
  exact Int.emod_nonneg _ (by omega)
theorem fmod_hi {x m : Int} (h : 0 < m) : x.fmod m < m := by
  rw [Int.fmod_eq_emod_of_nonneg _ (by omega)]
  exact Int.emod_lt_of_pos _ h
theorem max1 (n : Nat) : (if (n : Int) > 1 then (n : Int) else 1) = ((if n > 1 then n else 1 : Nat) : Int) := by
  split <;> split <;> omega
section
variable {P : Program} {w : World} {K : PySem.W.Frag} {mg : Str → Option Value} {base : Heap} {C : Addr}
theorem ok_law_next {f : Addr} {fd : FuncData} (T : Txt K mg C) (D : DefAt K mg "_law_next" "_law_next" s_law_next ["_law_h", "_law_many"] f fd) : FnOk P w K mg base CX0 1 f fd ["_law_h", "_law_many"] spNext := by
  refine D.F.ok sc_law_next (fun vs H Q E h => ?_) (fun cdv A outer s H vs Q E hr h => ?_)
  · obtain ⟨h, c, s, k, m, cs, rfl, _⟩ := h
    rfl
  · obtain ⟨h, c, z, k, m, cs, rfl, m0, m1, A1, q⟩ := h
    refine ⟨_, (pss_cons (ps_set (i := 2) sc_law_next.nd rfl (.inl rfl) (pe_op op_modN (pe_ix ix_list (pv 0) pe_int (fun _ _ => rfl)) (pe_callB (call_max2 rfl) (by rfl) T.m_max (by decide +kernel) (pa_cons pe_int (pa_cons (pe_callB call_len_seq (by rfl) T.m_len (by decide +kernel) (pa_cons (pe_ix ix_list (pv 0) pe_int (fun _ _ => rfl)) pa_nil)) pa_nil)))))
      (pss_cons (ps_set (i := 3) sc_law_next.nd rfl (.inl rfl) (pe_ifExp (pt_cmpR (op_neD hr.units) (pe_ix ix_list (pv 0) pe_int (fun _ _ => rfl)) (pe_lst pa_nil) (nomark _)) (pe_ix ix_list (pe_ix ix_list (pv 0) pe_int (fun _ _ => rfl)) (pv 2) (fun _ _ => rfl)) pe_int))
      (pss_cons (ps_if (pt_cmpR op_ge (pv 3) (pe_op op_pow pe_int pe_int) (nomark _)) (pss_cons (ps_asg (pe_op op_fdivN (pv 3) (pv 1)) (pg_sub (pe_ix ix_list (pv 0) pe_int (fun _ _ => rfl)) (pv 2) set_list)) (pss_one (ps_ret (pe_op op_modN (pv 3) (pv 1))))) pss_nil)
      (pss_cons (ps_asg (pe_op op_mod (pe_op op_add (pe_op op_add (pe_op op_mul (pe_ix ix_list (pv 0) pe_int (fun _ _ => rfl)) pe_int) (pe_op op_mul (pv 3) pe_int)) pe_int) pe_int) (pg_sub (pv 0) pe_int set_list))
      (pss_cons (ps_asg (pe_op op_add (pe_ix ix_list (pv 0) pe_int (fun _ _ => rfl)) pe_int) (pg_sub (pv 0) pe_int set_list))
      (pss_one (ps_ret (pe_op op_modN (pe_op op_fdiv (pe_ix ix_list (pv 0) pe_int (fun _ _ => rfl)) pe_int) (pv 1))))))))), ?_⟩
    have hne := A1.ne
    have lc : (cs.map V.int).length = cs.length := List.length_map _
    -- the place: h[2] % max(1, len(h[1]))
    refine ⟨_, rfl, h, _, _, _, rfl, rfl, SqL.of A1.h, atI_nat (j := 2) rfl, _, rfl, h, _, _, _, rfl, rfl, SqL.of A1.h, atI_nat (j := 1) rfl, c, _, rfl, .inl (SqL.of A1.c), _, _, rfl, _, _, rfl, rfl, ?_, ?_⟩
    · rw [lc, max1]
      split <;> omega
    rw [lc, max1]
    have hat : ∀ x : Int, cs ≠ [] → ∃ j : Nat, x.fmod ((if cs.length > 1 then cs.length else 1 : Nat) : Int) = (j : Int) ∧ j < cs.length := fun x e => by
      have l0 : 0 < cs.length := List.length_pos_iff.mpr e
      have e1 : (if cs.length > 1 then cs.length else 1) = cs.length := by split <;> omega
      rw [e1]
      have a := fmod_lo (x := x) (m := (cs.length : Int)) (by omega)
      have b := fmod_hi (x := x) (m := (cs.length : Int)) (by omega)
      exact ⟨(x.fmod cs.length).toNat, by omega, by omega⟩
    -- the cell
    refine ⟨_, rfl, h, _, _, _, rfl, rfl, SqL.of A1.h, atI_nat (j := 1) rfl, (by show 0 ≤ sizeLine; decide), fun l hl => ?_⟩
    have sl : Same H (upd H l (.lst [])) := same_upd hl
    have A2 := A1.same sl
    have fin : ∀ (s' k' : Int) (cs' : List Int) (r : Int) (H' : Hp), 0 ≤ r → r < m → HAt H' h c s' k' cs' → But h c (upd H l (.lst [])) H' → Q (.int r) H' := fun s' k' cs' r H' r0 r1 A' B' => q s' k' cs' r H' r0 r1 A' ((Same.but sl).trans B')
    refine ⟨_, _, Dp.lst (SqL.of A2.c) (dpInts cs), Dp.lst (SqL.of upd_same) DpAll.nil, shapedInts cs, by decide, _, rfl, ite2 (fun e => ?_) (fun e => ?_)⟩
    rotate_left
    · refine ⟨_, rfl, _, _, rfl, rfl, ⟨by decide, by decide, by decide⟩, _, _, rfl, rfl, _, rfl, ite2 (fun e => absurd (of_decide_eq_true e) (by decide +kernel)) (fun e => ?_)⟩
      refine ⟨_, rfl, h, _, _, _, rfl, rfl, SqL.of A2.h, atI_nat (j := 0) rfl, _, _, rfl, rfl, .inr ⟨by decide, by decide⟩, _, rfl, _, _, rfl, rfl, .inr ⟨by decide, by decide⟩, _, _, rfl, rfl, _, _, rfl, rfl, _, _, rfl, rfl, (by show (0 : Int) < 2147483647; decide), _, rfl, h, _, _, 0, rfl, rfl, A2.h, rfl,
        _, rfl, h, _, _, _, rfl, rfl, SqL.of upd_same, atI_nat (j := 2) rfl, _, _, rfl, rfl, _, rfl, h, _, _, 2, rfl, rfl, upd_same, rfl,
        _, rfl, h, _, _, _, rfl, rfl, SqL.of upd_same, atI_nat (j := 0) rfl, _, _, rfl, rfl, ⟨by decide, by decide⟩, _, rfl, _, _, rfl, rfl, by omega, ?_⟩
      exact fin _ _ cs _ _ (fmod_lo m0) (fmod_hi m0) ⟨upd_same, by rw [upd_ne hne.symm, upd_ne hne.symm]; exact A2.c, A1.n⟩ fun b o e nb nc => by rw [upd_ne nb, upd_ne nb]; exact e
    · have e0 : cs ≠ [] := fun z => by
        subst z
        simp [PyData.eqv, PyData.eqvAll] at e
      obtain ⟨j, ej, hj⟩ := hat k e0
      have gj : (cs.map V.int)[j]? = some (.int cs[j]) := by
        rw [List.getElem?_map, List.getElem?_eq_getElem hj]
        rfl
      refine ⟨_, rfl, h, _, _, _, rfl, rfl, SqL.of A2.h, atI_nat (j := 1) rfl, _, rfl, c, _, _, _, rfl, rfl, SqL.of A2.c, at_of ej gj, _, rfl, _, _, rfl, rfl, ⟨by decide, by decide, by decide⟩, _, _, rfl, rfl, _, rfl, ite2 (fun e => ?_) (fun e => ?_)⟩
      · -- h[1][at] = cell // many; return cell % many
        refine ⟨_, rfl, _, rfl, _, _, rfl, rfl, ⟨by omega, by omega⟩, _, rfl, h, _, _, _, rfl, rfl, SqL.of A2.h, atI_nat (j := 1) rfl, _, rfl, c, _, _, j, rfl, rfl, A2.c, by rw [ej]; exact ixNat (by rw [lc]; exact hj), _, rfl, _, rfl, _, _, rfl, rfl, by omega, ?_⟩
        exact fin z k (cs.set j (cs[j].fdiv m)) _ _ (fmod_lo m0) (fmod_hi m0) ⟨by rw [upd_ne hne]; exact A2.h, by rw [upd_same, List.map_set], by rw [List.length_set]; exact A1.n⟩ fun b o e nb nc => by rw [upd_ne nc]; exact e
      · refine ⟨_, rfl, h, _, _, _, rfl, rfl, SqL.of A2.h, atI_nat (j := 0) rfl, _, _, rfl, rfl, .inr ⟨by decide, by decide⟩, _, rfl, _, _, rfl, rfl, .inr ⟨by decide, by decide⟩, _, _, rfl, rfl, _, _, rfl, rfl, _, _, rfl, rfl, (by show (0 : Int) < 2147483647; decide), _, rfl, h, _, _, 0, rfl, rfl, A2.h, rfl,
          _, rfl, h, _, _, _, rfl, rfl, SqL.of upd_same, atI_nat (j := 2) rfl, _, _, rfl, rfl, _, rfl, h, _, _, 2, rfl, rfl, upd_same, rfl,
          _, rfl, h, _, _, _, rfl, rfl, SqL.of upd_same, atI_nat (j := 0) rfl, _, _, rfl, rfl, ⟨by decide, by decide⟩, _, rfl, _, _, rfl, rfl, by omega, ?_⟩
        exact fin _ _ cs _ _ (fmod_lo m0) (fmod_hi m0) ⟨upd_same, by rw [upd_ne hne.symm, upd_ne hne.symm]; exact A2.c, A1.n⟩ fun b o e nb nc => by rw [upd_ne nb, upd_ne nb]; exact e
end
theorem HAt.set {H : Hp} {h c l : Addr} {s k : Int} {cs : List Int} {o : HO} (D : HAt H h c s k cs) (nh : l ≠ h) (nc : l ≠ c) : HAt (upd H l o) h c s k cs := ⟨by rw [upd_ne nh.symm]; exact D.h, by rw [upd_ne nc.symm]; exact D.c, D.n⟩
/-! ### the names that are drawn -/
def SN (l : List Nat) : Str := ⟨l.toArray⟩
theorem SN_inj {a b : List Nat} (h : SN a = SN b) : a = b := by
  unfold SN at h
  injection h with h
  injection h
theorem SN_list (z : Str) : SN z.cps.toList = z := rfl
theorem SN_cps (l : List Nat) : (SN l).cps.toList = l := rfl
theorem SN_len (l : List Nat) : (SN l).length = l.length := by
  simp [SN, Str.length]
theorem SN_app (a b : List Nat) : SN a ++ SN b = SN (a ++ b) := by
  show (⟨a.toArray ++ b.toArray⟩ : Str) = _
  unfold SN
  simp
def abc : List Nat := ("abcdefghijklmnopqrstuvwxyz" : Str).cps.toList
theorem abc_at : ∀ j, j < 26 → abc[j]? = some (97 + j) := by decide +kernel
theorem abc_atI {i : Int} (h0 : 0 ≤ i) (h1 : i < 26) : atI abc i = some (97 + i.toNat) := by
  have e : i = ((i.toNat : Nat) : Int) := by omega
  have a := atI_nat (xs := abc) (j := i.toNat) (abc_at i.toNat (by omega))
  rw [← e] at a
  exact a
def letterC (c : Nat) : Prop := 97 ≤ c ∧ c < 123
theorem join_ones : ∀ cs : List Nat, Str.join (SN []) (cs.map fun c => SN [c]) = SN cs
  | [] => rfl
  | [c] => rfl
  | c :: d :: r => by
    show SN [c] ++ SN [] ++ Str.join (SN []) ((d :: r).map fun c => SN [c]) = _
    rw [join_ones (d :: r), SN_app, SN_app]
    rfl
theorem cutS_take (wd : List Nat) (e : Nat) : cutS (SN wd) none (some (e : Int)) = SN (wd.take e) := by
  unfold cutS
  have h0 : HT.sIx (SN wd).length 0 none = 0 := rfl
  have h1 : HT.sIx (SN wd).length (SN wd).length (some (e : Int)) = min e wd.length := by
    rw [SN_len]
    show (if (e : Int) < 0 then ((e : Int) + (wd.length : Int)).toNat else min (e : Int).toNat wd.length) = _
    rw [if_neg (by omega), Int.toNat_natCast]
  rw [h0, h1, SN_cps, List.drop_zero, Nat.sub_zero]
  show SN _ = SN _
  congr 1
  rw [List.take_eq_take_iff]
  omega
/-- the k-th letter of a turn -/
def lett (t k : Nat) : Nat := 97 + (t + 11 * k) % 26
theorem lett_ok (t k : Nat) : letterC (lett t k) := by
  unfold letterC lett
  omega
theorem lett_inj {t k l : Nat} (hk : k < 7) (hl : l < 7) (h : lett t k = lett t l) : k = l := by
  unfold lett at h
  omega
/-- what names are like -/
structure NamesOk (ns : List Str) : Prop where
  len : ns.length = 7
  nd : ns.Nodup
  ok : ∀ n ∈ ns, 1 ≤ n.length ∧ n.length ≤ 8 ∧ ∀ c ∈ n.cps.toList, letterC c
theorem names_of_fn {f : Nat → List Nat} (inj : ∀ k l, k < 7 → l < 7 → f k = f l → k = l) (ok : ∀ k, k < 7 → 1 ≤ (f k).length ∧ (f k).length ≤ 8 ∧ ∀ c ∈ f k, letterC c) : NamesOk ((List.range 7).map fun k => SN (f k)) where
  len := by simp
  nd := by
    rw [List.nodup_iff_pairwise_ne, List.pairwise_map]
    refine List.Pairwise.imp_of_mem (fun {a b} ha hb h e => h (inj a b (List.mem_range.mp ha) (List.mem_range.mp hb) (SN_inj e))) (List.nodup_iff_pairwise_ne.mp List.nodup_range)
  ok := by
    intro n hn
    obtain ⟨k, hk, e⟩ := List.mem_map.mp hn
    subst e
    rw [SN_len, SN_cps]
    exact ok k (List.mem_range.mp hk)
theorem names_front {t : Nat} {wd : List Nat} {es : Nat → Nat} (hw : wd.length ≤ 7) (hl : ∀ c ∈ wd, letterC c) : NamesOk ((List.range 7).map fun k => SN (lett t k :: wd.take (es k))) := by
  refine names_of_fn (fun k l hk hl' e => ?_) fun k hk => ⟨by simp, ?_, fun c hc => ?_⟩
  · injection e with e1 _
    exact lett_inj hk hl' e1
  · rw [List.length_cons, List.length_take]
    omega
  · rcases List.mem_cons.mp hc with z | z
    · rw [z]
      exact lett_ok t k
    · exact hl c (List.mem_of_mem_take z)
theorem names_back {t : Nat} {wd : List Nat} {es : Nat → Nat} (hw : wd.length ≤ 7) (hl : ∀ c ∈ wd, letterC c) : NamesOk ((List.range 7).map fun k => SN (wd.take (es k) ++ [lett t k])) := by
  refine names_of_fn (fun k l hk hl' e => ?_) fun k hk => ⟨by simp, ?_, fun c hc => ?_⟩
  · have a := congrArg List.getLast? e
    rw [List.getLast?_concat, List.getLast?_concat] at a
    exact lett_inj hk hl' (Option.some.inj a)
  · rw [List.length_append, List.length_take, List.length_singleton]
    omega
  · rcases List.mem_append.mp hc with z | z
    · exact hl c (List.mem_of_mem_take z)
    · rw [show c = lett t k by simpa using z]
      exact lett_ok t k
section
variable {P : Program} {w : World} {K : PySem.W.Frag} {mg : Str → Option Value} {base : Heap} {C : Addr}
theorem ix_listK {X : Cx} {K : PySem.W.Frag} (e : X.K = K) : IxR X (rIxL K) := by
  subst e
  exact ix_list
theorem But.upd {H H1 : Hp} {h c D : Addr} {o : HO} (B : But h c H H1) (nD : H D = none) : But h c H (upd H1 D o) := fun b u e n1 n2 => by
  rw [upd_ne (ne_of_none e nD)]
  exact B b u e n1 n2
def spNames (K : PySem.W.Frag) : Sp := fun vs H Q _ => ∃ (h c : Addr) (s k : Int) (cs : List Int), vs = [.ref h] ∧ HAt H h c s k cs ∧
  ∀ (s' k' : Int) (cs' : List Int) (ns : List Str) (l : Addr) (H' : Hp), NamesOk ns → HAt H' h c s' k' cs' → But h c H H' → H l = none → l ≠ h → l ≠ c → H' l = some (.lst (ns.map V.str)) → Q (.ref l) H'
theorem range_succ_map {α : Type} (f : Nat → α) (i : Nat) : (List.range (i + 1)).map f = (List.range i).map f ++ [f i] := by
  rw [List.range_succ, List.map_append]
  rfl
theorem ok_law_names {f : Addr} {fd : FuncData} (T : Txt K mg C) (F : DefAt K mg "_law_names" "_law_names" s_law_names ["_law_h"] f fd) : FnOk P w K mg base CX0 2 f fd ["_law_h"] (spNames K) := by
  obtain ⟨f1, fd1, D_law_next⟩ := T.d_law_next
  have G_law_next : FnOk P w K mg base CX0 1 f1 fd1 ["_law_h", "_law_many"] spNext := ok_law_next T D_law_next
  refine F.F.ok sc_law_names (fun vs H Q E h => ?_) (fun cdv A outer s H vs Q E hr h => ?_)
  · obtain ⟨h, c, s, k, cs, rfl, _⟩ := h
    rfl
  · obtain ⟨h, c, z, k, cs, rfl, A1, q⟩ := h
    refine ⟨_, (pss_cons (ps_set (i := 1) sc_law_names.nd rfl (.inr rfl) pe_str)
      (pss_cons (ps_set (i := 2) sc_law_names.nd rfl (.inr rfl) (pe_join pe_str (pe_lc (own := [("_law_k", 6)]) (g := gName 6) (tt := tYes) rfl sc_law_names.nd (pi_range1 rfl T.m_range (pa_cons (pe_call G_law_next (hr.mono (by decide)) (by rfl) D_law_next.g D_law_next.F.kp D_law_next.b .nil pass0 (pa_cons (pv 0) (pa_cons pe_int pa_nil))) pa_nil)) (blkOk_by (own := [("_law_k", 6)]) (N := ["_law_h", "_law_some", "_law_word", "_law_turn", "_law_letters", "_law_ends", "_law_k", "_law_letter"]) (sc := defScope s_law_names) (by decide +kernel)) (fun _ _ _ _ _ => pg_name (i := 6) sc_law_names.nd rfl (.inl rfl)) (fun _ _ _ _ _ => pts_nil) (fun _ _ _ _ _ => (pe_ix ix_str (pv 1) (pe_call G_law_next (hr.mono (by decide)) (by rfl) D_law_next.g D_law_next.F.kp D_law_next.b .nil pass0 (pa_cons (pv 0) (pa_cons pe_int pa_nil))) (fun _ _ => rfl))))))
      (pss_cons (ps_set (i := 3) sc_law_names.nd rfl (.inr rfl) (pe_call G_law_next (hr.mono (by decide)) (by rfl) D_law_next.g D_law_next.F.kp D_law_next.b .nil pass0 (pa_cons (pv 0) (pa_cons pe_int pa_nil))))
      (pss_cons (ps_set (i := 4) sc_law_names.nd rfl (.inr rfl) (pe_lc (own := [("_law_k", 6)]) (g := gName 6) (tt := tYes) rfl sc_law_names.nd (pi_range1 rfl T.m_range (pa_cons pe_int pa_nil)) (blkOk_by (own := [("_law_k", 6)]) (N := ["_law_h", "_law_some", "_law_word", "_law_turn", "_law_letters", "_law_ends", "_law_k", "_law_letter"]) (sc := defScope s_law_names) (by decide +kernel)) (fun _ _ _ _ _ => pg_name (i := 6) sc_law_names.nd rfl (.inl rfl)) (fun _ _ _ _ _ => pts_nil) (fun _ _ _ _ _ => (pe_ix ix_str (pv 1) (pe_op op_mod (pe_op op_add (pv 3) (pe_op op_mulW pe_int (pv 6))) pe_int) (fun _ _ => rfl)))))
      (pss_cons (ps_set (i := 5) sc_law_names.nd rfl (.inr rfl) (pe_op op_rep (pe_lst (pa_cons (pe_callB call_len_str (by rfl) T.m_len (by decide +kernel) (pa_cons (pv 2) pa_nil)) pa_nil)) pe_int))
      (pss_cons (ps_if (pt_cmpR op_eq (pe_call G_law_next (hr.mono (by decide)) (by rfl) D_law_next.g D_law_next.F.kp D_law_next.b .nil pass0 (pa_cons (pv 0) (pa_cons pe_int pa_nil))) pe_int (nomark _)) (pss_one (ps_set (i := 5) sc_law_names.nd rfl (.inr rfl) (pe_lc (own := [("_law_letter", 7)]) (g := gName 7) (tt := tYes) rfl sc_law_names.nd (pi_list (pv 4)) (blkOk_by (own := [("_law_letter", 7)]) (N := ["_law_h", "_law_some", "_law_word", "_law_turn", "_law_letters", "_law_ends", "_law_k", "_law_letter"]) (sc := defScope s_law_names) (by decide +kernel)) (fun _ _ _ _ _ => pg_name (i := 7) sc_law_names.nd rfl (.inl rfl)) (fun _ _ _ _ _ => pts_nil) (fun _ _ _ _ _ => (pe_call G_law_next (hr.mono (by decide)) (by rfl) D_law_next.g D_law_next.F.kp D_law_next.b .nil pass0 (pa_cons (pv 0) (pa_cons (pe_op op_add (pe_callB call_len_str (by rfl) T.m_len (by decide +kernel) (pa_cons (pv 2) pa_nil)) pe_int) pa_nil))))))) pss_nil)
      (pss_cons (ps_if (pt_cmpR op_eq (pe_call G_law_next (hr.mono (by decide)) (by rfl) D_law_next.g D_law_next.F.kp D_law_next.b .nil pass0 (pa_cons (pv 0) (pa_cons pe_int pa_nil))) pe_int (nomark _)) (pss_one (ps_ret (pe_lc (own := [("_law_k", 6)]) (g := gName 6) (tt := tYes) rfl sc_law_names.nd (pi_range1 rfl T.m_range (pa_cons pe_int pa_nil)) (blkOk_by (own := [("_law_k", 6)]) (N := ["_law_h", "_law_some", "_law_word", "_law_turn", "_law_letters", "_law_ends", "_law_k", "_law_letter"]) (sc := defScope s_law_names) (by decide +kernel)) (fun _ _ _ _ _ => pg_name (i := 6) sc_law_names.nd rfl (.inl rfl)) (fun _ _ _ _ _ => pts_nil) (fun _ _ _ _ _ => (pe_op op_add_str (pe_ix (ix_listK (K := K) rfl) (pv 4) (pv 6) (fun _ _ => rfl)) (pe_slice sl_str (pv 2) po_none (po_some (pe_ix (ix_listK (K := K) rfl) (pv 5) (pv 6) (fun _ _ => rfl))))))))) pss_nil)
      (pss_one (ps_ret (pe_lc (own := [("_law_k", 6)]) (g := gName 6) (tt := tYes) rfl sc_law_names.nd (pi_range1 rfl T.m_range (pa_cons pe_int pa_nil)) (blkOk_by (own := [("_law_k", 6)]) (N := ["_law_h", "_law_some", "_law_word", "_law_turn", "_law_letters", "_law_ends", "_law_k", "_law_letter"]) (sc := defScope s_law_names) (by decide +kernel)) (fun _ _ _ _ _ => pg_name (i := 6) sc_law_names.nd rfl (.inl rfl)) (fun _ _ _ _ _ => pts_nil) (fun _ _ _ _ _ => (pe_op op_add_str (pe_slice sl_str (pv 2) po_none (po_some (pe_ix (ix_listK (K := K) rfl) (pv 5) (pv 6) (fun _ _ => rfl)))) (pe_ix (ix_listK (K := K) rfl) (pv 4) (pv 6) (fun _ _ => rfl)))))))))))))), ?_⟩
    -- the word
    refine ⟨⟨_, rfl⟩, _, rfl, h, c, _, _, 8, _, rfl, by decide, by decide, A1, fun s1 k1 cs1 n H1 n0 n8 A2 B1 => ⟨n, rfl, by omega, by omega, fun D nD => ?_⟩⟩
    have dh : D ≠ h := (ne_of_none A2.h nD).symm
    have dc : D ≠ c := (ne_of_none A2.c nD).symm
    refine lc_range (lo := 0) (n := n.toNat) (fun i H3 => ∃ (s k : Int) (cs : List Int) (wd : List Nat), HAt H3 h c s k cs ∧ wd.length = i ∧ (∀ x ∈ wd, letterC x) ∧ H3 D = some (.lst ((wd.map fun x => SN [x]).map V.str)) ∧ But h c H1 H3) ⟨_, _, _, [], A2.same (same_upd nD), rfl, (fun _ z => nomatch z), upd_same, Same.but (same_upd nD)⟩ ?_ ?_
    · rintro i H3 hi ⟨s3, k3, cs3, wd, A3, hl, hw, hD, B3⟩
      refine ⟨rfl, _, rfl, _, rfl, h, c, _, _, 26, _, rfl, by decide, by decide, A3, fun s4 k4 cs4 p H4 p0 p1 A4 B4 => ?_⟩
      have D4 := B4 _ _ hD dh dc
      refine ⟨_, p, _, rfl, rfl, by decide +kernel, abc_atI p0 p1, _, D4, ?_, _, _, _, wd ++ [97 + p.toNat], A4.set dh dc, by rw [List.length_append, hl]; rfl, fun x hx => ?_, ?_, (B3.trans B4).upd nD⟩
      · rw [List.length_map, List.length_map, hl]
        exact small1000 (by omega)
      · rcases List.mem_append.mp hx with m | m
        · exact hw x m
        · rw [show x = 97 + p.toNat by simpa using m]
          unfold letterC
          omega
      · rw [upd_same, List.map_append, List.map_append]
        rfl
    · rintro H3 ⟨s3, k3, cs3, wd, A3, hl, hw, hD, B3⟩
      have wl : wd.length ≤ 7 := by omega
      have hsum : ((wd.map fun x => SN [x]).map (·.length)).sum ≤ 7 := by
        have e : ∀ l : List Nat, ((l.map fun x => SN [x]).map (·.length)).sum = l.length := fun l => by
          induction l with
          | nil => rfl
          | cons x r ih =>
            rw [List.map_cons, List.map_cons, List.sum_cons, ih, SN_len, List.length_cons]
            simp
            omega
        rw [e]
        exact wl
      refine ⟨_, D, wd.map fun x => SN [x], rfl, rfl, .inl (SqL.of hD), ?_, ?_⟩
      · rw [List.length_map]
        have : (("" : Str)).length = 0 := rfl
        rw [this]
        omega
      have ej : Txt.join ("" : Str) (wd.map fun x => SN [x]) = SN wd := (TL.join_eq _ _).trans (join_ones wd)
      rw [ej]
      have B13 := B1.trans B3
      have wz : (SN wd).length ≤ sizeLine := by rw [SN_len, sizeLine_eq]; omega
      -- the turn
      refine ⟨_, rfl, h, c, _, _, 26, _, rfl, by decide, by decide, A3, fun s4 k4 cs4 t H4 t0 t1 A4 B4 => ?_⟩
      -- the letters
      refine ⟨7, rfl, by decide, by decide, fun D2 nD2 => ?_⟩
      have dh2 : D2 ≠ h := (ne_of_none A4.h nD2).symm
      have dc2 : D2 ≠ c := (ne_of_none A4.c nD2).symm
      refine lc_range (lo := 0) (n := 7) (fun i H5 => H5 D2 = some (.lst (((List.range i).map fun k => SN [lett t.toNat k]).map V.str)) ∧ Same H4 H5) ⟨upd_same, same_upd nD2⟩ ?_ ?_
      · rintro i H5 hi ⟨e5, s5⟩
        have e1 : (t + 11 * (0 + (i : Int))).fmod 26 = (((t.toNat + 11 * i) % 26 : Nat) : Int) := by
          rw [Int.fmod_eq_emod_of_nonneg _ (by decide)]
          omega
        refine ⟨rfl, _, rfl, _, rfl, _, rfl, _, _, rfl, rfl, mulOk (a := 10) (b := 10) (by decide) (by omega) (by decide) (by decide) (by decide), _, _, rfl, rfl, _, _, rfl, rfl, (by show (0 : Int) < 26; decide), _, _, lett t.toNat i, rfl, rfl, by decide +kernel, ?_, _, e5, ?_, ?_, fun b u eb => ?_⟩
        · have a := abc_atI (i := (t + 11 * (0 + (i : Int))) % 26) (by omega) (by omega)
          have e : 97 + ((t + 11 * (0 + (i : Int))) % 26).toNat = lett t.toNat i := by
            unfold lett
            omega
          rw [e] at a
          exact a
        · rw [List.length_map, List.length_map, List.length_range]
          exact small1000 (by omega)
        · rw [upd_same, range_succ_map, List.map_append]
          rfl
        · rw [upd_ne (ne_of_none eb nD2)]
          exact s5 _ _ eb
      · rintro H5 ⟨e5, s5⟩
        -- the ends
        refine ⟨_, rfl, SN wd, rfl, wz, (by show 1 ≤ sizeLine; decide), fun a0 na0 => ⟨a0, 7, _, rfl, rfl, upd_same, by decide, by decide, (by show 1 * 7 ≤ sizeLine; decide), fun a na => ?_⟩⟩
        have A5 := A4.same s5
        have s56 : Same H5 (upd (upd H5 a0 (.lst [.int ((SN wd).length : Int)])) a (.lst (List.replicate (7 : Int).toNat [V.int ((SN wd).length : Int)]).flatten)) := (same_upd na0).trans (same_upd na)
        have ea : (upd (upd H5 a0 (.lst [.int ((SN wd).length : Int)])) a (.lst (List.replicate (7 : Int).toNat [V.int ((SN wd).length : Int)]).flatten)) a = some (.lst ((List.replicate 7 (wd.length : Int)).map V.int)) := by
          rw [upd_same, SN_len]
          rfl
        generalize (upd (upd H5 a0 (.lst [.int ((SN wd).length : Int)])) a (.lst (List.replicate (7 : Int).toNat [V.int ((SN wd).length : Int)]).flatten)) = H6 at s56 ea
        have e6 : H6 D2 = some (.lst (((List.range 7).map fun k => SN [lett t.toNat k]).map V.str)) := s56 _ _ e5
        have A6 := A5.same s56
        have na4 : H4 a = none := by
          cases e0 : H4 a with
          | none => rfl
          | some u =>
            have := (same_upd na0 : Same H5 (upd H5 a0 (.lst [.int ((SN wd).length : Int)]))) _ _ (s5 _ _ e0)
            rw [na] at this
            cases this
        have nah : a ≠ h := (ne_of_none A4.h na4).symm
        have nac : a ≠ c := (ne_of_none A4.c na4).symm
        have B16 : But h c H H6 := ((B13.trans B4).trans (Same.but s5)).trans (Same.but s56)
        refine ⟨_, rfl, h, c, _, _, 2, _, rfl, by decide, by decide, A6, fun s7 k7 cs7 b1 H7 b10 b12 A7 B7 => ?_⟩
        have B27 : But h c H H7 := B16.trans B7
        have keep7 := B7 _ _ e6 dh2 dc2
        have ea := B7 _ _ ea nah nac
        refine ⟨rfl, _, rfl, ite2 (fun e => ?_) (fun e => ?_)⟩
        · refine ⟨_, rfl, D2, rfl, ⟨_, SqL.of keep7⟩, fun D4 nD4 => ?_⟩
          have dh4 : D4 ≠ h := (ne_of_none A7.h nD4).symm
          have dc4 : D4 ≠ c := (ne_of_none A7.c nD4).symm
          have d24 : D2 ≠ D4 := ne_of_none keep7 nD4
          refine lc_list (fun i H9 => ∃ (s k : Int) (cs es : List Int), HAt H9 h c s k cs ∧ es.length = i ∧ (∀ e ∈ es, 0 ≤ e ∧ e ≤ (wd.length : Int)) ∧ H9 D4 = some (.lst (es.map V.int)) ∧ But h c H7 H9) ⟨_, _, _, [], A7.same (same_upd nD4), rfl, (fun _ z => nomatch z), upd_same, Same.but (same_upd nD4)⟩ (fun i H9 _ ⟨_, _, _, _, _, _, _, _, B⟩ => SqL.of (B _ _ keep7 dh2 dc2)) ?_ ?_
          · rintro i x H9 hx ⟨s9, k9, cs9, es, A9, hl9, he9, e9, B9⟩
            refine ⟨rfl, _, rfl, _, rfl, SN wd, rfl, wz, _, _, rfl, rfl, h, c, _, _, _, _, rfl, by rw [SN_len]; omega, by rw [SN_len]; omega, A9, fun s10 k10 cs10 p H10 p0 p1 A10 B10 => ?_⟩
            rw [SN_len] at p1
            have hi : i < 7 := by
              have := (List.getElem?_eq_some_iff.mp hx).1
              rw [List.length_map, List.length_map, List.length_range] at this
              exact this
            have D10 := B10 _ _ e9 dh4 dc4
            refine ⟨_, D10, ?_, _, _, _, es ++ [p], A10.set dh4 dc4, by rw [List.length_append, hl9]; rfl, fun e he => ?_, ?_, (B9.trans B10).upd nD4⟩
            · rw [List.length_map, hl9]
              exact small1000 (by omega)
            · rcases List.mem_append.mp he with m | m
              · exact he9 e m
              · rw [show e = p by simpa using m]
                omega
            · rw [upd_same, List.map_append]
              rfl
          · rintro H9 ⟨s9, k9, cs9, es, A9, hl9, hes, e9, B9⟩
            rw [List.length_map, List.length_map, List.length_range] at hl9
            have hel : es.length = 7 := hl9
            have keep7 := B9 _ _ keep7 dh2 dc2
            have B27 := B27.trans B9
            have A7 := A9
            clear A9 hl9 ea nah nac
            have ea := e9
            have nah := dh4
            have nac := dc4
            clear dh4 dc4 B9 e9
            revert ea nah nac nD4 d24
            generalize D4 = a
            intro nD4 d24 ea nah nac
            clear nD4 B7
            revert keep7 B27 A7 ea
            generalize H9 = H7
            intro keep7 B27 A7 ea
            have D2at : H7 D2 = some (.lst (((List.range 7).map fun k => SN [lett t.toNat k]).map V.str)) := keep7
            have ixL : ∀ i : Nat, i < 7 → atI (((List.range 7).map fun k => SN [lett t.toNat k]).map V.str) (0 + (i : Int)) = some (.str (SN [lett t.toNat i])) := fun i hi => at_of (j := i) (by omega) (by rw [List.getElem?_map, List.getElem?_map, List.getElem?_range hi]; rfl)
            have ixE : ∀ i : Nat, i < 7 → atI (es.map V.int) (0 + (i : Int)) = some (.int (((es.getD i 0).toNat : Nat) : Int)) := fun i hi => at_of (j := i) (by omega) (by
              have l : i < es.length := by omega
              have g : es.getD i 0 = es[i] := by rw [List.getD_eq_getElem?_getD, List.getElem?_eq_getElem l]; rfl
              rw [List.getElem?_map, List.getElem?_eq_getElem l, g]
              have := hes es[i] (List.getElem_mem l)
              show some (V.int es[i]) = some (V.int _)
              congr 2
              omega)
            refine ⟨_, rfl, h, c, _, _, 2, _, rfl, by decide, by decide, A7, fun s8 k8 cs8 b2 H8 b20 b22 A8 B8 => ?_⟩
            have B28 : But h c H H8 := B27.trans B8
            have D8 : H8 D2 = some (.lst (((List.range 7).map fun k => SN [lett t.toNat k]).map V.str)) := B8 _ _ D2at dh2 dc2
            have a8 : H8 a = some (.lst (es.map V.int)) := B8 _ _ ea nah nac
            refine ⟨rfl, _, rfl, ite2 (fun e => ?_) (fun e => ?_)⟩
            · refine ⟨7, rfl, by decide, by decide, fun D3 nD3 => ?_⟩
              have dh3 : D3 ≠ h := (ne_of_none A8.h nD3).symm
              have dc3 : D3 ≠ c := (ne_of_none A8.c nD3).symm
              refine lc_range (lo := 0) (n := 7) (fun i H9 => H9 D3 = some (.lst (((List.range i).map fun k => SN (lett t.toNat k :: wd.take (es.getD k 0).toNat)).map V.str)) ∧ Same H8 H9) ⟨upd_same, same_upd nD3⟩ ?_ ?_
              · rintro i H9 hi ⟨e9, s9⟩
                refine ⟨rfl, _, rfl, _, rfl, D2, _, _, _, rfl, rfl, SqL.of (s9 _ _ D8), ixL i hi, _, rfl, _, rfl, _, rfl, a, _, _, _, rfl, rfl, SqL.of (s9 _ _ a8), ixE i hi, _, rfl, SN wd, rfl, wz, ?_⟩
                rw [cutS_take]
                refine ⟨_, _, rfl, rfl, ?_, _, e9, ?_, ?_, fun b u eb => ?_⟩
                · rw [SN_len, SN_len, List.length_take, sizeLine_eq]
                  show 1 + _ ≤ _
                  omega
                · rw [List.length_map, List.length_map, List.length_range]
                  exact small1000 (by omega)
                · rw [upd_same, SN_app, range_succ_map, List.map_append]
                  rfl
                · rw [upd_ne (ne_of_none eb nD3)]
                  exact s9 _ _ eb
              · rintro H9 ⟨e9, s9⟩
                exact q _ _ _ _ D3 H9 (names_front wl hw) (A8.same s9) (B28.trans (Same.but s9)) (by
                  cases e0 : H D3 with
                  | none => rfl
                  | some u =>
                    have := B28 _ _ e0 dh3 dc3
                    rw [nD3] at this
                    cases this) dh3 dc3 e9
            · refine ⟨7, rfl, by decide, by decide, fun D3 nD3 => ?_⟩
              have dh3 : D3 ≠ h := (ne_of_none A8.h nD3).symm
              have dc3 : D3 ≠ c := (ne_of_none A8.c nD3).symm
              refine lc_range (lo := 0) (n := 7) (fun i H9 => H9 D3 = some (.lst (((List.range i).map fun k => SN (wd.take (es.getD k 0).toNat ++ [lett t.toNat k])).map V.str)) ∧ Same H8 H9) ⟨upd_same, same_upd nD3⟩ ?_ ?_
              · rintro i H9 hi ⟨e9, s9⟩
                refine ⟨rfl, _, rfl, _, rfl, _, rfl, a, _, _, _, rfl, rfl, SqL.of (s9 _ _ a8), ixE i hi, _, rfl, SN wd, rfl, wz, ?_⟩
                rw [cutS_take]
                refine ⟨_, rfl, _, rfl, D2, _, _, _, rfl, rfl, SqL.of (s9 _ _ D8), ixL i hi, _, _, rfl, rfl, ?_, _, e9, ?_, ?_, fun b u eb => ?_⟩
                · rw [SN_len, SN_len, List.length_take, sizeLine_eq]
                  show _ + 1 ≤ _
                  omega
                · rw [List.length_map, List.length_map, List.length_range]
                  exact small1000 (by omega)
                · rw [upd_same, SN_app, range_succ_map, List.map_append]
                  rfl
                · rw [upd_ne (ne_of_none eb nD3)]
                  exact s9 _ _ eb
              · rintro H9 ⟨e9, s9⟩
                exact q _ _ _ _ D3 H9 (names_back wl hw) (A8.same s9) (B28.trans (Same.but s9)) (by
                  cases e0 : H D3 with
                  | none => rfl
                  | some u =>
                    have := B28 _ _ e0 dh3 dc3
                    rw [nD3] at this
                    cases this) dh3 dc3 e9
        · have hel : (List.replicate 7 (wd.length : Int)).length = 7 := List.length_replicate
          have hes : ∀ e ∈ List.replicate 7 (wd.length : Int), 0 ≤ e ∧ e ≤ (wd.length : Int) := fun e he => by
            rw [(List.mem_replicate.mp he).2]
            omega
          revert hel hes ea
          generalize List.replicate 7 (wd.length : Int) = es
          intro ea hel hes
          have D2at : H7 D2 = some (.lst (((List.range 7).map fun k => SN [lett t.toNat k]).map V.str)) := keep7
          have ixL : ∀ i : Nat, i < 7 → atI (((List.range 7).map fun k => SN [lett t.toNat k]).map V.str) (0 + (i : Int)) = some (.str (SN [lett t.toNat i])) := fun i hi => at_of (j := i) (by omega) (by rw [List.getElem?_map, List.getElem?_map, List.getElem?_range hi]; rfl)
          have ixE : ∀ i : Nat, i < 7 → atI (es.map V.int) (0 + (i : Int)) = some (.int (((es.getD i 0).toNat : Nat) : Int)) := fun i hi => at_of (j := i) (by omega) (by
            have l : i < es.length := by omega
            have g : es.getD i 0 = es[i] := by rw [List.getD_eq_getElem?_getD, List.getElem?_eq_getElem l]; rfl
            rw [List.getElem?_map, List.getElem?_eq_getElem l, g]
            have := hes es[i] (List.getElem_mem l)
            show some (V.int es[i]) = some (V.int _)
            congr 2
            omega)
          refine ⟨_, rfl, h, c, _, _, 2, _, rfl, by decide, by decide, A7, fun s8 k8 cs8 b2 H8 b20 b22 A8 B8 => ?_⟩
          have B28 : But h c H H8 := B27.trans B8
          have D8 : H8 D2 = some (.lst (((List.range 7).map fun k => SN [lett t.toNat k]).map V.str)) := B8 _ _ D2at dh2 dc2
          have a8 : H8 a = some (.lst (es.map V.int)) := B8 _ _ ea nah nac
          refine ⟨rfl, _, rfl, ite2 (fun e => ?_) (fun e => ?_)⟩
          · refine ⟨7, rfl, by decide, by decide, fun D3 nD3 => ?_⟩
            have dh3 : D3 ≠ h := (ne_of_none A8.h nD3).symm
            have dc3 : D3 ≠ c := (ne_of_none A8.c nD3).symm
            refine lc_range (lo := 0) (n := 7) (fun i H9 => H9 D3 = some (.lst (((List.range i).map fun k => SN (lett t.toNat k :: wd.take (es.getD k 0).toNat)).map V.str)) ∧ Same H8 H9) ⟨upd_same, same_upd nD3⟩ ?_ ?_
            · rintro i H9 hi ⟨e9, s9⟩
              refine ⟨rfl, _, rfl, _, rfl, D2, _, _, _, rfl, rfl, SqL.of (s9 _ _ D8), ixL i hi, _, rfl, _, rfl, _, rfl, a, _, _, _, rfl, rfl, SqL.of (s9 _ _ a8), ixE i hi, _, rfl, SN wd, rfl, wz, ?_⟩
              rw [cutS_take]
              refine ⟨_, _, rfl, rfl, ?_, _, e9, ?_, ?_, fun b u eb => ?_⟩
              · rw [SN_len, SN_len, List.length_take, sizeLine_eq]
                show 1 + _ ≤ _
                omega
              · rw [List.length_map, List.length_map, List.length_range]
                exact small1000 (by omega)
              · rw [upd_same, SN_app, range_succ_map, List.map_append]
                rfl
              · rw [upd_ne (ne_of_none eb nD3)]
                exact s9 _ _ eb
            · rintro H9 ⟨e9, s9⟩
              exact q _ _ _ _ D3 H9 (names_front wl hw) (A8.same s9) (B28.trans (Same.but s9)) (by
                cases e0 : H D3 with
                | none => rfl
                | some u =>
                  have := B28 _ _ e0 dh3 dc3
                  rw [nD3] at this
                  cases this) dh3 dc3 e9
          · refine ⟨7, rfl, by decide, by decide, fun D3 nD3 => ?_⟩
            have dh3 : D3 ≠ h := (ne_of_none A8.h nD3).symm
            have dc3 : D3 ≠ c := (ne_of_none A8.c nD3).symm
            refine lc_range (lo := 0) (n := 7) (fun i H9 => H9 D3 = some (.lst (((List.range i).map fun k => SN (wd.take (es.getD k 0).toNat ++ [lett t.toNat k])).map V.str)) ∧ Same H8 H9) ⟨upd_same, same_upd nD3⟩ ?_ ?_
            · rintro i H9 hi ⟨e9, s9⟩
              refine ⟨rfl, _, rfl, _, rfl, _, rfl, a, _, _, _, rfl, rfl, SqL.of (s9 _ _ a8), ixE i hi, _, rfl, SN wd, rfl, wz, ?_⟩
              rw [cutS_take]
              refine ⟨_, rfl, _, rfl, D2, _, _, _, rfl, rfl, SqL.of (s9 _ _ D8), ixL i hi, _, _, rfl, rfl, ?_, _, e9, ?_, ?_, fun b u eb => ?_⟩
              · rw [SN_len, SN_len, List.length_take, sizeLine_eq]
                show _ + 1 ≤ _
                omega
              · rw [List.length_map, List.length_map, List.length_range]
                exact small1000 (by omega)
              · rw [upd_same, SN_app, range_succ_map, List.map_append]
                rfl
              · rw [upd_ne (ne_of_none eb nD3)]
                exact s9 _ _ eb
            · rintro H9 ⟨e9, s9⟩
              exact q _ _ _ _ D3 H9 (names_back wl hw) (A8.same s9) (B28.trans (Same.but s9)) (by
                cases e0 : H D3 with
                | none => rfl
                | some u =>
                  have := B28 _ _ e0 dh3 dc3
                  rw [nD3] at this
                  cases this) dh3 dc3 e9
end
/-! ### trees of sums, differences and products -/
inductive OpT where | add | less | times
  deriving DecidableEq
inductive Tr where | num (n : Int) | name (x : Str) | bin (o : OpT) (a b : Tr)
def opS : OpT → Str
  | .add => "add"
  | .less => "less"
  | .times => "times"
def opN (i : Nat) : OpT := if i % 3 = 0 then .add else if i % 3 = 1 then .less else .times
def TreeAt (K : PySem.W.Frag) (H : Hp) (p : Addr) : Tr → Prop
  | .num n => SqT K H p [.str "num", .int n]
  | .name x => SqT K H p [.str "name", .str x]
  | .bin o a b => ∃ q r : Addr, SqT K H p [.str (opS o), .ref q, .ref r] ∧ TreeAt K H q a ∧ TreeAt K H r b
theorem TreeAt.stay {K : PySem.W.Frag} {H H' : Hp} (s : TupsStay H H') : ∀ {t : Tr} {p : Addr}, TreeAt K H p t → TreeAt K H' p t
  | .num _, _, h => SqT.keeps h s
  | .name _, _, h => SqT.keeps h s
  | .bin _ _ _, _, ⟨q, r, h, ha, hb⟩ => ⟨q, r, SqT.keeps h s, TreeAt.stay s ha, TreeAt.stay s hb⟩
def TrOk (ns : List Str) : Nat → Tr → Prop
  | _, .num n => n.natAbs ≤ 1000000
  | _, .name x => x ∈ ns
  | 0, .bin _ _ _ => False
  | d + 1, .bin _ a b => TrOk ns d a ∧ TrOk ns d b
theorem TrOk.num {ns : List Str} {n : Int} (h : n.natAbs ≤ 1000000) : ∀ d, TrOk ns d (.num n)
  | 0 => h
  | _ + 1 => h
theorem TrOk.name {ns : List Str} {x : Str} (h : x ∈ ns) : ∀ d, TrOk ns d (.name x)
  | 0 => h
  | _ + 1 => h
theorem But.tups {h c : Addr} {H H' : Hp} {s k : Int} {cs : List Int} (B : But h c H H') (A : HAt H h c s k cs) : TupsStay H H' := fun b xs q => by
  have nh : b ≠ h := fun z => by
    subst z
    rcases q with q | ⟨ob, q⟩
    · rw [A.h] at q
      cases q
    · rw [A.h] at q
      cases q
  have nc : b ≠ c := fun z => by
    subst z
    rcases q with q | ⟨ob, q⟩
    · rw [A.c] at q
      cases q
    · rw [A.c] at q
      cases q
  rcases q with q | ⟨ob, q⟩
  · exact .inl (B _ _ q nh nc)
  · exact .inr ⟨ob, B _ _ q nh nc⟩
section
variable {P : Program} {w : World} {K : PySem.W.Frag} {mg : Str → Option Value} {base : Heap} {C : Addr}
def spTree (K : PySem.W.Frag) : Nat → Sp
  | 0 => fun _ _ _ _ => False
  | d + 1 => fun vs H Q _ => ∃ (h c l : Addr) (s k : Int) (cs : List Int) (ns : List Str), vs = [.ref h, .ref l, .int d] ∧ HAt H h c s k cs ∧ H l = some (.lst (ns.map V.str)) ∧ l ≠ h ∧ l ≠ c ∧ 0 < ns.length ∧ ns.length < 1000 ∧
    ∀ (s' k' : Int) (cs' : List Int) (p : Addr) (t : Tr) (H' : Hp), HAt H' h c s' k' cs' → But h c H H' → TreeAt K H' p t → TrOk ns d t → Q (.ref p) H'
theorem opN_at (l3 : List V) (he : l3 = [.str "add", .str "less", .str "times"]) {x : Int} (h0 : 0 ≤ x) : atI l3 (x % 3) = some (.str (opS (opN x.toNat))) := by
  subst he
  have h : x % 3 = 0 ∨ x % 3 = 1 ∨ x % 3 = 2 := by omega
  unfold opN
  rcases h with h | h | h
  · rw [h, if_pos (by omega)]
    rfl
  · rw [h, if_neg (by omega), if_pos (by omega)]
    rfl
  · rw [h, if_neg (by omega), if_neg (by omega)]
    rfl
theorem pick_at (x y : Int) (k : Bool) : atI [V.int x, V.int y] (if k then 1 else 0) = some (.int (if k then y else x)) := by
  cases k <;> rfl
theorem ok_law_tree {f : Addr} {fd : FuncData} (T : Txt K mg C) (F : DefAt K mg "_law_tree" "_law_tree" s_law_tree ["_law_h", "_law_names_here", "_law_deep"] f fd) : ∀ d, FnOk P w K mg base CX0 (d + 2) f fd ["_law_h", "_law_names_here", "_law_deep"] (spTree K d)
  | 0 => ⟨fun _ _ _ _ h => False.elim h, fun _ _ _ _ _ _ _ _ _ _ _ _ _ h => False.elim h⟩
  | d + 1 => by
    have G_law_tree := ok_law_tree T F d
    have D_law_tree := F
    obtain ⟨f1, fd1, D_law_next⟩ := T.d_law_next
    have G_law_next : FnOk P w K mg base CX0 1 f1 fd1 ["_law_h", "_law_many"] spNext := ok_law_next T D_law_next
    refine F.F.ok sc_law_tree (fun vs H Q E h => ?_) (fun cdv A outer s H vs Q E hr h => ?_)
    · obtain ⟨h, c, l, s, k, cs, ns, rfl, _⟩ := h
      rfl
    · obtain ⟨h, c, l, z, k, cs, ns, rfl, A1, el, nlh, nlc, ns0, ns1, q⟩ := h
      refine ⟨_, (pss_cons (ps_set (i := 3) sc_law_tree.nd rfl (.inl rfl) (pe_call G_law_next (hr.mono (by omega)) (by rfl) D_law_next.g D_law_next.F.kp D_law_next.b .nil pass0 (pa_cons (pv 0) (pa_cons pe_int pa_nil))))
      (pss_cons (ps_if (PW.pt (pw_or (pt_cmpR op_eq (pv 2) pe_int (nomark _)) (pw_or1 (pt_cmpR op_eq (pv 3) pe_int (nomark _))))) (pss_cons (ps_if (pt_cmpR op_eq (pe_call G_law_next (hr.mono (by omega)) (by rfl) D_law_next.g D_law_next.F.kp D_law_next.b .nil pass0 (pa_cons (pv 0) (pa_cons pe_int pa_nil))) pe_int (nomark _)) (pss_one (ps_ret (pe_tup (pa_cons pe_str (pa_cons (pe_ix ix_list (pe_lst (pa_cons (pe_op op_sub (pe_call G_law_next (hr.mono (by omega)) (by rfl) D_law_next.g D_law_next.F.kp D_law_next.b .nil pass0 (pa_cons (pv 0) (pa_cons pe_int pa_nil))) pe_int) (pa_cons (pe_op op_sub (pe_call G_law_next (hr.mono (by omega)) (by rfl) D_law_next.g D_law_next.F.kp D_law_next.b .nil pass0 (pa_cons (pv 0) (pa_cons pe_int pa_nil))) pe_int) pa_nil))) (pe_callTy call_int1 (by rfl) T.m_int (by decide +kernel) (pa_cons (pe_cmpR op_eq (pe_call G_law_next (hr.mono (by omega)) (by rfl) D_law_next.g D_law_next.F.kp D_law_next.b .nil pass0 (pa_cons (pv 0) (pa_cons pe_int pa_nil))) pe_int (nomark _)) pa_nil)) (fun _ _ => rfl)) pa_nil))))) pss_nil) (pss_one (ps_ret (pe_tup (pa_cons pe_str (pa_cons (pe_ix ix_list (pv 1) (pe_call G_law_next (hr.mono (by omega)) (by rfl) D_law_next.g D_law_next.F.kp D_law_next.b .nil pass0 (pa_cons (pv 0) (pa_cons (pe_callB call_len_seq (by rfl) T.m_len (by decide +kernel) (pa_cons (pv 1) pa_nil)) pa_nil))) (fun _ _ => rfl)) pa_nil)))))) pss_nil)
      (pss_cons (ps_set (i := 4) sc_law_tree.nd rfl (.inl rfl) (pe_call G_law_tree (hr.mono (by omega)) (by rfl) D_law_tree.g D_law_tree.F.kp D_law_tree.b .nil pass0 (pa_cons (pv 0) (pa_cons (pv 1) (pa_cons (pe_op op_sub (pv 2) pe_int) pa_nil)))))
      (pss_one (ps_ret (pe_tup (pa_cons (pe_ix ix_list (pe_lst (pa_cons pe_str (pa_cons pe_str (pa_cons pe_str pa_nil)))) (pe_op op_mod (pv 3) pe_int) (fun _ _ => rfl)) (pa_cons (pv 4) (pa_cons (pe_call G_law_tree (hr.mono (by omega)) (by rfl) D_law_tree.g D_law_tree.F.kp D_law_tree.b .nil pass0 (pa_cons (pv 0) (pa_cons (pv 1) (pa_cons (pe_op op_sub (pv 2) pe_int) pa_nil)))) pa_nil))))))))), ?_⟩
      refine ⟨_, rfl, h, c, _, _, 6, _, rfl, by decide, by decide, A1, fun s1 k1 cs1 way H1 w0 w6 A2 B1 => ?_⟩
      have el1 := B1 _ _ el nlh nlc
      refine ⟨_, rfl, rfl, _, rfl, ite2 (fun e => ?_) (fun e => ⟨_, rfl, rfl, _, rfl, ite2 (fun e => ?_) (fun e => ?_)⟩)⟩
      · refine ⟨_, rfl, h, c, _, _, 2, _, rfl, by decide, by decide, A2, fun s2 k2 cs2 b H2 b0 b2 A3 B2 => ⟨rfl, _, rfl, ite2 (fun e => ?_) (fun e => ?_)⟩⟩
        · refine ⟨_, rfl, h, c, _, _, 7, _, rfl, by decide, by decide, A3, fun s3 k3 cs3 x H3 x0 x7 A4 B3 => ⟨_, _, rfl, rfl, _, rfl, h, c, _, _, 2000000, _, rfl, by decide, by decide, A4, fun s4 k4 cs4 y H4 y0 y2 A5 B4 => ⟨_, _, rfl, rfl, (by show 2 ≤ sizeLine; decide), fun l2 nl2 => ?_⟩⟩⟩
          have n2h : l2 ≠ h := (ne_of_none A5.h nl2).symm
          have n2c : l2 ≠ c := (ne_of_none A5.c nl2).symm
          have A5 := A5.same (same_upd nl2 : Same H4 (upd H4 l2 (.lst [.int (x - 3), .int (y - 1000000)])))
          refine ⟨_, rfl, h, c, _, _, 4, _, rfl, by decide, by decide, A5, fun s5 k5 cs5 v H5 v0 v4 A6 B5 => ⟨rfl, .inr ⟨_, rfl, l2, _, _, _, rfl, rfl, SqL.of (B5 _ _ upd_same n2h n2c), pick_at _ _ _, (by show 2 ≤ sizeLine; decide), fun t nt => ?_⟩⟩⟩
          have st := same_upd (o := .tup [.str "num", .int (if decide (V.int v = V.int 0) then y - 1000000 else x - 3)]) nt
          refine q _ _ _ t (.num (if decide (V.int v = V.int 0) then y - 1000000 else x - 3)) _ (A6.same st) ((((((B1.trans B2).trans B3).trans B4).same (same_upd nl2)).trans B5).trans (Same.but st)) (SqT.of upd_same) (TrOk.num ?_ _)
          split <;> omega
        · have el2 := B2 _ _ el1 nlh nlc
          refine ⟨_, rfl, _, rfl, _, rfl, l, _, rfl, .inl (SqL.of el2), h, c, _, _, _, _, rfl, by rw [List.length_map]; omega, by rw [List.length_map]; omega, A3, fun s3 k3 cs3 x H3 x0 x7 A4 B3 => ?_⟩
          rw [List.length_map] at x7
          have hx : x.toNat < ns.length := by omega
          refine ⟨l, _, _, .str ns[x.toNat], rfl, rfl, SqL.of (B3 _ _ el2 nlh nlc), at_of (j := x.toNat) (by omega) (by rw [List.getElem?_map, List.getElem?_eq_getElem hx]; rfl), (by show 2 ≤ sizeLine; decide), fun t nt => ?_⟩
          have st := same_upd (o := .tup [.str "name", .str ns[x.toNat]]) nt
          exact q _ _ _ t (.name ns[x.toNat]) _ (A4.same st) (((B1.trans B2).trans B3).trans (Same.but st)) (SqT.of upd_same) (TrOk.name (List.getElem_mem hx) _)
      · refine ⟨_, rfl, h, c, _, _, 2, _, rfl, by decide, by decide, A2, fun s2 k2 cs2 b H2 b0 b2 A3 B2 => ⟨rfl, _, rfl, ite2 (fun e => ?_) (fun e => ?_)⟩⟩
        · refine ⟨_, rfl, h, c, _, _, 7, _, rfl, by decide, by decide, A3, fun s3 k3 cs3 x H3 x0 x7 A4 B3 => ⟨_, _, rfl, rfl, _, rfl, h, c, _, _, 2000000, _, rfl, by decide, by decide, A4, fun s4 k4 cs4 y H4 y0 y2 A5 B4 => ⟨_, _, rfl, rfl, (by show 2 ≤ sizeLine; decide), fun l2 nl2 => ?_⟩⟩⟩
          have n2h : l2 ≠ h := (ne_of_none A5.h nl2).symm
          have n2c : l2 ≠ c := (ne_of_none A5.c nl2).symm
          have A5 := A5.same (same_upd nl2 : Same H4 (upd H4 l2 (.lst [.int (x - 3), .int (y - 1000000)])))
          refine ⟨_, rfl, h, c, _, _, 4, _, rfl, by decide, by decide, A5, fun s5 k5 cs5 v H5 v0 v4 A6 B5 => ⟨rfl, .inr ⟨_, rfl, l2, _, _, _, rfl, rfl, SqL.of (B5 _ _ upd_same n2h n2c), pick_at _ _ _, (by show 2 ≤ sizeLine; decide), fun t nt => ?_⟩⟩⟩
          have st := same_upd (o := .tup [.str "num", .int (if decide (V.int v = V.int 0) then y - 1000000 else x - 3)]) nt
          refine q _ _ _ t (.num (if decide (V.int v = V.int 0) then y - 1000000 else x - 3)) _ (A6.same st) ((((((B1.trans B2).trans B3).trans B4).same (same_upd nl2)).trans B5).trans (Same.but st)) (SqT.of upd_same) (TrOk.num ?_ _)
          split <;> omega
        · have el2 := B2 _ _ el1 nlh nlc
          refine ⟨_, rfl, _, rfl, _, rfl, l, _, rfl, .inl (SqL.of el2), h, c, _, _, _, _, rfl, by rw [List.length_map]; omega, by rw [List.length_map]; omega, A3, fun s3 k3 cs3 x H3 x0 x7 A4 B3 => ?_⟩
          rw [List.length_map] at x7
          have hx : x.toNat < ns.length := by omega
          refine ⟨l, _, _, .str ns[x.toNat], rfl, rfl, SqL.of (B3 _ _ el2 nlh nlc), at_of (j := x.toNat) (by omega) (by rw [List.getElem?_map, List.getElem?_eq_getElem hx]; rfl), (by show 2 ≤ sizeLine; decide), fun t nt => ?_⟩
          have st := same_upd (o := .tup [.str "name", .str ns[x.toNat]]) nt
          exact q _ _ _ t (.name ns[x.toNat]) _ (A4.same st) (((B1.trans B2).trans B3).trans (Same.but st)) (SqT.of upd_same) (TrOk.name (List.getElem_mem hx) _)
      · cases d with
        | zero => exact absurd (decide_eq_true rfl : decide (V.int ((0 : Nat) : Int) = V.int 0) = true) (by assumption)
        | succ d =>
          have ed : [V.ref h, V.ref l, V.int ((((d + 1 : Nat) : Int)) - 1)] = [.ref h, .ref l, .int (d : Int)] := by
            have e0 : (((d + 1 : Nat) : Int) - 1) = (d : Int) := by omega
            rw [e0]
          refine ⟨_, rfl, _, rfl, _, rfl, _, _, rfl, rfl, h, c, l, _, _, _, ns, ed, A2, el1, nlh, nlc, ns0, ns1, fun s2 k2 cs2 p1 t1 H2 A3 B2 T1 ok1 => ?_⟩
          refine ⟨(by show 3 ≤ sizeLine; decide), fun l3 nl3 => ?_⟩
          have s3 : Same H2 (upd H2 l3 (.lst [.str "add", .str "less", .str "times"])) := same_upd nl3
          have A4 := A3.same s3
          have T1 := T1.stay (TupsStay.same s3)
          have el3 := s3 _ _ (B2 _ _ el1 nlh nlc)
          refine ⟨_, rfl, _, _, rfl, rfl, (by show (0 : Int) < 3; decide), l3, _, _, _, rfl, rfl, SqL.of upd_same, opN_at _ rfl w0, _, rfl, _, rfl, _, rfl, _, rfl, _, _, rfl, rfl, h, c, l, _, _, _, ns, ed, A4, el3, nlh, nlc, ns0, ns1, fun s5 k5 cs5 p2 t2 H5 A5 B5 T2 ok2 => ⟨(by show 3 ≤ sizeLine; decide), fun t nt => ?_⟩⟩
          have st := same_upd (o := .tup [.str (opS (opN way.toNat)), .ref p1, .ref p2]) nt
          have T1' := (T1.stay (B5.tups A4)).stay (TupsStay.same st)
          exact q _ _ _ t (.bin (opN way.toNat) t1 t2) _ (A5.same st) ((((B1.trans B2).same s3).trans B5).trans (Same.but st)) ⟨p1, p2, SqT.of upd_same, T1', T2.stay (TupsStay.same st)⟩ ⟨ok1, ok2⟩
end
/-! ### the sum of a tree -/
def polyT : Tr → Poly
  | .num n => addM [] [] (n : Rat)
  | .name x => [([(x, 1)], 1)]
  | .bin .add a b => sumM (polyT a) (polyT b)
  | .bin .less a b => sumM (polyT a) (negM (polyT b))
  | .bin .times a b => mulM (polyT a) (polyT b)
/-- products of names of ns -/
def Of (ns : List Str) (p : Pr) : Prop := Canon p ∧ ∀ e ∈ p, e.1 ∈ ns
theorem Of.join {ns : List Str} {a b : Pr} (ha : Of ns a) (hb : Of ns b) : Of ns (joinP a b) := ⟨hb.1.join ha.1.one, fun e he => by
  rcases join_names he with ⟨g, hg, eg⟩ | ⟨g, hg, eg⟩
  · rw [← eg]
    exact ha.2 g hg
  · rw [← eg]
    exact hb.2 g hg⟩
theorem Of.len {ns : List Str} {a : Pr} (ha : Of ns a) : a.length ≤ ns.length := by
  have z := nodup_len ha.1.nodup fun x hx => by
    obtain ⟨e, he, ee⟩ := List.mem_map.mp hx
    rw [← ee]
    exact ha.2 e he
  rwa [List.length_map] at z
def nT : Nat → Nat
  | 0 => 1
  | d + 1 => max (nT d + nT d) (nT d * nT d)
def sT : Nat → Nat
  | 0 => 1000000
  | d + 1 => sT d * sT d
theorem nT_one : ∀ d, 1 ≤ nT d
  | 0 => Nat.le_refl 1
  | d + 1 => Nat.le_trans (nT_one d) (Nat.le_trans (Nat.le_add_right _ _) (Nat.le_max_left _ _))
theorem sT_two : ∀ d, 2 ≤ sT d
  | 0 => by decide
  | d + 1 => Nat.le_trans (sT_two d) (Nat.le_mul_of_pos_right _ (Nat.lt_of_lt_of_le (by decide) (sT_two d)))
theorem add_le_sq {n : Nat} (h : 2 ≤ n) : n + n ≤ n * n := by
  have := Nat.mul_le_mul_right n h
  omega
theorem nT_up {d e : Nat} (h : d ≤ e) : nT d ≤ nT e := by
  induction h with
  | refl => exact Nat.le_refl _
  | step _ ih => exact Nat.le_trans ih (Nat.le_trans (Nat.le_add_right _ _) (Nat.le_max_left _ _))
theorem sT_up {d e : Nat} (h : d ≤ e) : sT d ≤ sT e := by
  induction h with
  | refl => exact Nat.le_refl _
  | step _ ih => exact Nat.le_trans ih (Nat.le_mul_of_pos_right _ (Nat.lt_of_lt_of_le (by decide) (sT_two _)))
theorem Of.nil (ns : List Str) : Of ns [] := ⟨.nil, fun _ h => nomatch h⟩
theorem Of.one {ns : List Str} {x : Str} (h : x ∈ ns) : Of ns [(x, 1)] := ⟨⟨List.pairwise_singleton _ _, fun e he => by rw [show e = (x, 1) by simpa using he]; exact Int.le_refl 1⟩, fun e he => by rw [show e = (x, 1) by simpa using he]; exact h⟩
theorem Fit.number {ns : List Str} (n : Int) : Fit (Of ns) 1 1 n.natAbs (addM [] [] (n : Rat)) := by
  have z := (Fit.nil (A := Of ns) (n := 0) (D := 1) (S := 0)).add (k := []) (r := (n : Rat)) (Of.nil ns) (whole_int n).1
  rw [(whole_int n).2, Nat.zero_add, Nat.zero_add] at z
  exact z
theorem Fit.name {ns : List Str} {x : Str} (h : x ∈ ns) : Fit (Of ns) 1 1 1 [([(x, 1)], 1)] := by
  refine ⟨⟨List.nodup_cons.mpr ⟨by simp, List.nodup_nil⟩, fun y hy => ?_, fun y hy => ?_⟩, Nat.le_refl 1, fun y hy => ?_, ?_⟩
  · rw [show y = ([(x, 1)], 1) by simpa using hy]
    show (1 : Rat) ≠ 0
    decide
  · rw [show y = ([(x, 1)], 1) by simpa using hy]
    exact Of.one h
  · rw [show y = ([(x, 1)], 1) by simpa using hy]
    exact (whole_int 1).1
  · show mag 1 1 + 0 ≤ 1
    have := (whole_int 1).2
    have e : mag 1 (1 : Rat) = 1 := this
    rw [e]
    decide
theorem Fit.neg {A : Pr → Prop} {n D S : Nat} {M : Poly} (h : Fit A n D S M) : Fit A n D S (negM M) := by
  refine ⟨⟨?_, fun x hx => ?_, fun x hx => (neg_parts h.parts x hx).1⟩, by rw [neg_len]; exact h.len, fun x hx => (neg_parts h.parts x hx).2, by rw [sz_neg h.wh]; exact h.sz⟩
  · have e : (negM M).map (·.1) = M.map (·.1) := by
      unfold negM
      rw [List.map_map]
      rfl
    rw [e]
    exact h.good.nd
  · obtain ⟨y, hy, e⟩ := List.mem_map.mp hx
    subst e
    have := h.good.nz y hy
    show 0 - y.2 ≠ 0
    grind
theorem Fit.plus {A : Pr → Prop} {n m D S R : Nat} {M N : Poly} (h : Fit A n D S M) (g : Fit A m D R N) : Fit A (n + m) D (S + R) (sumM M N) := by
  have z := Fit.sum N h g.parts
  exact z.mono (Nat.add_le_add_left g.len _) (Nat.add_le_add_left g.sz _)
theorem fit_tree {ns : List Str} : ∀ {t : Tr} {d : Nat}, TrOk ns d t → Fit (Of ns) (nT d) 1 (sT d) (polyT t)
  | .num n, d, h => by
    have hn : n.natAbs ≤ 1000000 := by
      cases d <;> exact h
    exact (Fit.number n).mono (nT_one d) (Nat.le_trans hn (sT_up (d := 0) (Nat.zero_le d)))
  | .name x, d, h => by
    have hx : x ∈ ns := by
      cases d <;> exact h
    exact (Fit.name hx).mono (nT_one d) (Nat.le_trans (by decide) (sT_two d))
  | .bin o a b, 0, h => False.elim h
  | .bin o a b, d + 1, ⟨ha, hb⟩ => by
    have fa := fit_tree ha
    have fb := fit_tree hb
    cases o with
    | add => exact (fa.plus fb).mono (Nat.le_max_left _ _) (add_le_sq (sT_two d))
    | less => exact (fa.plus fb.neg).mono (Nat.le_max_left _ _) (add_le_sq (sT_two d))
    | times => exact (fa.mul fb fun _ _ => Of.join).mono (Nat.le_max_right _ _) (Nat.le_refl _)
theorem sT_big {d : Nat} (h : d ≤ 5) : sT d * sT d < big := Nat.lt_of_le_of_lt (Nat.mul_le_mul (sT_up h) (sT_up h)) (by decide +kernel)
theorem nT_big {d : Nat} (h : d ≤ 3) : nT d * nT d < sizeLine ∧ nT d + nT d < sizeLine := ⟨Nat.lt_of_le_of_lt (Nat.mul_le_mul (nT_up h) (nT_up h)) (by decide +kernel), Nat.lt_of_le_of_lt (Nat.add_le_add (nT_up h) (nT_up h)) (by decide +kernel)⟩
section
variable {P : Program} {w : World} {K : PySem.W.Frag} {mg : Str → Option Value} {base : Heap} {C : Addr}
def spLSum (K : PySem.W.Frag) (w : World) (C : Addr) : Nat → Sp
  | 0 => fun _ _ _ _ => False
  | d + 1 => fun vs H Q _ => ∃ (p : Addr) (t : Tr) (ns : List Str), vs = [.ref p] ∧ TreeAt K H p t ∧ TrOk ns d t ∧ d ≤ 3 ∧ ns.length < 32 ∧ ∀ x H', SumAt K w C H' x (polyT t) → Same H H' → H x = none → Q (.ref x) H'
theorem ok_law_sum {f : Addr} {fd : FuncData} (T : Txt K mg C) (F : DefAt K mg "_law_sum" "_law_sum" s_law_sum ["_law_tree_here"] f fd) : ∀ d, FnOk P w K mg base CX0 (d + 6) f fd ["_law_tree_here"] (spLSum K w C d)
  | 0 => ⟨fun _ _ _ _ h => False.elim h, fun _ _ _ _ _ _ _ _ _ _ _ _ _ h => False.elim h⟩
  | d + 1 => by
    have G_law_sum := ok_law_sum T F d
    have D_law_sum := F
    obtain ⟨f1, fd1, D_sum_of_number⟩ := T.d_sum_of_number
    have G_sum_of_number : FnOk P w K mg base CX0 4 f1 fd1 ["n"] (spNumber K w C) := ok_sum_of_number T D_sum_of_number
    obtain ⟨f2, fd2, D_sum_of_name⟩ := T.d_sum_of_name
    have G_sum_of_name : FnOk P w K mg base CX0 3 f2 fd2 ["x"] (spName K w C) := ok_sum_of_name T D_sum_of_name
    obtain ⟨f3, fd3, D_added⟩ := T.d_added
    have G_added : FnOk P w K mg base CX0 5 f3 fd3 ["one", "other"] (spAdded K w C) := ok_added T D_added
    obtain ⟨f4, fd4, D_lessened⟩ := T.d_lessened
    have G_lessened : FnOk P w K mg base CX0 5 f4 fd4 ["one", "other"] (spLessened K w C) := ok_lessened T D_lessened
    obtain ⟨f5, fd5, D_timed⟩ := T.d_timed
    have G_timed : FnOk P w K mg base CX0 4 f5 fd5 ["one", "other"] (spTimed K w C) := ok_timed T D_timed
    refine F.F.ok sc_law_sum (fun vs H Q E h => ?_) (fun cdv A outer s H vs Q E hr h => ?_)
    · obtain ⟨p, t, ns, rfl, _⟩ := h
      rfl
    · obtain ⟨p, t, ns, rfl, tr, ok, hd, hns, q⟩ := h
      refine ⟨_, (pss_cons (ps_if (pt_cmpR op_eq (pe_ix ix_tup (pv 0) pe_int (fun _ _ => rfl)) pe_str (nomark _)) (pss_one (ps_ret (pe_call G_sum_of_number (hr.mono (by omega)) (by rfl) D_sum_of_number.g D_sum_of_number.F.kp D_sum_of_number.b .nil pass0 (pa_cons (pe_ix ix_tup (pv 0) pe_int (fun _ _ => rfl)) pa_nil)))) pss_nil)
      (pss_cons (ps_if (pt_cmpR op_eq (pe_ix ix_tup (pv 0) pe_int (fun _ _ => rfl)) pe_str (nomark _)) (pss_one (ps_ret (pe_call G_sum_of_name (hr.mono (by omega)) (by rfl) D_sum_of_name.g D_sum_of_name.F.kp D_sum_of_name.b .nil pass0 (pa_cons (pe_ix ix_tup (pv 0) pe_int (fun _ _ => rfl)) pa_nil)))) pss_nil)
      (pss_cons (ps_set (i := 1) sc_law_sum.nd rfl (.inl rfl) (pe_call G_law_sum (hr.mono (by omega)) (by rfl) D_law_sum.g D_law_sum.F.kp D_law_sum.b .nil pass0 (pa_cons (pe_ix ix_tup (pv 0) pe_int (fun _ _ => rfl)) pa_nil)))
      (pss_cons (ps_set (i := 2) sc_law_sum.nd rfl (.inl rfl) (pe_call G_law_sum (hr.mono (by omega)) (by rfl) D_law_sum.g D_law_sum.F.kp D_law_sum.b .nil pass0 (pa_cons (pe_ix ix_tup (pv 0) pe_int (fun _ _ => rfl)) pa_nil)))
      (pss_cons (ps_if (pt_cmpR op_eq (pe_ix ix_tup (pv 0) pe_int (fun _ _ => rfl)) pe_str (nomark _)) (pss_one (ps_ret (pe_call G_added (hr.mono (by omega)) (by rfl) D_added.g D_added.F.kp D_added.b .nil pass0 (pa_cons (pv 1) (pa_cons (pv 2) pa_nil))))) pss_nil)
      (pss_one (ps_ret (pe_ifExp (pt_cmpR op_eq (pe_ix ix_tup (pv 0) pe_int (fun _ _ => rfl)) pe_str (nomark _)) (pe_call G_lessened (hr.mono (by omega)) (by rfl) D_lessened.g D_lessened.F.kp D_lessened.b .nil pass0 (pa_cons (pv 1) (pa_cons (pv 2) pa_nil))) (pe_call G_timed (hr.mono (by omega)) (by rfl) D_timed.g D_timed.F.kp D_timed.b .nil pass0 (pa_cons (pv 1) (pa_cons (pv 2) pa_nil))))))))))), ?_⟩
      cases t with
      | num n =>
        have hn : n.natAbs ≤ 1000000 := by
          cases d <;> exact ok
        refine ⟨_, rfl, p, _, _, _, rfl, rfl, tr, atI_nat (j := 0) rfl, rfl, _, rfl, ite2 (fun e => ?_) (fun e => absurd (by decide) e)⟩
        refine ⟨_, rfl, p, _, _, _, rfl, rfl, tr, atI_nat (j := 1) rfl, n, rfl, Nat.lt_of_le_of_lt hn (by decide +kernel), q⟩
      | name x =>
        refine ⟨_, rfl, p, _, _, _, rfl, rfl, tr, atI_nat (j := 0) rfl, rfl, _, rfl, ite2 (fun e => absurd e (by decide)) (fun e => ?_)⟩
        refine ⟨_, rfl, p, _, _, _, rfl, rfl, tr, atI_nat (j := 0) rfl, rfl, _, rfl, ite2 (fun e => ?_) (fun e => absurd (by decide) e)⟩
        exact ⟨_, rfl, p, _, _, _, rfl, rfl, tr, atI_nat (j := 1) rfl, x, rfl, q⟩
      | bin o a b =>
        cases d with
        | zero => exact False.elim ok
        | succ d =>
          obtain ⟨pa, pb, tp, ta, tb⟩ := tr
          obtain ⟨oa, ob⟩ := ok
          have fa := fit_tree oa
          have fb := fit_tree ob
          have n0 : ¬ decide (V.str (opS o) = V.str "num") = true := by cases o <;> decide
          have n1 : ¬ decide (V.str (opS o) = V.str "name") = true := by cases o <;> decide
          refine ⟨_, rfl, p, _, _, _, rfl, rfl, tp, atI_nat (j := 0) rfl, rfl, _, rfl, ite2 (fun e => absurd e n0) (fun e => ?_)⟩
          refine ⟨_, rfl, p, _, _, _, rfl, rfl, tp, atI_nat (j := 0) rfl, rfl, _, rfl, ite2 (fun e => absurd e n1) (fun e => ?_)⟩
          refine ⟨_, rfl, p, _, _, _, rfl, rfl, tp, atI_nat (j := 1) rfl, pa, a, ns, rfl, ta, oa, by omega, hns, fun x1 H1 S1 s1 nx1 => ?_⟩
          refine ⟨_, rfl, p, _, _, _, rfl, rfl, SqT.keeps tp (TupsStay.same s1), atI_nat (j := 2) rfl, pb, b, ns, rfl, tb.stay (TupsStay.same s1), ob, by omega, hns, fun x2 H2 S2 s2 nx2 => ?_⟩
          have s12 := s1.trans s2
          have S1' := S1.same s2
          have tp2 := SqT.keeps tp (TupsStay.same s12)
          have sb := sT_big (d := d) (by omega)
          have nb := nT_big (d := d) (by omega)
          have s2' := add_le_sq (sT_two d)
          obtain ⟨nb, nb2⟩ := nb
          have fin : ∀ x H', SumAt K w C H' x (polyT (.bin o a b)) → Same H2 H' → H2 x = none → Q (.ref x) H' := fun x H' S3 s3 nx => q x H' S3 (s12.trans s3) (s12.free nx)
          cases o with
          | add =>
            refine ⟨_, rfl, p, _, _, _, rfl, rfl, tp2, atI_nat (j := 0) rfl, rfl, _, rfl, ite2 (fun e => ?_) (fun e => absurd (by decide) e)⟩
            exact ⟨_, rfl, _, rfl, x1, x2, _, _, _, _, _, 1, _, _, rfl, ⟨S1', S2, fa, fb, by decide, by decide +kernel⟩, by omega, by omega, fin⟩
          | less =>
            refine ⟨_, rfl, p, _, _, _, rfl, rfl, tp2, atI_nat (j := 0) rfl, rfl, _, rfl, ite2 (fun e => absurd e (by decide)) (fun e => ?_)⟩
            refine ⟨_, rfl, p, _, _, _, rfl, rfl, tp2, atI_nat (j := 0) rfl, rfl, _, rfl, ite2 (fun e => ?_) (fun e => absurd (by decide) e)⟩
            exact ⟨_, rfl, _, rfl, x1, x2, _, _, _, _, _, 1, _, _, rfl, ⟨S1', S2, fa, fb, by decide, by decide +kernel⟩, by omega, by omega, fin⟩
          | times =>
            refine ⟨_, rfl, p, _, _, _, rfl, rfl, tp2, atI_nat (j := 0) rfl, rfl, _, rfl, ite2 (fun e => absurd e (by decide)) (fun e => ?_)⟩
            refine ⟨_, rfl, p, _, _, _, rfl, rfl, tp2, atI_nat (j := 0) rfl, rfl, _, rfl, ite2 (fun e => absurd e (by decide)) (fun e => ?_)⟩
            exact ⟨_, rfl, _, rfl, x1, x2, _, _, _, _, _, 1, 1, _, _, rfl, S1', S2, fa, fb, by decide, by decide, by decide +kernel, by omega, by omega, sb, nb, fun _ _ => Of.join, fun a ha => ⟨ha.1, Nat.lt_of_le_of_lt ha.len hns⟩, fin⟩
end
/-! ### for p in d: the products of a locked dict -/
def ItKN (K : PySem.W.Frag) (w : World) (d : Addr) (o : Obj) (L : List (Pr × V)) : It :=
  ⟨fun i H => NF K w H d o L ∧ i < L.length, fun i H x H' => H' = H ∧ ∃ (k : Pr) (v : V) (b : Addr), L[i]? = some (k, v) ∧ x = .ref b ∧ ProdAt K H b k, fun i H => NF K w H d o L ∧ L.length ≤ i⟩
theorem turn_keysN {P : Program} {w : World} {K : PySem.W.Frag} {tg : Expr} {d : Addr} {o : Obj} {es : Array DictEntry} {ep : Nat} {L : List (Pr × V)} (it : Addr) (hod : o.data = .dict es ep) (hsz : es.size = L.length) :
    Turn P w K tg (ItKN K w d o L) [it] it (fun i h => h.IsKeyIter it d i es.size ep) where
  mem := by simp
  obj := fun i h st b hb => by
    have e : b = it := by simpa using hb
    subst e
    obtain ⟨oi, e, c, dd⟩ := st
    exact ⟨oi, e, fun v z => by rw [dd] at z; cases z⟩
  keep := fun i h h' st k => st.at fun oi e => k it (by simp) oi e
  item := by
    intro X hP hw hK hc i pins s σ H E I hf st hg
    subst hP hw hK
    obtain ⟨hF, hi⟩ := hg
    obtain ⟨f0, f1, f2, f3, f4, f5⟩ := hf it (by simp)
    obtain ⟨hgd, es', ep', hdt, raw, _, ent⟩ := hF.entries I
    obtain ⟨rfl, rfl⟩ := dict_ep hod hdt
    have hi' : i < es'.size := by omega
    obtain ⟨k, v, b, hL, hk, rv, hb⟩ := ent i hi'
    refine next_key_item st hgd hdt rfl (Array.getElem?_eq_getElem hi') fun h' st' sb => ?_
    have I1 : Inv X pins σ H { s with heap := h' } := I.turned (t' := s.toks) (fun b ob hb e => (sb.2 b hb).trans e) f0 f1 f3 f4 f5
    obtain ⟨oi, e, c, dd⟩ := id st'
    exact ⟨_, rfl, go_of (s := { s with heap := h' }) e c dd (by decide) ⟨.ref b, H, I1, hk, ⟨rfl, k, v, b, hL, rfl, hb⟩, st', fun b hb => (hf b hb).1⟩⟩
  done := by
    intro X hP hw hK hc i pins s σ H E I hf st hg
    subst hP hw hK
    obtain ⟨hF, hi⟩ := hg
    obtain ⟨f0, f1, f2, f3, f4, f5⟩ := hf it (by simp)
    obtain ⟨hgd, es', ep', hdt, raw, _, ent⟩ := hF.entries I
    obtain ⟨rfl, rfl⟩ := dict_ep hod hdt
    exact next_key_end (I.ok.hd hc) st hgd hdt rfl (by omega) fun h' eb => ⟨rfl, I.turned (t' := s.toks) (fun b ob hb e => eb b ob hb e) f0 f1 f3 f4 f5⟩
  self := fun A i s Q E st h => wpAny_pyIter_keyiter st h
def iKeysN (K : PySem.W.Frag) (w : World) (td : TE) : TI := fun σ H R => td σ H fun x H1 => ∃ d o L, x = .ref d ∧ NF K w H1 d o L ∧ R (ItKN K w d o L) H1
theorem pi_keysN {X : Cx} {e tg : Expr} {td : TE} (he : PE X e td) : PI X tg e (iKeysN X.K X.w td) := by
  refine ⟨fun pins s σ H R I h => ?_⟩
  refine thn (he.run pins s σ H _ I h) fun u s1 ⟨x, H1, I1, rx, d, o, L, ex, hF, q⟩ => ?_
  subst ex
  obtain rfl : u = Value.ref d := rx
  obtain ⟨t1, t2, hs⟩ := hF.r.typeIs I1
  obtain ⟨hgd, es, ep, hdt, raw, hsz, _⟩ := hF.entries I1
  obtain ⟨o', ho', hx, _⟩ := id raw
  rw [hgd] at ho'
  cases ho'
  exact iter_keys hs hgd hx hdt (pi_one (tk := s1.toks) I1 _ (turn_keysN _ hdt hsz) ⟨_, Heap.get?_push_size _ rfl, rfl, rfl⟩ q)
theorem for_keysN {K : PySem.W.Frag} {w : World} {d : Addr} {o : Obj} {L : List (Pr × V)} {g : TG} {tb : TS} {D : Ends} {σ : L2.St} {H : Hp} (Pv : Nat → L2.St → Hp → Prop) (h0 : Pv 0 σ H) (hl : ∀ i σ H, i ≤ L.length → Pv i σ H → NF K w H d o L)
    (hs : ∀ i k v σ H b, L[i]? = some (k, v) → Pv i σ H → ProdAt K H b k → g (.ref b) σ H fun σ2 H2 => tb { D with nx := Pv (i + 1), ct := Pv (i + 1), bk := D.nx } σ2 H2) (hd : ∀ σ H, Pv L.length σ H → D.nx σ H) :
    ∃ W : Nat → Nat → L2.St → Hp → Prop, (∃ m, W 0 m σ H) ∧ ∀ i m σ H, W i m σ H → ((ItKN K w d o L).stop i H ∧ D.nx σ H) ∨ ((ItKN K w d o L).go i H ∧ ∃ N : L2.St → Hp → Prop, (∀ σ' H', N σ' H' → ∃ m', m' < m ∧ W (i + 1) m' σ' H') ∧
      ∀ x H', (ItKN K w d o L).yld i H x H' → g x σ H' fun σ2 H2 => tb { D with nx := N, ct := N, bk := D.nx } σ2 H2) := by
  refine ⟨fun i m σ H => m = L.length - i ∧ i ≤ L.length ∧ Pv i σ H, ⟨_, rfl, Nat.zero_le _, h0⟩, fun i m σ H ⟨em, hi, p⟩ => ?_⟩
  have F := hl i σ H hi p
  by_cases lt : i < L.length
  · refine .inr ⟨⟨F, lt⟩, Pv (i + 1), fun σ' H' p' => ⟨L.length - (i + 1), by omega, rfl, lt, p'⟩, fun x H' ⟨eH, k, v, b, hL, ex, hb⟩ => ?_⟩
    subst ex
    subst eH
    exact hs i k v σ _ b hL p hb
  · have e : i = L.length := by omega
    subst e
    exact .inl ⟨⟨F, Nat.le_refl _⟩, hd σ H p⟩
/-! ### sorted(d) of a dict whose keys are numbers -/
def rSortDI : List V → Hp → VK → Prop := fun vs H Q => ∃ (a : Addr) (kvs : List (L2.Key × V)) (ns : List Int), vs = [.ref a] ∧ H a = some (.dK kvs) ∧ kvs.map (·.1) = ns.map Sum.inl ∧
  ∀ (ns' : List Int) (p : Addr), ns'.Perm ns → ns'.Pairwise (· ≤ ·) → H p = none → Q (.ref p) (upd H p (.lst (ns'.map V.int)))
theorem ints_at : ∀ {vs : List Value} {ns : List Int}, vs.length = ns.length → (∀ (j : Nat) (v : Value) (n : Int), vs[j]? = some v → ns[j]? = some n → ∃ t, v = .int n t) → IntsAre vs ns
  | [], [], _, _ => .nil
  | [], _ :: _, h, _ => by simp at h
  | _ :: _, [], h, _ => by simp at h
  | v :: vs, n :: ns, h, f => by
    obtain ⟨t, e⟩ := f 0 v n rfl rfl
    subst e
    exact .cons n t (ints_at (by simpa using h) fun j x m h1 h2 => f (j + 1) x m (by simpa using h1) (by simpa using h2))
theorem cr_sortedDI {X : Cx} (hc : X.calm = true) : CallR X (.builtin "sorted") rSortDI := by
  intro pins s σ H xs us Q I r h
  obtain ⟨a, kvs, ns, rfl, ha, ek, q⟩ := h
  obtain rfl := Vals.ref1 r
  obtain ⟨z, lo, vs, rk, hd⟩ := dk_of I.hok ha
  obtain ⟨ep, hat⟩ := hd.dictAt
  have hl : kvs.length = vs.length := Paired.length rk
  have hln : ns.length = kvs.length := by
    have := congrArg List.length ek
    rw [List.length_map, List.length_map] at this
    exact this.symm
  refine Calls.call_function_entry kind_sorted plain_sorted entry_sorted (args_sorted1 _) ?_
  unfold Builtin.«sorted»
  refine wpAny_bind (m := checkCount "sorted" 1 1 _) (wpAny_pure ?_)
  refine wpAny_bind (PySem.W.kdu_collect (A := X.A.in1) (PySem.W.kdl_dict (knd := mixKind X.prog X.w) (kvs := vs) (ep := ep) lo) (I.ok.hd hc) hat (by rw [← hl]; exact z) fun h' tk acc hk hacc => ?_)
  have la : acc.toList.length = vs.length := by rw [Array.length_toList]; exact hacc.1
  have hI : IntsAre acc.toList ns := by
    refine ints_at (by omega) fun j v n h1 h2 => ?_
    obtain ⟨k, x, hky, hi⟩ := hacc.2 j v (by rw [← Array.getElem?_toList]; exact h1)
    have e1 : (kvs.map (·.1))[j]? = some k := by rw [KV.keys rk, List.getElem?_map, hky]; rfl
    rw [ek, List.getElem?_map, h2] at e1
    have e2 : Sum.inl n = k := Option.some.inj e1
    rw [← e2] at hi
    rcases keyIs_shape (k := (Sum.inl n : L2.Key)) hi with ⟨i, t, y, e3⟩ | ⟨_, _, y, _⟩
    · cases y
      exact ⟨t, e3⟩
    · cases y
  have hsz : acc.toList.length ≤ sizeLine := by rw [la, ← hl]; exact z
  refine wpAny_bind (wpAny_newList ?_ hsz)
  have hob : (h'.push { cls := .type "list", data := .seq acc.toList.toArray }).get? h'.objs.size = some (seqObj "list" acc.toList.toArray 0) := Heap.get?_push_size _ rfl
  have kb : ∀ b o, s.heap.get? b = some o → (h'.push { cls := .type "list", data := .seq acc.toList.toArray }).get? b = some o := fun b o e => Heap.get?_push_of_some _ (hk b o e)
  refine wpAny_bind (wpAny_holding (wpAny_call_entry PyProof.Rows.slot_list_sort ⟨_, hob, rfl⟩ PyProof.Rows.entry_list_sort
    (SrtO.list_sort_ord SrtO.swo_int hob hsz (fun h2 => SrtO.ints_sortable hI h2) fun out h1 h2 => ⟨.none, rfl, ?_⟩) (PyProof.Rows.args_list_sort _)))
  obtain ⟨k1, k2, k3⟩ := SrtO.ints_out hI h1 h2
  obtain ⟨eF, heF⟩ := PyProof.Rows.sortedHeap_at (vs := acc.toList) (out := out.toArray) hob
  have hlen : ((out.map SrtO.iv).map V.int).length ≤ sizeLine := by
    rw [List.length_map, k2.length_eq, hln]
    exact z
  have I' : Inv X pins σ H { s with heap := h', toks := tk } := I.kept (t' := tk) hk
  have kF : ∀ b o, h'.get? b = some o → (sortedHeap (h'.push { cls := .type "list", data := .seq acc.toList.toArray }) h'.objs.size acc.toList out.toArray).get? b = some o := fun b o e =>
    (PyProof.Rows.sortedHeap_old (Nat.ne_of_lt (Heap.lt_size e)) (Heap.lt_size (Heap.get?_push_of_some _ e))).trans (Heap.get?_push_of_some _ e)
  refine wpAny_pure ⟨_, rfl, .ref h'.objs.size, upd H h'.objs.size (.lst ((out.map SrtO.iv).map V.int)), I'.laid (t' := tk) kF (Nat.le_refl _) ⟨hlen, out, eF, vals_of_ints k1, heF⟩, rfl, q _ _ k2 k3 (I'.hok.fresh (Nat.le_refl _))⟩
/-! ### max of a list, with a default -/
theorem mx_args (y d : Value) : argsOk "max" ⟨[y], [("default", d)]⟩ := by unfold argsOk; kernel_rfl
section
variable {pg : Program} {wd : World} {Ar : Around} {Rs : Result → Shared → Prop} {It : Addr} {fo wo : List Addr} {sz : Nat} {Pv : Nat → Value → Prop} {Sv : Nat → Heap → Prop}
theorem mx_loop (d : Value) (Wk : Walks pg wd Ar.in1 It fo wo sz Pv Sv) (gr : Nat → Nat → Bool) (cm : CmpOf pg wd Ar.in1 .Gt Pv gr) (B : Addr) (nB : B ∉ fo) :
    ∀ (r j : Nat) (σ : Shared) (u : Value) (e : Nat), sz - (j + 1) = r → j + 1 ≤ sz → Sv (j + 1) σ.heap → Pv (argBest gr j) u →
    σ.heap.get? B = some { cls := .type "list", dict := none, data := .seq #[u, u] e, slots := #[] } →
    (∀ v h' tk, Pv (argBest gr (sz - 1)) v → (∀ b o, b ∉ wo → b ≠ B → σ.heap.get? b = some o → h'.get? b = some o) → Rs (.ok (.ret v)) { σ with heap := h', toks := tk }) →
    codeAny (model pg wd) Ar (.builtin "max.loop" ⟨[.ref It, .none, .ref B], [("default", d)]⟩) Rs σ := by
  have nBw : B ∉ wo := fun z => nB (Wk.sub _ z)
  have nm : (toString "max" ++ toString ".loop" : String) = "max.loop" := by decide
  intro r
  induction r with
  | zero =>
    intro j σ u e hr hj hst hu hB fin
    have last : j + 1 = sz := by omega
    refine codeAny_builtin F.entry_max_loop ?_
    rw [Around.under_plainId F.plain_max_loop _]
    show wpAny _ Ar.in1 (seqItems? (.ref B) >>= _) _ _ σ
    refine wpAny_bind (wpAny_seqItems hB rfl ?_)
    show wpAny _ Ar.in1 (tryCatch (pyNext (.ref It)) _ >>= _) _ _ σ
    refine wpAny_bind (wpAny_tryCatch (Wk.done σ _ _ (last ▸ hst) fun h1 t1 kept => ?_))
    have hB1 := kept B _ nBw hB
    show wpAny _ Ar.in1 (updateSeq B (fun _ => #[]) >>= _) _ _ _
    refine wpAny_bind ?_
    refine wpAny_updateSeq hB1 rfl (wpAny_bind (wpAny_letGo (wpAny_pure ?_)))
    refine fin u _ t1 (by rw [← last]; exact hu) fun b o nw nb eb => ?_
    exact (Heap.get?_update_other _ _ (Ne.symm nb)).trans (kept b o nw eb)
  | succ r ih =>
    intro j σ u e hr hj hst hu hB fin
    have more : j + 1 < sz := by omega
    refine codeAny_builtin F.entry_max_loop ?_
    rw [Around.under_plainId F.plain_max_loop _]
    show wpAny _ Ar.in1 (seqItems? (.ref B) >>= _) _ _ σ
    refine wpAny_bind (wpAny_seqItems hB rfl ?_)
    show wpAny _ Ar.in1 (tryCatch (pyNext (.ref It)) _ >>= _) _ _ σ
    refine wpAny_bind (wpAny_tryCatch (Wk.item (j + 1) σ _ _ more hst fun v h1 t1 hv st1 kept => ?_))
    have hB1 := kept B _ nBw hB
    show wpAny _ Ar.in1 (tryCatch (holding [v, v] (richCompare .Gt v u >>= _)) _ >>= _) _ _ _
    refine wpAny_bind (wpAny_tryCatch (wpAny_holding (wpAny_bind (cm (j + 1) (argBest gr j) v u _ _ _ hv hu ?_))))
    refine wpAny_bind (wpAny_holding (wpAny_truthy_bool ?_))
    refine wpAny_bind (wpAny_letGo (wpAny_pure ?_))
    cases best : gr (j + 1) (argBest gr j) with
    | true =>
      simp only [if_true]
      refine wpAny_bind ?_
      refine wpAny_updateSeq hB1 rfl (wpAny_bind (wpAny_letGo ?_))
      rw [nm]
      refine wpAny_pure ⟨plainId_quiet F.plain_max_loop _, ih (j + 1) _ v _ (by omega) more (Wk.frame _ _ _ st1 fun b hf o eb => ?_) (by simp only [argBest, best, if_true]; exact hv) (Heap.get?_update_self _ hB1 rfl) fun v2 h2 t2 hv2 kept2 => ?_⟩
      · exact (Heap.get?_update_other _ _ (fun z : B = b => nB (by rw [z]; exact hf))).trans eb
      · exact fin v2 h2 t2 hv2 fun b o nw nb eb => kept2 b o nw nb ((Heap.get?_update_other _ _ (Ne.symm nb)).trans (kept b o nw eb))
    | false =>
      simp only [Bool.false_eq_true, if_false]
      refine wpAny_bind (wpAny_letGo ?_)
      rw [nm]
      refine wpAny_pure ⟨plainId_quiet F.plain_max_loop _, ih (j + 1) _ u e (by omega) more st1 (by simp only [argBest, best, Bool.false_eq_true, if_false]; exact hu) hB1 fun v2 h2 t2 hv2 kept2 => ?_⟩
      exact fin v2 h2 t2 hv2 fun b o nw nb eb => kept2 b o nw nb (kept b o nw eb)
theorem mx_first (d : Value) (Wk : Walks pg wd Ar.in1 It fo wo sz Pv Sv) (gr : Nat → Nat → Bool) (cm : CmpOf pg wd Ar.in1 .Gt Pv gr) (B : Addr) (nB : B ∉ fo) {σ : Shared} {e : Nat} (hst : Sv 0 σ.heap)
    (hB : σ.heap.get? B = some { cls := .type "list", dict := none, data := .seq #[] e, slots := #[] })
    (fin : ∀ v h' tk, (0 < sz ∧ Pv (argBest gr (sz - 1)) v ∨ sz = 0 ∧ v = d) → (∀ b o, b ∉ wo → b ≠ B → σ.heap.get? b = some o → h'.get? b = some o) → Rs (.ok (.ret v)) { σ with heap := h', toks := tk }) :
    codeAny (model pg wd) Ar (.builtin "max.loop" ⟨[.ref It, .none, .ref B], [("default", d)]⟩) Rs σ := by
  have nBw : B ∉ wo := fun z => nB (Wk.sub _ z)
  have nm : (toString "max" ++ toString ".loop" : String) = "max.loop" := by decide
  refine codeAny_builtin F.entry_max_loop ?_
  rw [Around.under_plainId F.plain_max_loop _]
  show wpAny _ Ar.in1 (seqItems? (.ref B) >>= _) _ _ σ
  refine wpAny_bind (wpAny_seqItems hB rfl ?_)
  show wpAny _ Ar.in1 (tryCatch (pyNext (.ref It)) _ >>= _) _ _ σ
  by_cases ne : 0 < sz
  · refine wpAny_bind (wpAny_tryCatch (Wk.item 0 σ _ _ ne hst fun v h1 t1 hv st1 kept => ?_))
    have hB1 := kept B _ nBw hB
    show wpAny _ Ar.in1 (updateSeq B (fun _ => #[v, v]) >>= _) _ _ _
    refine wpAny_bind ?_
    refine wpAny_updateSeq hB1 rfl ?_
    rw [nm]
    refine wpAny_pure ⟨plainId_quiet F.plain_max_loop _, mx_loop d Wk gr cm B nB _ 0 _ v _ rfl ne (Wk.frame _ _ _ st1 fun b hf o eb => ?_) hv (Heap.get?_update_self _ hB1 rfl) fun v2 h2 t2 hv2 kept2 => ?_⟩
    · exact (Heap.get?_update_other _ _ (fun z : B = b => nB (by rw [z]; exact hf))).trans eb
    · exact fin v2 h2 t2 (.inl ⟨ne, hv2⟩) fun b o nw nb eb => kept2 b o nw nb ((Heap.get?_update_other _ _ (Ne.symm nb)).trans (kept b o nw eb))
  · have s0 : sz = 0 := by omega
    refine wpAny_bind (wpAny_tryCatch (Wk.done σ _ _ (s0 ▸ hst) fun h1 t1 kept => ?_))
    refine wpAny_bind (wpAny_rule ?_)
    exact wpAny_pure (fin d _ t1 (.inr ⟨s0, rfl⟩) fun b o nw nb eb => kept b o nw eb)
end
section
variable {pg : Program} {wd : World} {Ar : Around} {E : Value → Shared → Prop} {σ : Shared} {Q : Value → Shared → Prop}
theorem mx_list {d : Value} {l : Addr} {vs : Array (Int × Tok)} (hh : Ar.handled = none) (hl : σ.heap.IsList l (intItems vs))
    (fin : ∀ v h' tk, (0 < vs.size ∧ (intItems vs)[argBest (fun i j => decide (numAt vs i > numAt vs j)) (vs.size - 1)]? = some v ∨ vs.size = 0 ∧ v = d) → (∀ b o, σ.heap.get? b = some o → h'.get? b = some o) → Q v { σ with heap := h', toks := tk }) :
    wpAny (model pg wd) Ar (call (.builtin "max") [.ref l] [("default", d)]) Q E σ := by
  have nm : (toString "max" ++ toString ".loop" : String) = "max.loop" := by decide
  refine kmk_tree F.kind_max F.plain_max F.entry_max (mx_args _ _) ?_
  show wpAny _ Ar.in1 (Builtin.Builtins.bindParams "max" ["key", "default"] 0 ⟨[], [("default", d)]⟩ >>= _) _ _ σ
  refine wpAny_bind (wpAny_of_eq (show Builtin.Builtins.bindParams "max" ["key", "default"] 0 ⟨[], [("default", d)]⟩ = pure [none, some d] from rfl) ?_)
  refine wpAny_bind (wpAny_pure ?_)
  refine wpAny_bind (iter_intList hl fun s2 e2 st fo lI => ?_)
  have szI : (intItems vs).size = vs.size := by simp [intItems]
  refine wpAny_bind (wpAny_newObj_type ?_)
  rw [nm]
  have W := Walks.list (prog := pg) (w := wd) (A := Ar.in1) hh σ.heap.objs.size l lI (intItems vs)
  have nB : s2.heap.objs.size ∉ [σ.heap.objs.size, l] := fun z => Nat.lt_irrefl _ (fo _ z)
  refine wpAny_pure ⟨plainId_quiet F.plain_max_loop _, mx_first d W _ (CmpOf.ints_gt (numAt vs) (fun _ _ => intItems_at)) s2.heap.objs.size nB (W.frame _ _ _ st fun b _ o eb => Heap.get?_push_of_some _ eb) (Heap.get?_push_size _ rfl) fun v h1 t1 hv kept => ?_⟩
  subst e2
  refine fin v h1 t1 (by rw [szI] at hv; exact hv) fun b o eb => ?_
  have lt := Heap.lt_size eb
  exact kept b o (fun z => Nat.ne_of_lt lt (List.mem_singleton.mp z)) (Nat.ne_of_lt (by rw [Heap.size_push]; exact Nat.lt_succ_of_lt lt)) (Heap.get?_push_of_some _ (Heap.get?_push_of_some _ eb))
end
theorem mx_raw {pg : Program} {wd : World} {Ar : Around} {E : Value → Shared → Prop} {σ : Shared} {Q : Value → Shared → Prop} {d : Value} {l : Addr} {its : List Value} {ns : List Int} (hh : Ar.handled = none) (hl : σ.heap.IsList l its.toArray) (hi : IntsAre its ns)
    (fin : ∀ v h' tk, (∀ b o, σ.heap.get? b = some o → h'.get? b = some o) → (∃ M t, v = .int M t ∧ M ∈ ns ∧ ∀ a, a ∈ ns → a ≤ M) ∨ (ns = [] ∧ v = d) → Q v { σ with heap := h', toks := tk }) : wpAny (model pg wd) Ar (call (.builtin "max") [.ref l] [("default", d)]) Q E σ := by
  obtain ⟨xs, ex⟩ := hi.allInts.items
  have en : numsOf (intItems xs).toList = ns := by
    rw [← ex]
    exact hi.numsOf
  rw [nums_intItems] at en
  subst en
  rw [ex] at hl
  refine mx_list hh hl fun v h1 t1 hv kept => fin v h1 t1 kept ?_
  rcases hv with ⟨ne, hv⟩ | ⟨z, rfl⟩
  · obtain ⟨t, rfl⟩ := intItems_at hv
    obtain ⟨b1, b2⟩ := argBest_gt (numAt xs) (xs.size - 1)
    refine .inl ⟨_, t, rfl, ?_, fun a ha => ?_⟩
    · rw [numAt_eq]
      exact getD_mem (by rw [List.length_map, Array.length_toList]; omega)
    · obtain ⟨j, hj, rfl⟩ := mem_getD ha
      rw [List.length_map, Array.length_toList] at hj
      rw [← numAt_eq]
      exact b2 j (by omega)
  · refine .inr ⟨?_, rfl⟩
    rw [List.map_eq_nil_iff, ← List.length_eq_zero_iff, Array.length_toList]
    exact z
def rMaxD (K : PySem.W.Frag) : List V → List V → Hp → VK → Prop := fun vs zs H Q => ∃ (a : Addr) (ns : List Int) (d : Int), vs = [V.ref a] ∧ zs = [.int d] ∧ SqL K H a (ns.map V.int) ∧ ∀ m, (m ∈ ns ∧ ∀ a ∈ ns, a ≤ m) ∨ (ns = [] ∧ m = d) → Q (.int m) H
theorem cr_maxD {X : Cx} (hc : X.calm = true) : CallRK X (.builtin "max") [Str.ofString "default"] (rMaxD X.K) := by
  intro pins s σ H vs zs us ws Q I r rz h
  obtain ⟨a, ns, d, rfl, rfl, hs, q⟩ := h
  obtain ⟨its, rv, hl, _⟩ := I.list hs
  obtain rfl := Vals.ref1 r
  obtain ⟨w1, rfl, t0, rfl⟩ := vals1 rz
  refine mx_raw (d := .int d t0) (I.ok.hd hc) hl.isList rv.ints fun v h1 t1 kept hv => ?_
  rcases hv with ⟨M, t, rfl, h1, h2⟩ | ⟨h1, rfl⟩
  · exact ⟨.int _, H, I.kept kept, ⟨_, rfl⟩, q M (.inl ⟨h1, h2⟩)⟩
  · exact ⟨.int _, H, I.kept kept, ⟨_, rfl⟩, q d (.inr ⟨h1, rfl⟩)⟩
/-! ### a number raised, by squaring -/
theorem natAbs_pow (a : Int) : ∀ k : Nat, (a ^ k).natAbs = a.natAbs ^ k
  | 0 => by rw [Int.pow_zero, Nat.pow_zero]; rfl
  | k + 1 => by rw [Int.pow_succ, Int.natAbs_mul, natAbs_pow a k, Nat.pow_succ]
/-- how great, 1 at the least -/
def bg (x : Int) : Nat := max 1 x.natAbs
theorem bg_pos (x : Int) : 1 ≤ bg x := Nat.le_max_left ..
theorem bg_le (x : Int) : x.natAbs ≤ bg x := Nat.le_max_right ..
theorem bg_mul (x y : Int) : bg (x * y) ≤ bg x * bg y := by
  have a := Nat.mul_le_mul (bg_le x) (bg_le y)
  have b := Nat.mul_le_mul (bg_pos x) (bg_pos y)
  unfold bg at *
  rw [Int.natAbs_mul]
  omega
/-- what holds between the turns: r, the square q and what is left l -/
structure RaiseOk (a k r q l : Int) : Prop where
  val : r * q ^ l.toNat = a ^ k.toNat
  sz : bg q ^ l.toNat * bg r ≤ bg a ^ k.toNat
  lk : l ≤ k
theorem RaiseOk.first (a k : Int) : RaiseOk a k 1 a k := ⟨by rw [Int.one_mul], by show bg a ^ k.toNat * 1 ≤ _; omega, Int.le_refl k⟩
theorem RaiseOk.r_le {a k r q l : Int} (h : RaiseOk a k r q l) : r.natAbs ≤ bg a ^ k.toNat :=
  Nat.le_trans (bg_le r) (Nat.le_trans (Nat.le_mul_of_pos_left _ (Nat.pow_pos (bg_pos q))) h.sz)
theorem RaiseOk.q_le {a k r q l : Int} (h : RaiseOk a k r q l) (hl : 0 < l) : q.natAbs ≤ bg a ^ k.toNat := by
  have e : bg q ^ 1 ≤ bg q ^ l.toNat := Nat.pow_le_pow_right (bg_pos q) (by omega)
  rw [Nat.pow_one] at e
  exact Nat.le_trans (bg_le q) (Nat.le_trans e (Nat.le_trans (Nat.le_mul_of_pos_right _ (bg_pos r)) h.sz))
/-- one is taken into r -/
theorem RaiseOk.odd {a k r q l : Int} (h : RaiseOk a k r q l) (hl : 0 < l) : RaiseOk a k (r * q) q (l - 1) := by
  have e : l.toNat = (l - 1).toNat + 1 := by omega
  refine ⟨?_, ?_, by have := h.lk; omega⟩
  · rw [← h.val, e, Int.pow_succ, Int.mul_assoc, Int.mul_comm q]
  · refine Nat.le_trans (Nat.mul_le_mul_left _ (bg_mul r q)) ?_
    have z := h.sz
    rw [e, Nat.pow_succ] at z
    have e2 : bg q ^ (l - 1).toNat * (bg r * bg q) = bg q ^ (l - 1).toNat * bg q * bg r := by
      rw [Nat.mul_assoc, Nat.mul_comm (bg r)]
    omega
/-- the half of an even rest -/
theorem RaiseOk.half {a k r q m : Int} (h : RaiseOk a k r q (2 * m)) (hm : 0 ≤ m) : RaiseOk a k r (q * q) m := by
  have e : (2 * m).toNat = m.toNat + m.toNat := by omega
  have pp : (q * q) ^ m.toNat = q ^ m.toNat * q ^ m.toNat := Int.mul_pow ..
  refine ⟨?_, ?_, by have := h.lk; omega⟩
  · rw [← h.val, e, Int.pow_add, pp]
  · have z := h.sz
    rw [e, Nat.pow_add] at z
    have y : bg (q * q) ^ m.toNat ≤ bg q ^ m.toNat * bg q ^ m.toNat := by
      rw [← Nat.mul_pow]
      exact Nat.pow_le_pow_left (bg_mul q q) _
    exact Nat.le_trans (Nat.mul_le_mul_right _ y) z
theorem RaiseOk.none {a k r q : Int} (h : RaiseOk a k r q 0) (q' : Int) : RaiseOk a k r q' 0 := ⟨by have z := h.val; rw [show (0 : Int).toNat = 0 from rfl, Int.pow_zero] at z ⊢; exact z, by have z := h.sz; rw [show (0 : Int).toNat = 0 from rfl, Nat.pow_zero] at z ⊢; exact z, h.lk⟩
section
variable {P : Program} {w : World} {K : PySem.W.Frag} {mg : Str → Option Value} {base : Heap} {C : Addr}
def muL (σ : L2.St) : Nat := match σ[4]? with
  | some (some (V.int l)) => l.toNat
  | _ => 0
def spRaised : Sp := fun vs H Q _ => ∃ (a k : Int), vs = [.int a, .int k] ∧ bg a ^ k.toNat < big ∧ -(2 ^ 62) ≤ k ∧ k < 2 ^ 62 ∧ Q (.int (a ^ k.toNat)) H
theorem ok_number_raised {f : Addr} {fd : FuncData} (T : Txt K mg C) (F : DefAt K mg "_number_raised" "_number_raised" s_number_raised ["number", "power"] f fd) : FnOk P w K mg base CX0 1 f fd ["number", "power"] spRaised := by
  refine F.F.ok sc_number_raised (fun vs H Q E h => ?_) (fun cdv A outer s H vs Q E hr h => ?_)
  · obtain ⟨a, k, rfl, _⟩ := h
    rfl
  · obtain ⟨a, k, rfl, hb, h1, h2, q⟩ := h
    refine ⟨_, (pss_cons (ps_set (i := 2) sc_number_raised.nd rfl (.inl rfl) pe_int)
      (pss_cons (ps_set (i := 3) sc_number_raised.nd rfl (.inl rfl) (pv 0))
      (pss_cons (ps_set (i := 4) sc_number_raised.nd rfl (.inl rfl) (pv 1))
      (pss_cons (ps_while PassesOwn.never (pt_cmpR op_gt (pv 4) pe_int (nomark _)) (pss_cons (ps_if (pt_cmpR op_eq (pe_op op_mod (pv 4) pe_int) pe_int (nomark _)) (pss_one (ps_set (i := 2) sc_number_raised.nd rfl (.inl rfl) (pe_op op_mulW (pv 2) (pv 3)))) pss_nil) (pss_cons (ps_set (i := 4) sc_number_raised.nd rfl (.inl rfl) (pe_op op_fdiv (pv 4) pe_int)) (pss_one (ps_if (pt_cmpR op_gt (pv 4) pe_int (nomark _)) (pss_one (ps_set (i := 3) sc_number_raised.nd rfl (.inl rfl) (pe_op op_mulW (pv 3) (pv 3)))) pss_nil)))))
      (pss_one (ps_ret (pv 2))))))), ?_⟩
    refine ⟨_, rfl, _, rfl, while_by (fun σ H3 => ∃ r q l : Int, σ = [some (.int a), some (.int k), some (.int r), some (.int q), some (.int l)] ∧ H3 = H ∧ RaiseOk a k r q l) (fun σ _ => muL σ) ⟨1, a, k, rfl, rfl, .first a k⟩ ?_ ?_⟩
    · rintro σ H3 ⟨r, sq, l, rfl, rfl, ok⟩
      have kb : k.natAbs < 2 ^ 63 := by omega
      have rb := Nat.lt_of_le_of_lt ok.r_le hb
      refine ⟨_, rfl, _, _, rfl, rfl, _, rfl, ite2 (fun c => ?_) (fun c => ?_)⟩
      · have lp : 0 < l := by simpa using c
        have sqb := Nat.lt_of_le_of_lt (ok.q_le lp) hb
        have eM : l = 2 * (l / 2) + l % 2 := by omega
        have fin : ∀ r', RaiseOk a k r' sq (2 * (l / 2)) → (tSeq (tAsg (tOp (rI CDiv fun i j => V.int (i / j)) (tVar 4) (tC (V.int 2))) (gName 4))
            (tIfS (tTest (tOp (rI0 fun i j => V.bl (decide (j < i))) (tVar 4) (tC (V.int 0)))) (tAsg (tOp (rI CMulW fun i j => V.int (i * j)) (tVar 3) (tVar 3)) (gName 3)) tNext)) { nx := fun σ' H' => (∃ r q l, σ' = [some (V.int a), some (V.int k), some (V.int r), some (V.int q), some (V.int l)] ∧ H' = H3 ∧ RaiseOk a k r q l) ∧ muL σ' < l.toNat, rt := Q, bk := tRet (tVar 2) { nx := fun x H' => Q V.non H', rt := Q }, ct := fun σ' H' => (∃ r q l, σ' = [some (V.int a), some (V.int k), some (V.int r), some (V.int q), some (V.int l)] ∧ H' = H3 ∧ RaiseOk a k r q l) ∧ muL σ' < l.toNat }
            [some (V.int a), some (V.int k), some (V.int r'), some (V.int sq), some (V.int l)] H3 := by
          intro r' ok'
          have lt : (l / 2).toNat < l.toNat := by omega
          refine ⟨_, rfl, _, _, rfl, rfl, ⟨by decide, by decide⟩, _, rfl, _, _, rfl, rfl, _, rfl, ite2 (fun c2 => ?_) (fun c2 => ?_)⟩
          · exact ⟨_, rfl, _, rfl, _, _, rfl, rfl, mulOk (a := 4000) (b := 4000) sqb sqb (by decide) (by decide) (by decide), ⟨r', sq * sq, l / 2, rfl, rfl, ok'.half (by omega)⟩, lt⟩
          · have z : l / 2 = 0 := by
              have : ¬ 0 < l / 2 := by simpa using c2
              omega
            refine ⟨⟨r', sq, l / 2, rfl, rfl, ?_⟩, lt⟩
            rw [z] at ok' ⊢
            exact ok'
        refine ⟨_, rfl, _, _, rfl, rfl, (show (0 : Int) < 2 by decide), rfl, _, rfl, ite2 (fun c2 => ?_) (fun c2 => ?_)⟩
        · have o1 : l % 2 = 1 := by simpa using c2
          refine ⟨_, rfl, _, rfl, _, _, rfl, rfl, mulOk (a := 4000) (b := 4000) rb sqb (by decide) (by decide) (by decide), ?_⟩
          have e2 : l - 1 = 2 * (l / 2) := by omega
          have z := ok.odd lp
          rw [e2] at z
          exact fin _ z
        · have o1 : ¬ l % 2 = 1 := by simpa using c2
          have e2 : l = 2 * (l / 2) := by omega
          exact fin _ (by rw [← e2]; exact ok)
      · have l0 : l.toNat = 0 := by
          have : ¬ 0 < l := by simpa using c
          omega
        have v := ok.val
        rw [l0, Int.pow_zero, Int.mul_one] at v
        rw [← v] at q
        exact ⟨_, rfl, q⟩
    · exact fun σ H Q Q' h ⟨x, ex, i, j, e1, e2, b, eb, qb⟩ => ⟨x, ex, i, j, e1, e2, b, eb, h _ _ qb⟩
end
/-! ### what a sum tells at a point -/
theorem max1_pow {a : Nat} {j k : Nat} (h : j ≤ k) : a ^ j ≤ (max 1 a) ^ k :=
  Nat.le_trans (Nat.pow_le_pow_left (Nat.le_max_right 1 a) j) (Nat.pow_le_pow_right (Nat.le_trans (Nat.le_refl 1) (Nat.le_max_left 1 a)) h)
def evalI (v : Str → Int) : Pr → Int
  | [] => 1
  | e :: r => v e.1 ^ e.2.toNat * evalI v r
def evalB (v : Str → Int) : Pr → Nat
  | [] => 1
  | e :: r => (max 1 (v e.1).natAbs) ^ e.2.toNat * evalB v r
theorem evalI_append (v : Str → Int) (p q : Pr) : evalI v (p ++ q) = evalI v p * evalI v q := by
  induction p with
  | nil => exact (Int.one_mul _).symm
  | cons e r ih =>
    show v e.1 ^ e.2.toNat * evalI v (r ++ q) = v e.1 ^ e.2.toNat * evalI v r * evalI v q
    rw [ih, Int.mul_assoc]
theorem evalB_append (v : Str → Int) (p q : Pr) : evalB v (p ++ q) = evalB v p * evalB v q := by
  induction p with
  | nil => exact (Nat.one_mul _).symm
  | cons e r ih =>
    show (max 1 (v e.1).natAbs) ^ e.2.toNat * evalB v (r ++ q) = (max 1 (v e.1).natAbs) ^ e.2.toNat * evalB v r * evalB v q
    rw [ih, Nat.mul_assoc]
theorem evalB_pos (v : Str → Int) (p : Pr) : 1 ≤ evalB v p := by
  induction p with
  | nil => exact Nat.le_refl 1
  | cons e r ih => exact Nat.mul_le_mul (Nat.one_le_pow _ _ (Nat.lt_of_lt_of_le Nat.one_pos (Nat.le_max_left 1 _))) ih
theorem evalI_le (v : Str → Int) (p : Pr) : (evalI v p).natAbs ≤ evalB v p := by
  induction p with
  | nil => exact Nat.le_refl 1
  | cons e r ih =>
    show (v e.1 ^ e.2.toNat * evalI v r).natAbs ≤ _
    rw [Int.natAbs_mul, natAbs_pow]
    exact Nat.mul_le_mul (max1_pow (Nat.le_refl _)) ih
theorem evalB_take (v : Str → Int) (p : Pr) (i : Nat) : evalB v (p.take i) ≤ evalB v p := by
  conv => rhs; rw [← List.take_append_drop i p, evalB_append]
  exact Nat.le_mul_of_pos_right _ (evalB_pos v _)
theorem evalB_one (v : Str → Int) {p : Pr} {e : Str × Int} (h : e ∈ p) : (max 1 (v e.1).natAbs) ^ e.2.toNat ≤ evalB v p := by
  induction p with
  | nil => cases h
  | cons f r ih =>
    rcases List.mem_cons.mp h with z | z
    · subst z
      exact Nat.le_mul_of_pos_right _ (evalB_pos v r)
    · exact Nat.le_trans (ih z) (Nat.le_mul_of_pos_left _ (Nat.one_le_pow _ _ (Nat.lt_of_lt_of_le Nat.one_pos (Nat.le_max_left 1 _))))
theorem evalI_take (v : Str → Int) {p : Pr} {i : Nat} {e : Str × Int} (h : p[i]? = some e) : evalI v (p.take (i + 1)) = evalI v (p.take i) * v e.1 ^ e.2.toNat := by
  rw [List.take_add_one, h, evalI_append]
  show _ * (v e.1 ^ e.2.toNat * 1) = _
  rw [Int.mul_one]
theorem lin_take (f : Pr → Rat) {M : Poly} {i : Nat} {x : Pr × Rat} (h : M[i]? = some x) : lin f (M.take (i + 1)) = lin f (M.take i) + x.2 * f x.1 := by
  rw [List.take_add_one, h, lin_append]
  show _ + (x.2 * f x.1 + 0) = _
  rw [Rat.add_zero]
theorem Whole.int {D : Nat} {r : Rat} (h : Whole D r) (n : Int) : Whole D (r * (n : Rat)) ∧ mag D (r * (n : Rat)) = mag D r * n.natAbs := by
  have a := h.mul (whole_int n).1
  rw [(whole_int n).2, Nat.mul_one] at a
  exact a
theorem lin_size {D V : Nat} (v : Str → Int) : ∀ {M : Poly}, AllWhole D M → (∀ x ∈ M, evalB v x.1 ≤ V) → Whole D (lin (fun p => (evalI v p : Rat)) M) ∧ mag D (lin (fun p => (evalI v p : Rat)) M) ≤ szM D M * V
  | [], _, _ => by
    rw [lin_nil, mag_zero]
    exact ⟨.zero D, Nat.zero_le _⟩
  | x :: M, h, hV => by
    obtain ⟨a, b⟩ := lin_size v (M := M) (fun y hy => h y (by simp [hy])) fun y hy => hV y (by simp [hy])
    obtain ⟨c, d⟩ := (h x (by simp)).int (evalI v x.1)
    obtain ⟨e, f⟩ := c.add a
    rw [lin_cons]
    refine ⟨e, Nat.le_trans f ?_⟩
    rw [szM_cons, Nat.add_mul, d]
    exact Nat.add_le_add (Nat.mul_le_mul_left _ (Nat.le_trans (evalI_le v x.1) (hV x (by simp)))) b
section
variable {P : Program} {w : World} {K : PySem.W.Frag} {mg : Str → Option Value} {base : Heap} {C : Addr}
/-- the point L: names with their numbers, others 0 -/
def spWorth (K : PySem.W.Frag) (w : World) (C : Addr) : Sp := fun vs H Q _ => ∃ (p d : Addr) (M : Poly) (L : Pr) (A : Pr → Prop) (n D S V : Nat), vs = [.ref p, .ref d] ∧ SumAt K w C H p M ∧ H d = some (.dK (dSI L)) ∧ (L.map (·.1)).Nodup ∧ Fit A n D S M ∧ 0 < D ∧ D < big ∧ S < big ∧ V < big ∧ S * V < big ∧
  (∀ x ∈ M, evalB (expo L) x.1 ≤ V ∧ ∀ e ∈ x.1, -(2 ^ 62) ≤ e.2 ∧ e.2 < 2 ^ 62) ∧ ∀ t H', SqT K H' t (ratV (lin (fun p => (evalI (expo L) p : Rat)) M)) → Same H H' → Q (.ref t) H'
theorem ok_worth {f : Addr} {fd : FuncData} (T : Txt K mg C) (F : DefAt K mg "worth" "worth" s_worth ["given", "names"] f fd) : FnOk P w K mg base CX0 3 f fd ["given", "names"] (spWorth K w C) := by
  obtain ⟨f1, fd1, D_plus⟩ := T.d_plus
  have G_plus : FnOk P w K mg base CX0 2 f1 fd1 ["one", "other"] (spRat K (· + ·)) := ok_plus T D_plus
  obtain ⟨f3, fd3, D_times⟩ := T.d_times
  have G_times : FnOk P w K mg base CX0 2 f3 fd3 ["one", "other"] (spRat K (· * ·)) := ok_times T D_times
  obtain ⟨f4, fd4, D_number_raised⟩ := T.d_number_raised
  have G_number_raised : FnOk P w K mg base CX0 1 f4 fd4 ["number", "power"] spRaised := ok_number_raised T D_number_raised
  obtain ⟨aN, g_NOUGHT, tN⟩ := T.c_NOUGHT
  refine F.F.ok sc_worth (fun vs H Q E h => ?_) (fun cdv A outer s H vs Q E hr h => ?_)
  · obtain ⟨p, d, M, L, A, n, D, S, V, rfl, _⟩ := h
    rfl
  · obtain ⟨p, d, M, L, B, n, D, S, Z, rfl, ap, ed, nL, fM, hD, hd, hS, hV, hSV, hM, k⟩ := h
    obtain ⟨dx, d1, o1, L1, e1, n1, r1⟩ := id ap
    have l1 : L1.length = M.length := Paired.length r1
    refine ⟨_, (pss_cons (ps_set (i := 2) sc_worth.nd rfl (.inl rfl) (pe_glob (v := .ref aN) rfl g_NOUGHT rfl))
      (pss_cons (ps_for PassesOwn.never rfl (pi_itemsN (pe_fld (pv 0) rfl)) (pg_tup (by rfl) (pgs_cons (pg_name (i := 3) sc_worth.nd rfl (.inl rfl)) (pgs_cons (pg_name (i := 4) sc_worth.nd rfl (.inl rfl)) pgs_nil))) (pss_cons (ps_set (i := 5) sc_worth.nd rfl (.inl rfl) pe_int) (pss_cons (ps_for PassesOwn.never rfl (pi_tup (pv 3)) (pg_tup (by rfl) (pgs_cons (pg_name (i := 6) sc_worth.nd rfl (.inl rfl)) (pgs_cons (pg_name (i := 7) sc_worth.nd rfl (.inl rfl)) pgs_nil))) (pss_one (ps_set (i := 5) sc_worth.nd rfl (.inl rfl) (pe_op op_mulW (pv 5) (pe_call G_number_raised (hr.mono (by decide)) (by rfl) D_number_raised.g D_number_raised.F.kp D_number_raised.b .nil pass0 (pa_cons (pe_dget2 (room1 hr) (pv 1) (pv 6) pe_int ⟨rfl, rfl, rfl, rfl⟩) (pa_cons (pv 7) pa_nil))))))) (pss_one (ps_set (i := 2) sc_worth.nd rfl (.inl rfl) (pe_call G_plus (hr.mono (by decide)) (by rfl) D_plus.g D_plus.F.kp D_plus.b .nil pass0 (pa_cons (pv 2) (pa_cons (pe_call G_times (hr.mono (by decide)) (by rfl) D_times.g D_times.F.kp D_times.b .nil pass0 (pa_cons (pv 4) (pa_cons (pe_tup (pa_cons (pv 5) (pa_cons pe_int pa_nil))) pa_nil))) pa_nil))))))))
      (pss_one (ps_ret (pv 2))))), ?_⟩
    refine ⟨_, rfl, p, C, dx, _, _, rfl, e1, T.cl_Sum, T.n_Sum_parts, sumF_parts _, d1, o1, L1, rfl, n1, for_itemsN (fun i σ H3 => ∃ (t : Addr) (v3 v4 v5 v6 v7 : Option V), σ = [some (.ref p), some (.ref d), some (.ref t), v3, v4, v5, v6, v7] ∧ SqT K H3 t (ratV (lin (fun p => (evalI (expo L) p : Rat)) (M.take i))) ∧ Same H H3)
      ⟨aN, none, none, none, none, none, rfl, tN _, fun _ _ e => e⟩ (fun i σ H3 _ ⟨_, _, _, _, _, _, _, _, z⟩ => n1.stay (.same z) fun o e => z _ _ e) ?_ ?_⟩
    · rintro i kk v σ H3 Tt b hL ⟨t, v3, v4, v5, v6, v7, rfl, ht, s3⟩ nT hb
      obtain ⟨x, r, hMi, rfl, hq⟩ := r1.at_ hL
      have memM : (kk, r) ∈ M := List.mem_of_getElem? hMi
      obtain ⟨hk1, hk2⟩ := hM _ memM
      have sT : Same H3 (upd H3 Tt (.tup [.ref b, .ref x])) := same_upd nT
      refine ⟨Tt, [.ref b, .ref x], rfl, SqT.of upd_same, rfl, _, [.ref x], rfl, _, [], rfl, rfl, ?_⟩
      have s4 := s3.trans sT
      have hb4 : ProdAt K (upd H3 Tt (.tup [.ref b, .ref x])) b kk := hb.stay (.same sT)
      have ht4 : SqT K (upd H3 Tt (.tup [.ref b, .ref x])) t _ := SqT.keeps ht (TupsStay.same sT)
      generalize (upd H3 Tt (.tup [.ref b, .ref x])) = H4 at s4 hb4 ht4
      obtain ⟨qs, hqs, pqs⟩ := id hb4
      have lq : qs.length = kk.length := Paired.length pqs
      refine ⟨_, rfl, b, rfl, ⟨_, hqs⟩, for_tup (fun j σ H5 => ∃ (v6 v7 : Option V), σ = [some (.ref p), some (.ref d), some (.ref t), some (.ref b), some (.ref x), some (.int (evalI (expo L) (kk.take j))), v6, v7] ∧ H5 = H4) ⟨v6, v7, rfl, rfl⟩ (fun j σ H5 _ ⟨_, _, _, z⟩ => by rw [z]; exact hqs) ?_ ?_⟩
      · rintro j y σ H5 hy ⟨v6, v7, rfl, rfl⟩
        obtain ⟨qa, e, rfl, he, hqa⟩ := Paired.ixR pqs hy
        have hj : e ∈ kk := List.mem_of_getElem? he
        refine ⟨qa, _, rfl, hqa, rfl, _, [.int e.2], rfl, _, [], rfl, rfl, ?_⟩
        have e5 := s4 _ _ ed
        refine ⟨_, rfl, _, rfl, d, rfl, .inl ⟨_, .inl e5⟩, _, rfl, _, DGet.k (k := .inr e.1) e5, ?_⟩
        rw [valV_dSI nL]
        have o1 := evalB_one (expo L) hj
        refine ⟨_, rfl, expo L e.1, e.2, rfl, Nat.lt_of_le_of_lt (Nat.le_trans o1 hk1) hV, (hk2 e hj).1, (hk2 e hj).2, ?_⟩
        refine ⟨_, _, rfl, rfl, mulOk (a := 4000) (b := 4000) ?_ ?_ (by decide) (by decide) (by decide), some (.str e.1), some (.int e.2), ?_, rfl⟩
        · exact Nat.lt_of_le_of_lt (Nat.le_trans (evalI_le _ _) (Nat.le_trans (evalB_take _ _ j) hk1)) hV
        · rw [natAbs_pow]
          exact Nat.lt_of_le_of_lt (Nat.le_trans (max1_pow (Nat.le_refl _)) (Nat.le_trans o1 hk1)) hV
        · rw [evalI_take _ he]
          rfl
      · rintro σ H5 ⟨v6, v7, rfl, rfl⟩
        rw [List.length_map, lq, List.take_length]
        have hi := evalI_le (expo L) kk
        have wr := fM.one (x := (kk, r)) memM
        have fi := fM.wh
        have lt := lin_size (D := D) (V := Z) (expo L) (M := M.take i) (fun y hy => fM.wh y (List.mem_of_mem_take hy)) fun y hy => (hM y (List.mem_of_mem_take hy)).1
        have st := szM_take D M i
        refine ⟨_, rfl, _, rfl, _, rfl, (by show 2 ≤ sizeLine; decide), fun u nu => ?_⟩
        have s45 : Same H5 (upd H5 u (.tup [.int (evalI (expo L) kk), .int 1])) := same_upd nu
        have hx5 : SqT K (upd H5 u (.tup [.int (evalI (expo L) kk), .int 1])) x (ratV r) := SqT.keeps hq (TupsStay.same (s4.trans s45))
        have hu5 : SqT K (upd H5 u (.tup [.int (evalI (expo L) kk), .int 1])) u (ratV (evalI (expo L) kk : Rat)) := by
          rw [ratV_int]
          exact SqT.of upd_same
        refine ⟨x, u, r, (evalI (expo L) kk : Rat), 4000, 4000, rfl, hx5, hu5, .small hD hd wr.1 (Nat.lt_of_le_of_lt wr.2 hS), .small (D := 1) (by decide) (by decide +kernel) (whole_int _).1 (by rw [(whole_int _).2]; exact Nat.lt_of_le_of_lt (Nat.le_trans hi hk1) hV), by decide, by decide, by decide, fun t6 H6 s56 nt6 et6 => ?_⟩
        have wi := wr.1.int (evalI (expo L) kk)
        have m1 : mag D (r * (evalI (expo L) kk : Rat)) ≤ S * Z := by
          rw [wi.2]
          exact Nat.mul_le_mul wr.2 (Nat.le_trans hi hk1)
        have m2 : szM D (M.take i) * Z ≤ S * Z := Nat.mul_le_mul_right _ (Nat.le_trans st fM.sz)
        refine ⟨t, t6, _, _, 4000, 4000, rfl, SqT.keeps ht4 (TupsStay.same (s45.trans s56)), SqT.of et6, .small hD hd lt.1 (Nat.lt_of_le_of_lt (Nat.le_trans lt.2 m2) hSV), .small hD hd wi.1 (Nat.lt_of_le_of_lt m1 hSV), by decide, by decide, by decide, fun t7 H7 s67 nt7 et7 => ?_⟩
        refine ⟨t7, _, _, _, _, _, rfl, ?_, ((s4.trans s45).trans s56).trans s67⟩
        rw [lin_take _ hMi]
        exact SqT.of et7
    · rintro σ H3 ⟨t, v3, v4, v5, v6, v7, rfl, ht, s3⟩
      rw [l1, List.take_length] at ht
      exact ⟨_, rfl, k t H3 ht s3⟩
end
/-! ### a point that is drawn -/
/-- numbers of names of ns, up to a million -/
structure PointOk (ns : List Str) (L : Pr) : Prop where
  nd : (L.map (·.1)).Nodup
  of : ∀ e ∈ L, e.1 ∈ ns
  le : ∀ e ∈ L, e.2.natAbs ≤ 1000000
theorem PointOk.nil (ns : List Str) : PointOk ns [] := ⟨List.nodup_nil, (fun _ h => nomatch h), (fun _ h => nomatch h)⟩
theorem PointOk.put {ns : List Str} {L : Pr} (h : PointOk ns L) {x : Str} {v : Int} (hx : x ∈ ns) (hv : v.natAbs ≤ 1000000) : PointOk ns (putS L x v) := by
  refine ⟨putS_nodup x v h.nd, fun e he => ?_, fun e he => ?_⟩
  · rcases putS_keys L x v e he with z | z
    · rw [z]; exact hx
    · exact h.of e z
  · rcases putS_keys L x v e he with z | z
    · rw [z]; exact hv
    · exact h.le e z
section
variable {P : Program} {w : World} {K : PySem.W.Frag} {mg : Str → Option Value} {base : Heap} {C : Addr}
def spPoint (K : PySem.W.Frag) : Sp := fun vs H Q _ => ∃ (h c l : Addr) (s k : Int) (cs : List Int) (ns : List Str), vs = [.ref h, .ref l] ∧ HAt H h c s k cs ∧ H l = some (.lst (ns.map V.str)) ∧ l ≠ h ∧ l ≠ c ∧ ns.length < 1000 ∧
  ∀ (s' k' : Int) (cs' : List Int) (d : Addr) (L : Pr) (H' : Hp), HAt H' h c s' k' cs' → But h c H H' → H d = none → H' d = some (.dK (dSI L)) → PointOk ns L → Q (.ref d) H'
theorem pick_at2 {x y v : Int} (h0 : 0 ≤ v) (h2 : v < 2) : ∃ z, (z = x ∨ z = y) ∧ atI [V.int x, V.int y] v = some (.int z) := by
  have : v = 0 ∨ v = 1 := by omega
  rcases this with h | h
  · subst h
    exact ⟨x, .inl rfl, rfl⟩
  · subst h
    exact ⟨y, .inr rfl, rfl⟩
theorem ok_law_point {f : Addr} {fd : FuncData} (T : Txt K mg C) (F : DefAt K mg "_law_point" "_law_point" s_law_point ["_law_h", "_law_names_here"] f fd) : FnOk P w K mg base CX0 2 f fd ["_law_h", "_law_names_here"] (spPoint K) := by
  obtain ⟨f1, fd1, D_law_next⟩ := T.d_law_next
  have G_law_next : FnOk P w K mg base CX0 1 f1 fd1 ["_law_h", "_law_many"] spNext := ok_law_next T D_law_next
  refine F.F.ok sc_law_point (fun vs H Q E h => ?_) (fun cdv A outer s H vs Q E hr h => ?_)
  · obtain ⟨h, c, l, s, k, cs, ns, rfl, _⟩ := h
    rfl
  · obtain ⟨h, c, l, z, k, cs, ns, rfl, A1, el, nlh, nlc, ns1, q⟩ := h
    refine ⟨_, (pss_cons (ps_set (i := 2) sc_law_point.nd rfl (.inl rfl) pe_dnewK)
      (pss_cons (ps_for PassesOwn.never rfl (pi_list (pv 1)) (pg_name (i := 3) sc_law_point.nd rfl (.inl rfl)) (pss_one (ps_if (pt_cmpR op_gt (pe_call G_law_next (hr.mono (by decide)) (by rfl) D_law_next.g D_law_next.F.kp D_law_next.b .nil pass0 (pa_cons (pv 0) (pa_cons pe_int pa_nil))) pe_int (nomark _)) (pss_one (ps_dput (room1 hr) (pv 2) (pv 3) (pe_ix ix_list (pe_lst (pa_cons (pe_op op_sub (pe_call G_law_next (hr.mono (by decide)) (by rfl) D_law_next.g D_law_next.F.kp D_law_next.b .nil pass0 (pa_cons (pv 0) (pa_cons pe_int pa_nil))) pe_int) (pa_cons (pe_op op_sub (pe_call G_law_next (hr.mono (by decide)) (by rfl) D_law_next.g D_law_next.F.kp D_law_next.b .nil pass0 (pa_cons (pv 0) (pa_cons pe_int pa_nil))) pe_int) pa_nil))) (pe_call G_law_next (hr.mono (by decide)) (by rfl) D_law_next.g D_law_next.F.kp D_law_next.b .nil pass0 (pa_cons (pv 0) (pa_cons pe_int pa_nil))) (fun _ _ => rfl)) rfl)) pss_nil)))
      (pss_one (ps_ret (pv 2))))), ?_⟩
    intro d nd
    have dh : d ≠ h := (ne_of_none A1.h nd).symm
    have dc : d ≠ c := (ne_of_none A1.c nd).symm
    have s0 : Same H (upd H d (.dK [])) := same_upd nd
    refine ⟨_, rfl, l, rfl, ⟨_, SqL.of (s0 _ _ el)⟩, for_list (fun i σ H2 => ∃ (v3 : Option V) (s k : Int) (cs : List Int) (L : Pr), σ = [some (.ref h), some (.ref l), some (.ref d), v3] ∧ HAt H2 h c s k cs ∧ But h c H H2 ∧ H2 d = some (.dK (dSI L)) ∧ L.length ≤ i ∧ PointOk ns L) ⟨none, _, _, _, [], rfl, A1.same s0, Same.but s0, upd_same, Nat.le_refl 0, .nil ns⟩ (fun i σ H2 _ ⟨_, _, _, _, _, _, _, B, _⟩ => SqL.of (B _ _ el nlh nlc)) ?_ ?_⟩
    · rintro i x σ H2 hx ⟨v3, s2, k2, cs2, L, rfl, A2, B2, e2, hl, ok⟩
      rw [List.getElem?_map] at hx
      cases hy : ns[i]? with
      | none =>
        rw [hy] at hx
        cases hx
      | some y =>
        rw [hy] at hx
        cases hx
        have my : y ∈ ns := List.mem_of_getElem? hy
        have hi : i < ns.length := (List.getElem?_eq_some_iff.mp hy).1
        refine ⟨_, rfl, h, c, _, _, 4, _, rfl, by decide, by decide, A2, fun s3 k3 cs3 b H3 b0 b4 A3 B3 => ?_⟩
        have e3 := B3 _ _ e2 dh dc
        refine ⟨_, _, rfl, rfl, _, rfl, ite2 (fun e => ?_) (fun e => ?_)⟩
        · refine ⟨_, rfl, h, c, _, _, 20, _, rfl, by decide, by decide, A3, fun s4 k4 cs4 u H4 u0 u2 A4 B4 => ⟨_, _, rfl, rfl, _, rfl, h, c, _, _, 2000000, _, rfl, by decide, by decide, A4, fun s5 k5 cs5 v H5 v0 v2 A5 B5 => ⟨_, _, rfl, rfl, (by show 2 ≤ sizeLine; decide), fun l2 nl2 => ?_⟩⟩⟩
          have n2h : l2 ≠ h := (ne_of_none A5.h nl2).symm
          have n2c : l2 ≠ c := (ne_of_none A5.c nl2).symm
          have s5' : Same H5 (upd H5 l2 (.lst [.int (u - 10), .int (v - 1000000)])) := same_upd nl2
          refine ⟨_, rfl, h, c, _, _, 2, _, rfl, by decide, by decide, A5.same s5', fun s6 k6 cs6 t H6 t0 t2 A6 B6 => ?_⟩
          obtain ⟨g, hg, ag⟩ := pick_at2 (x := u - 10) (y := v - 1000000) t0 t2
          have e6 := B6 _ _ (s5' _ _ (B5 _ _ (B4 _ _ e3 dh dc) dh dc)) dh dc
          have gl : g.natAbs ≤ 1000000 := by
            rcases hg with z | z <;> omega
          refine ⟨l2, _, _, .int g, rfl, rfl, SqL.of (B6 _ _ upd_same n2h n2c), ag, _, rfl, _, rfl, d, _, rfl, DPut.k (k := .inr y) e6 ?_, ?_⟩
          · rw [dSI_len, sizeLine_eq]
            omega
          · have pl := putS_len L y g
            refine ⟨_, _, _, _, putS L y g, rfl, A6.set dh dc, ((((B2.trans B3).trans B4).trans B5).same s5' |>.trans B6).upd nd, by rw [← dSI_put]; exact upd_same, by omega, ok.put my gl⟩
        · exact ⟨_, _, _, _, L, rfl, A3, B2.trans B3, e3, by omega, ok⟩
    · rintro σ H2 ⟨v3, s2, k2, cs2, L, rfl, A2, B2, e2, hl, ok⟩
      exact ⟨_, rfl, q _ _ _ d L H2 A2 B2 nd e2 ok⟩
end
/-! ### the powers of a sum -/
def powM (M : Poly) : Nat → Poly
  | 0 => addM [] [] ((1 : Int) : Rat)
  | k + 1 => mulM (powM M k) M
theorem fit_pow {ns : List Str} {n D S : Nat} {M : Poly} (h : Fit (Of ns) n D S M) : ∀ k, Fit (Of ns) (n ^ k) (D ^ k) (S ^ k) (powM M k)
  | 0 => Fit.number 1
  | k + 1 => by
    have a := (fit_pow h k).mul h fun _ _ => Of.join
    rw [Nat.pow_succ, Nat.pow_succ, Nat.pow_succ]
    exact a
/-- only a dict of texts or numbers was changed: a sum stays -/
theorem SumAt.else {K : PySem.W.Frag} {w : World} {C : Addr} {H H' : Hp} {p d : Addr} {M : Poly} {kvs : List (L2.Key × V)} (h : SumAt K w C H p M) (e : Else d H H') (hd : H d = some (.dK kvs)) : SumAt K w C H' p M := by
  obtain ⟨dx, d1, o, L, ep, ⟨xs, ed, na⟩, r⟩ := h
  have t : TupsStay H H' := e.tups hd True.intro
  exact ⟨dx, d1, o, L, e _ _ ep (ne_of ep hd (by intro z; cases z)), ⟨xs, e _ _ ed (ne_of ed hd (by intro z; cases z)), na.stay t⟩, r.stay t⟩
def PowAt (K : PySem.W.Frag) (w : World) (C : Addr) (H : Hp) (p : Addr) (M : Poly) (ks : List Int) : Prop := ∃ kvs : List (L2.Key × V), H p = some (.dK kvs) ∧ ∀ k ∈ ks, ∃ q, valV kvs (.inl k) = some (.ref q) ∧ SumAt K w C H q (powM M k.toNat)
/-- all that a sum to its powers asks -/
structure PowFit (ns : List Str) (n D S top : Nat) (M : Poly) : Prop where
  fit : Fit (Of ns) n D S M
  n1 : 1 ≤ n
  d1 : 1 ≤ D
  s1 : 1 ≤ S
  db : D ^ top < big
  sb : S ^ top < big
  nb : n ^ top < sizeLine
  ns : ns.length < 32
  ex : ∀ x ∈ M, ∀ e ∈ x.1, e.2 < 2 ^ 62
theorem pow_up {a j k : Nat} (h1 : 1 ≤ a) (h : j ≤ k) : a ^ j ≤ a ^ k := Nat.pow_le_pow_right h1 h
/-- how many entries such a dict has -/
def rLenN (K : PySem.W.Frag) (w : World) : List V → Hp → VK → Prop := fun vs H Q => ∃ (a : Addr) (L : List (Pr × V)), vs = [.ref a] ∧ NR K w H a L ∧ Q (.int (L.length : Int)) H
theorem call_lenN {X : Cx} : CallR X (.builtin "len") (rLenN X.K X.w) := by
  intro pins s σ H vs us Q I r h
  obtain ⟨a, L, rfl, ⟨xs, er, n⟩, q⟩ := h
  obtain rfl := Vals.ref1 r
  have el : xs.length = L.length := (Paired.length n.rel).symm
  have nl := n.len
  rw [sizeLine_eq] at nl
  refine PySem.call_len_dictH n.sys (n.dict I er) (by omega) ?_
  rw [el]
  exact ⟨.int _, H, I.tok _, ⟨_, rfl⟩, q⟩
/-! ### a part raised -/
def scaleP (p : Pr) (k : Nat) : Pr := p.map fun e => (e.1, e.2 * (k : Int))
theorem expo_scale (p : Pr) (k : Nat) (x : Str) : expo (scaleP p k) x = expo p x * (k : Int) := by
  induction p with
  | nil => exact (Int.zero_mul _).symm
  | cons e r ih =>
    show (if e.1 = x then e.2 * (k : Int) else 0) + expo (scaleP r k) x = ((if e.1 = x then e.2 else 0) + expo r x) * (k : Int)
    rw [ih, Int.add_mul]
    split
    · rfl
    · rw [Int.zero_mul]
theorem canon_scale {p : Pr} (h : Canon p) {k : Nat} (hk : 1 ≤ k) : Canon (scaleP p k) := by
  refine ⟨?_, fun f hf => ?_⟩
  · unfold scaleP
    rw [List.pairwise_map]
    exact h.up
  · obtain ⟨e, he, rfl⟩ := List.mem_map.mp hf
    have a := h.one e he
    show 1 ≤ e.2 * (k : Int)
    have b : (1 : Int) * 1 ≤ e.2 * (k : Int) := Int.mul_le_mul a (by omega) (by decide) (by omega)
    omega
theorem addM_one {k : Pr} {c : Rat} (h : c ≠ 0) : addM [] k c = [(k, c)] := by
  have e : (lookM [] k).getD 0 + c = c := Rat.zero_add c
  unfold addM
  rw [e, if_neg h]
  rfl
theorem powM_none {k : Nat} (hk : 1 ≤ k) : powM [] k = [] := by
  obtain ⟨j, rfl⟩ : ∃ j, k = j + 1 := ⟨k - 1, by omega⟩
  show mulM (powM [] j) [] = []
  have e : ∀ M : Poly, crossM M [] = [] := fun M => by
    unfold crossM
    induction M with
    | nil => rfl
    | cons x r ih =>
      rw [List.flatMap_cons, ih]
      rfl
  unfold mulM
  rw [e]
  rfl
theorem pow_ne {c : Rat} (h : c ≠ 0) (k : Nat) : c ^ k ≠ 0 := fun z => by
  have a := congrArg Rat.num z
  rw [Rat.num_pow] at a
  have b : c.num ≠ 0 := fun q => h (Rat.num_eq_zero.mp q)
  have : c.num ^ k ≠ 0 := Int.pow_ne_zero b
  exact this a
theorem powM_part {p : Pr} (hp : Canon p) {c : Rat} (hc : c ≠ 0) : ∀ k : Nat, powM [(p, c)] (k + 1) = [(scaleP p (k + 1), c ^ (k + 1))]
  | 0 => by
    have e0 : powM [(p, c)] 0 = [([], 1)] := addM_one (k := []) (c := 1) (by decide)
    show mulM (powM [(p, c)] 0) [(p, c)] = _
    rw [e0]
    have e1 : mulM [([], 1)] [(p, c)] = addM [] (joinP [] p) (1 * c) := rfl
    have e2 : scaleP p 1 = p := by
      unfold scaleP
      rw [List.map_congr_left (g := id) fun e _ => by show (e.1, e.2 * 1) = e; rw [Int.mul_one], List.map_id]
    rw [e1, Rat.one_mul, addM_one hc, e2]
    show [(p, c)] = [(p, c ^ (0 + 1))]
    rw [Rat.pow_succ, Rat.pow_zero, Rat.one_mul]
  | k + 1 => by
    show mulM (powM [(p, c)] (k + 1)) [(p, c)] = _
    rw [powM_part hp hc k]
    have e1 : mulM [(scaleP p (k + 1), c ^ (k + 1))] [(p, c)] = addM [] (joinP (scaleP p (k + 1)) p) (c ^ (k + 1) * c) := rfl
    have cs := canon_scale hp (k := k + 1) (by omega)
    have e2 : joinP (scaleP p (k + 1)) p = scaleP p (k + 1 + 1) := canon_eq (hp.join cs.one) (canon_scale hp (by omega)) fun x => by
      rw [expo_join, expo_scale, expo_scale]
      have : ((k + 1 + 1 : Nat) : Int) = ((k + 1 : Nat) : Int) + 1 := by omega
      rw [this, Int.mul_add, Int.mul_one]
    rw [e1, ← Rat.pow_succ, addM_one (pow_ne hc _), e2]
theorem ratV_pow (c : Rat) (k : Nat) : ratV (c ^ k) = [.int (c.num ^ k), .int ((c.den : Int) ^ k)] := by
  unfold ratV
  rw [Rat.num_pow, Rat.den_pow, Int.natCast_pow]
/-- a dict made by a comprehension over a list -/
theorem dc_lst {K : PySem.W.Frag} {a : Addr} {xs : List V} {g : TG} {tt : TT} {tk tv : TE} {vs : List Nat} {σ : L2.St} {H1 : Hp} {D : Addr} {Qd : Hp → Prop} (Pv : Nat → Hp → Prop) (h0 : Pv 0 (upd H1 D (.dK []))) (hl : ∀ i H, i ≤ xs.length → Pv i H → SqL K H a xs)
    (hs : ∀ i x H, xs[i]? = some x → Pv i H → g x (wipe σ vs) H fun σ2 H2 => wipe σ2 vs = wipe σ vs ∧ tt σ2 H2 fun b H3 =>
      if b = true then tk σ2 H3 fun y H4 => tv σ2 H4 fun z H5 => ∃ kvs k, y = kV k ∧ H5 D = some (.dK kvs) ∧ kvs.length < sizeLine ∧ Pv (i + 1) (upd H5 D (.dK (putK kvs k z))) else Pv (i + 1) H3) (hd : ∀ H, Pv xs.length H → Qd H) :
    ∃ W : Nat → Nat → Hp → Prop, (∃ m, W 0 m (upd H1 D (.dK []))) ∧ ∀ i m H, W i m H →
      ((Itl K a).stop i H ∧ Qd H) ∨ ((Itl K a).go i H ∧ ∃ Nx : Hp → Prop, (∀ H', Nx H' → ∃ m', m' < m ∧ W (i + 1) m' H') ∧ ∀ x H', (Itl K a).yld i H x H' → g x (wipe σ vs) H' fun σ2 H2 => wipe σ2 vs = wipe σ vs ∧ tt σ2 H2 fun b H3 =>
        if b = true then tk σ2 H3 fun y H4 => tv σ2 H4 fun z H5 => ∃ kvs k, y = kV k ∧ H5 D = some (.dK kvs) ∧ kvs.length < sizeLine ∧ Nx (upd H5 D (.dK (putK kvs k z))) else Nx H3) := by
  refine ⟨fun i m H => m = xs.length - i ∧ i ≤ xs.length ∧ Pv i H, ⟨_, rfl, Nat.zero_le _, h0⟩, fun i m H ⟨em, hi, p⟩ => ?_⟩
  have F := hl i H hi p
  by_cases lt : i < xs.length
  · refine .inr ⟨⟨xs, xs[i], F, by simp [lt]⟩, Pv (i + 1), fun H' p' => ⟨xs.length - (i + 1), by omega, rfl, lt, p'⟩, fun x H' ⟨eH, y⟩ => ?_⟩
    subst eH
    exact hs i x _ (y xs F) p
  · have e : i = xs.length := by omega
    subst e
    exact .inl ⟨⟨xs, F, Nat.le_refl _⟩, hd H p⟩
theorem small_parts {D : Nat} {r : Rat} (hD : 0 < D) (h : Whole D r) : r.num.natAbs ≤ mag D r ∧ r.den ≤ D := by
  have e : r = Rat.divInt (r * (D : Rat)).num (D : Int) := by
    have z := den_one h
    have d0 : (D : Rat) ≠ 0 := fun q => by
      have q : (D : Rat) = ((0 : Nat) : Rat) := q
      have := Rat.natCast_inj.mp q
      omega
    rw [Rat.divInt_eq_div]
    show r = ((r * (D : Rat)).num : Rat) / ((D : Int) : Rat)
    rw [← z, show ((D : Int) : Rat) = (D : Rat) from rfl, Rat.mul_div_cancel d0]
  have m := divInt_mul_den (r * (D : Rat)).num (D : Int) (by omega)
  rw [← e] at m
  have m2 : r.num.natAbs * D = mag D r * r.den := by
    have z := congrArg Int.natAbs m
    rw [Int.natAbs_mul, Int.natAbs_mul] at z
    exact z
  have dv : r.den ∣ D := by
    have a : r.den ∣ r.num.natAbs * D := ⟨mag D r, by rw [m2, Nat.mul_comm]⟩
    exact Nat.Coprime.dvd_of_dvd_mul_left r.reduced.symm a
  have dl := Nat.le_of_dvd hD dv
  refine ⟨?_, dl⟩
  have a : r.num.natAbs * D ≤ mag D r * D := by
    rw [m2]
    exact Nat.mul_le_mul_left _ dl
  exact Nat.le_of_mul_le_mul_right a hD
section
variable {P : Program} {w : World} {K : PySem.W.Frag} {mg : Str → Option Value} {base : Heap} {C : Addr}
def spPartRaised (K : PySem.W.Frag) (w : World) (C : Addr) : Sp := fun vs H Q _ => ∃ (b : Addr) (M : Poly) (k : Int), vs = [.ref b, .int k] ∧ SumAt K w C H b M ∧ M.length < 2 ∧ 1 ≤ k ∧ k < 2 ^ 62 ∧
  (∀ x ∈ M, Canon x.1 ∧ x.2 ≠ 0 ∧ bg x.2.num ^ k.toNat < big ∧ bg (x.2.den : Int) ^ k.toNat < big ∧ x.1.length < 32 ∧ ∀ e ∈ x.1, e.2 < 2 ^ 62) ∧ ∀ p H', SumAt K w C H' p (powM M k.toNat) → Same H H' → H p = none → Q (.ref p) H'
theorem ok_part_raised {f : Addr} {fd : FuncData} (T : Txt K mg C) (F : DefAt K mg "_part_raised" "_part_raised" s_part_raised ["base", "power"] f fd) : FnOk P w K mg base CX0 4 f fd ["base", "power"] (spPartRaised K w C) := by
  obtain ⟨f1, fd1, D_number_raised⟩ := T.d_number_raised
  have G_number_raised : FnOk P w K mg base CX0 1 f1 fd1 ["number", "power"] spRaised := ok_number_raised T D_number_raised
  obtain ⟨f2, fd2, M_Sum, FI, b_Sum_init⟩ := T.mk_Sum
  have G_Sum_init : FnOk P w K mg base CX0 1 f2 fd2 ["self", "parts"] (spInit K w C) := ok_Sum_init T FI
  refine F.F.ok sc_part_raised (fun vs H Q E h => ?_) (fun cdv A outer s H vs Q E hr h => ?_)
  · obtain ⟨b, M, k, rfl, _⟩ := h
    rfl
  · obtain ⟨b, M, k, rfl, SM, hM, k1, k2, all, q⟩ := h
    obtain ⟨dx, d1, o1, L1, ep, n1, r1⟩ := id SM
    have l1 : L1.length = M.length := Paired.length r1
    obtain ⟨j, hj⟩ : ∃ j, k.toNat = j + 1 := ⟨k.toNat - 1, by omega⟩
    have ekj : k = ((j + 1 : Nat) : Int) := by omega
    refine ⟨_, (pss_cons (ps_set (i := 2) sc_part_raised.nd rfl (.inl rfl) pe_newN)
      (pss_cons (ps_for PassesOwn.never rfl (pi_itemsN (pe_fld (pv 0) rfl)) (pg_tup (by rfl) (pgs_cons (pg_name (i := 3) sc_part_raised.nd rfl (.inl rfl)) (pgs_cons (pg_tup (by rfl) (pgs_cons (pg_name (i := 4) sc_part_raised.nd rfl (.inl rfl)) (pgs_cons (pg_name (i := 5) sc_part_raised.nd rfl (.inl rfl)) pgs_nil))) pgs_nil))) (pss_cons (ps_set (i := 6) sc_part_raised.nd rfl (.inl rfl) (pe_tupleOf (by rfl) T.m_tuple (pe_lc (own := [("name", 7), ("many", 8)]) (g := gTup K 2 (gCons (gName 7) (gCons (gName 8) gNil))) (tt := tYes) rfl sc_part_raised.nd (pi_tup (pv 3)) (blkOk_by (own := [("name", 7), ("many", 8)]) (N := ["base", "power", "raised", "product", "top", "bottom", "risen", "name", "many"]) (sc := defScope s_part_raised) (by decide +kernel)) (fun _ _ _ _ _ => (pg_tup (by rfl) (pgs_cons (pg_name (i := 7) sc_part_raised.nd rfl (.inl rfl)) (pgs_cons (pg_name (i := 8) sc_part_raised.nd rfl (.inl rfl)) pgs_nil)))) (fun _ _ _ _ _ => pts_nil) (fun _ _ _ _ _ => (pe_tup (pa_cons (pv 7) (pa_cons (pe_op op_mulW (pv 8) (pv 1)) pa_nil))))))) (pss_one (ps_putN hr.units (pv 2) (pv 6) (pe_tup (pa_cons (pe_call G_number_raised (hr.mono (by decide)) (by rfl) D_number_raised.g D_number_raised.F.kp D_number_raised.b .nil pass0 (pa_cons (pv 4) (pa_cons (pv 1) pa_nil))) (pa_cons (pe_call G_number_raised (hr.mono (by decide)) (by rfl) D_number_raised.g D_number_raised.F.kp D_number_raised.b .nil pass0 (pa_cons (pv 5) (pa_cons (pv 1) pa_nil))) pa_nil))) rfl))))
      (pss_one (ps_ret (pe_make M_Sum G_Sum_init (hr.mono (by decide)) (by rfl) T.g_Sum b_Sum_init .nil pass0 (pa_cons (pv 2) pa_nil)))))), ?_⟩
    intro D nD sD
    have s0 : Same H (upd H D (ndO w D [])) := same_upd nD
    have e0 : (upd H D (ndO w D [])) D = some (ndO w D []) := upd_same
    have nd0 : ND K w (upd H D (ndO w D [])) D [] := .new sD
    refine ⟨_, rfl, b, C, dx, _, _, rfl, s0 _ _ ep, T.cl_Sum, T.n_Sum_parts, sumF_parts _, d1, o1, L1, rfl, n1.stay (.same s0) (fun o e => s0 _ _ e), for_itemsN (fun i σ H3 => ∃ v3 v4 v5 v6 v7 v8 : Option V, σ = [some (.ref b), some (.int k), some (.ref D), v3, v4, v5, v6, v7, v8] ∧ PartsAt K w H3 D ((M.take i).map fun x => (scaleP x.1 (j + 1), x.2 ^ (j + 1))) ∧ Else D (upd H D (ndO w D [])) H3)
      ⟨none, none, none, none, none, none, rfl, ⟨[], nd0, .nil⟩, .refl _ _⟩ (fun i σ H3 _ ⟨_, _, _, _, _, _, _, _, z⟩ => PartsAt.elseNF (n1.stay (.same s0) fun o e => s0 _ _ e) nd0 z) ?_ ?_⟩
    · rintro i kk v σ H3 Tt b2 hL ⟨v3, v4, v5, v6, v7, v8, rfl, pM, el⟩ nT hb
      obtain ⟨x, c, hMi, rfl, hq⟩ := r1.at_ hL
      have memM : (kk, c) ∈ M := List.mem_of_getElem? hMi
      have i0 : i = 0 := by
        have := (List.getElem?_eq_some_iff.mp hMi).1
        omega
      subst i0
      obtain ⟨c1, c2, c3, c4, c5, c6⟩ := all _ memM
      have c5 : kk.length < 32 := c5
      have sT : Same H3 (upd H3 Tt (.tup [.ref b2, .ref x])) := same_upd nT
      have hb3 : ProdAt K (upd H3 Tt (.tup [.ref b2, .ref x])) b2 kk := hb.stay (.same sT)
      have hq0 : SqT K (upd H D (ndO w D [])) x (ratV c) := SqT.keeps hq (TupsStay.same s0)
      have hq3 : SqT K (upd H3 Tt (.tup [.ref b2, .ref x])) x (ratV c) := SqT.keeps (SqT.keeps hq0 (el.tups e0 True.intro)) (TupsStay.same sT)
      refine ⟨Tt, [.ref b2, .ref x], rfl, SqT.of upd_same, rfl, _, [.ref x], rfl, _, [], rfl, ?_⟩
      have el3 := el.same sT
      have p3 := pM.stay (.same sT) fun u e => sT _ _ e
      generalize (upd H3 Tt (.tup [.ref b2, .ref x])) = H4 at el3 hb3 hq3 p3
      refine ⟨x, _, rfl, hq3, rfl, _, [.int (c.den : Int)], rfl, _, [], rfl, rfl, ?_⟩
      obtain ⟨qs, hqs, pqs⟩ := id hb3
      have lq : qs.length = kk.length := Paired.length pqs
      refine ⟨rfl, _, rfl, b2, rfl, ⟨_, hqs⟩, fun D2 nD2 => lc_tup (fun i H5 => ∃ ks : List Addr, H5 D2 = some (.lst (ks.map V.ref)) ∧ ks.length = i ∧ Paired (PairAt K H5) ks (scaleP (kk.take i) (j + 1)) ∧ Same H4 H5) ⟨[], upd_same, rfl, by rw [List.take_zero]; exact .nil, same_upd nD2⟩ (fun i H5 _ ⟨_, _, _, _, z⟩ => SqT.keeps hqs (TupsStay.same z)) ?_ ?_⟩
      · rintro i y H5 hy ⟨ks, e2, hl, pk, s5⟩
        obtain ⟨qa, e, rfl, he, hqa⟩ := Paired.ixR pqs hy
        have mem : e ∈ kk := List.mem_of_getElem? he
        have hi : i < kk.length := (List.getElem?_eq_some_iff.mp he).1
        have tk : scaleP (kk.take (i + 1)) (j + 1) = scaleP (kk.take i) (j + 1) ++ [(e.1, e.2 * ((j + 1 : Nat) : Int))] := by
          rw [List.take_add_one, he]
          unfold scaleP
          rw [List.map_append]
          rfl
        refine ⟨qa, _, rfl, SqT.keeps hqa (TupsStay.same s5), rfl, _, [.int e.2], rfl, _, [], rfl, rfl, rfl, ?_⟩
        unfold tYes
        simp only [↓reduceIte]
        have b1 := c1.one e mem
        have b2 := c6 e mem
        refine ⟨_, rfl, _, rfl, _, rfl, _, _, rfl, rfl, mulOk (a := 64) (b := 64) (by omega) (by omega) (by decide) (by decide) (by decide), (by show 2 ≤ sizeLine; decide), fun t nt => ?_⟩
        rw [ekj]
        have st : Same H5 (upd H5 t (.tup [.str e.1, .int (e.2 * ((j + 1 : Nat) : Int))])) := same_upd nt
        have e2t := st _ _ e2
        have eE : Else D2 (upd H5 t (.tup [.str e.1, .int (e.2 * ((j + 1 : Nat) : Int))])) (upd (upd H5 t (.tup [.str e.1, .int (e.2 * ((j + 1 : Nat) : Int))])) D2 (.lst ((ks.map V.ref) ++ [.ref t]))) := .upd
        have tt := eE.tups e2t True.intro
        refine ⟨_, e2t, ?_, ks ++ [t], by rw [upd_same, List.map_append]; rfl, by rw [List.length_append, hl]; rfl, ?_, fun c u ec => ?_⟩
        · rw [List.length_map, hl, sizeLine_eq]
          omega
        · rw [tk]
          exact Paired.snoc (Paired.mapP pk fun _ _ z => PairAt.stay (PairAt.stay z (TupsStay.same st)) tt) (SqT.keeps (SqT.of upd_same) tt)
        · rw [upd_ne (ne_of_none ec nD2)]
          exact st _ _ (s5 _ _ ec)
      · rintro H5 ⟨ks, e2, hl, pk, s5⟩
        rw [List.length_map, lq, List.take_length] at pk
        refine .inl ⟨D2, _, rfl, SqL.of e2, fun kq nkq => ?_⟩
        have s6 : Same H5 (upd H5 kq (.tup (ks.map V.ref))) := same_upd nkq
        have pk6 : ProdAt K (upd H5 kq (.tup (ks.map V.ref))) kq (scaleP kk (j + 1)) := ⟨ks, SqT.of upd_same, Paired.mapP pk fun _ _ z => PairAt.stay z (TupsStay.same s6)⟩
        have s46 := s5.trans s6
        generalize (upd H5 kq (.tup (ks.map V.ref))) = H6 at s46 pk6
        have kN : -(2 ^ 62) ≤ k := by omega
        refine ⟨_, rfl, _, rfl, c.num, k, rfl, c3, kN, k2, _, rfl, _, rfl, (c.den : Int), k, rfl, c4, kN, k2, (by show 2 ≤ sizeLine; decide), fun tv ntv => ?_⟩
        have st : Same H6 (upd H6 tv (.tup [.int (c.num ^ k.toNat), .int ((c.den : Int) ^ k.toNat)])) := same_upd ntv
        have s47 := s46.trans st
        have hv : SqT K (upd H6 tv (.tup [.int (c.num ^ k.toNat), .int ((c.den : Int) ^ k.toNat)])) tv (ratV (c ^ (j + 1))) := by
          rw [ratV_pow, ← hj]
          exact SqT.of upd_same
        have pk7 := pk6.stay (TupsStay.same st)
        generalize (upd H6 tv (.tup [.int (c.num ^ k.toNat), .int ((c.den : Int) ^ k.toNat)])) = H7 at s47 hv pk7
        have p7 := p3.stay (.same s47) fun u e => s47 _ _ e
        obtain ⟨L7, nd7, r7⟩ := p7
        have r7e : RatL K H7 L7 [] := r7
        cases r7e
        obtain ⟨xs7, ed7, na7⟩ := id nd7
        have tk1 : M.take (0 + 1) = [(kk, c)] := by
          rw [List.take_add_one, hMi]
          rfl
        refine ⟨_, rfl, _, rfl, D, [], scaleP kk (j + 1), kq, rfl, rfl, nd7, by rw [sizeLine_eq]; decide, pk7, fun o n2 => ?_⟩
        have tt : TupsStay H7 (upd H7 D o) := .upd ed7 True.intro
        refine ⟨_, _, _, _, _, _, rfl, ⟨_, n2, ?_⟩, (el3.same s47).trans .upd⟩
        rw [tk1]
        exact .cons ⟨rfl, tv, rfl, SqT.keeps hv tt⟩ .nil
    · rintro σ H3 ⟨v3, v4, v5, v6, v7, v8, rfl, pM, el⟩
      rw [l1, List.take_length] at pM
      have eM : (M.map fun x => (scaleP x.1 (j + 1), x.2 ^ (j + 1))) = powM M k.toNat := by
        rw [hj]
        cases M with
        | nil => exact (powM_none (by omega)).symm
        | cons x r =>
          cases r with
          | nil =>
            obtain ⟨c1, c2, _⟩ := all x (by simp)
            exact (powM_part c1 c2 j).symm
          | cons y t =>
            exfalso
            rw [List.length_cons, List.length_cons] at hM
            omega
      rw [eM] at pM
      have el0 : Same H H3 := Else.fresh nD s0 el
      exact ⟨_, rfl, fun x dx nx ndx nex => ⟨x, dx, D, _, rfl, upd_same, pM.made nx ndx, fun H2 sA kp => ⟨rfl, q x H2 sA (el0.trans (Same.made nx ndx kp)) (el0.free nx)⟩⟩⟩
end
section
variable {P : Program} {w : World} {K : PySem.W.Frag} {mg : Str → Option Value} {base : Heap} {C : Addr}
def spPowers (K : PySem.W.Frag) (w : World) (C : Addr) : Sp := fun vs H Q _ => ∃ (b l : Addr) (M : Poly) (ns : List Str) (n D S top : Nat) (ks : List Int), vs = [.ref b, .ref l] ∧ SumAt K w C H b M ∧ H l = some (.lst (ks.map V.int)) ∧ ks.Pairwise (· ≤ ·) ∧ (∀ k ∈ ks, 1 ≤ k ∧ k ≤ (top : Int)) ∧ ks.length < 1000 ∧ PowFit ns n D S top M ∧ top < 1000000 ∧
  ∀ p H', PowAt K w C H' p M ks → Same H H' → H p = none → Q (.ref p) H'
theorem ok_powers_of {f : Addr} {fd : FuncData} (T : Txt K mg C) (F : DefAt K mg "_powers_of" "_powers_of" s_powers_of ["base", "wanted"] f fd) : FnOk P w K mg base CX0 5 f fd ["base", "wanted"] (spPowers K w C) := by
  obtain ⟨f1, fd1, D_sum_of_number⟩ := T.d_sum_of_number
  have G_sum_of_number : FnOk P w K mg base CX0 4 f1 fd1 ["n"] (spNumber K w C) := ok_sum_of_number T D_sum_of_number
  obtain ⟨f3, fd3, D_part_raised⟩ := T.d_part_raised
  have G_part_raised : FnOk P w K mg base CX0 4 f3 fd3 ["base", "power"] (spPartRaised K w C) := ok_part_raised T D_part_raised
  obtain ⟨f5, fd5, D_timed⟩ := T.d_timed
  have G_timed : FnOk P w K mg base CX0 4 f5 fd5 ["one", "other"] (spTimed K w C) := ok_timed T D_timed
  refine F.F.ok sc_powers_of (fun vs H Q E h => ?_) (fun cdv A outer s H vs Q E hr h => ?_)
  · obtain ⟨b, l, M, ns, n, D, S, top, ks, rfl, _⟩ := h
    rfl
  · obtain ⟨b, l, M, ns, n, D, S, top, ks, rfl, SM, el, up, rg, hlen, pf, htop, q⟩ := h
    refine ⟨_, (pss_cons (ps_if (pt_cmpR op_lt (pe_callB call_lenN (by rfl) T.m_len (by decide +kernel) (pa_cons (pe_fld (pv 0) rfl) pa_nil)) pe_int (nomark _)) (pss_one (ps_ret (pe_dc (own := [("power", 2)]) (g := gName 2) (tt := tYes) rfl sc_powers_of.nd (pi_list (pv 1)) (blkOk_by (own := [("power", 2)]) (N := ["base", "wanted", "power", "found", "risen", "reached", "_"]) (sc := defScope s_powers_of) (by decide +kernel)) (fun _ _ _ _ _ => (pg_name (i := 2) sc_powers_of.nd rfl (.inl rfl))) (fun _ _ _ _ _ => pts_nil) (fun _ _ _ _ _ => (pv 2)) (fun _ _ _ _ _ => (pe_call G_part_raised (hr.mono (by decide)) (by rfl) D_part_raised.g D_part_raised.F.kp D_part_raised.b .nil pass0 (pa_cons (pv 0) (pa_cons (pv 2) pa_nil))))))) pss_nil)
      (pss_cons (ps_set (i := 3) sc_powers_of.nd rfl (.inl rfl) pe_dnewK)
      (pss_cons (ps_set (i := 4) sc_powers_of.nd rfl (.inl rfl) (pe_call G_sum_of_number (hr.mono (by decide)) (by rfl) D_sum_of_number.g D_sum_of_number.F.kp D_sum_of_number.b .nil pass0 (pa_cons pe_int pa_nil)))
      (pss_cons (ps_set (i := 5) sc_powers_of.nd rfl (.inl rfl) pe_int)
      (pss_cons (ps_for PassesOwn.never rfl (pi_list (pv 1)) (pg_name (i := 2) sc_powers_of.nd rfl (.inl rfl)) (pss_cons (ps_for PassesOwn.never rfl (pi_range2 rfl T.m_range (pa_cons (pv 5) (pa_cons (pv 2) pa_nil))) (pg_name (i := 6) sc_powers_of.nd rfl (.inl rfl)) (pss_one (ps_set (i := 4) sc_powers_of.nd rfl (.inl rfl) (pe_call G_timed (hr.mono (by decide)) (by rfl) D_timed.g D_timed.F.kp D_timed.b .nil pass0 (pa_cons (pv 4) (pa_cons (pv 0) pa_nil)))))) (pss_cons (ps_set (i := 5) sc_powers_of.nd rfl (.inl rfl) (pv 2)) (pss_one (ps_dput (room1 hr) (pv 3) (pv 2) (pv 4) rfl)))))
      (pss_one (ps_ret (pv 3)))))))), ?_⟩
    obtain ⟨dx, d1, o1, L1, ep, n1, r1⟩ := id SM
    have l1 : L1.length = M.length := Paired.length r1
    refine ⟨_, rfl, b, C, dx, _, _, rfl, ep, T.cl_Sum, T.n_Sum_parts, sumF_parts _, ?_⟩
    refine ⟨d1, L1, rfl, n1.r, _, _, rfl, rfl, _, rfl, ite2 (fun few => ?_) (fun many => ?_)⟩
    · have fewN : M.length < 2 := by
        have : decide ((L1.length : Int) < 2) = true := few
        have := of_decide_eq_true this
        omega
      refine ⟨_, rfl, l, rfl, ⟨_, SqL.of el⟩, fun Dd nD => dc_lst (fun i H3 => ∃ kvs : List (L2.Key × V), H3 Dd = some (.dK kvs) ∧ kvs.length ≤ i ∧ (∀ k ∈ ks.take i, ∃ q, valV kvs (.inl k) = some (.ref q) ∧ SumAt K w C H3 q (powM M k.toNat)) ∧ Same H H3) ⟨[], upd_same, Nat.le_refl 0, (fun k hk => by rw [List.take_zero] at hk; cases hk), same_upd nD⟩ (fun i H3 _ ⟨_, _, _, _, z⟩ => SqL.of (z _ _ el)) ?_ ?_⟩
      · rintro i x H3 hx ⟨kvs, e3, hl, hk, s3⟩
        rw [List.getElem?_map] at hx
        cases hy : ks[i]? with
        | none =>
          rw [hy] at hx
          cases hx
        | some k =>
          rw [hy] at hx
          cases hx
          have hi : i < ks.length := (List.getElem?_eq_some_iff.mp hy).1
          have mem : k ∈ ks := List.mem_of_getElem? hy
          have hk0 := rg k mem
          refine ⟨rfl, ?_⟩
          unfold tYes
          simp only [↓reduceIte]
          refine ⟨_, rfl, _, rfl, _, rfl, b, M, k, rfl, SM.same s3, fewN, hk0.1, by omega, fun x hx => ?_, fun p H4 Sp s4 n4 => ?_⟩
          · obtain ⟨w1, w2⟩ := pf.fit.one hx
            obtain ⟨m1, m2⟩ := small_parts pf.d1 w1
            have kt : k.toNat ≤ top := by omega
            have b1 : bg x.2.num ≤ S := by
              have := pf.s1
              unfold bg
              omega
            have b2 : bg (x.2.den : Int) ≤ D := by
              have := pf.d1
              unfold bg
              omega
            have o := pf.fit.good.pr x hx
            exact ⟨o.1, pf.fit.good.nz x hx, Nat.lt_of_le_of_lt (Nat.le_trans (Nat.pow_le_pow_left b1 _) (pow_up pf.s1 kt)) pf.sb, Nat.lt_of_le_of_lt (Nat.le_trans (Nat.pow_le_pow_left b2 _) (pow_up pf.d1 kt)) pf.db, Nat.lt_of_le_of_lt o.len pf.ns, pf.ex x hx⟩
          · have e4 := s4 _ _ e3
            have e45 : Else Dd H4 (upd H4 Dd (.dK (putK kvs (.inl k) (.ref p)))) := .upd
            refine ⟨kvs, .inl k, rfl, e4, by rw [sizeLine_eq]; omega, _, upd_same, ?_, fun j hj => ?_, fun c u ec => ?_⟩
            · have := length_putK kvs (.inl k) (V.ref p)
              omega
            · rw [valV_put]
              by_cases z : j = k
              · subst z
                exact ⟨p, by rw [if_pos rfl], Sp.else e45 e4⟩
              · rw [if_neg (by simpa using z)]
                have hj' : j ∈ ks.take i := by
                  rw [List.take_add_one, hy] at hj
                  rcases List.mem_append.mp hj with y | y
                  · exact y
                  · exact absurd (by simpa using y) z
                obtain ⟨g, g1, g2⟩ := hk j hj'
                exact ⟨g, g1, (g2.same s4).else e45 e4⟩
            · rw [upd_ne (ne_of_none ec nD)]
              exact s4 _ _ (s3 _ _ ec)
      · rintro H3 ⟨kvs, e3, hl, hk, s3⟩
        rw [List.length_map, List.take_length] at hk
        exact q Dd H3 ⟨kvs, e3, hk⟩ s3 nD
    · clear many
      intro d nd
      have s0 : Same H (upd H d (.dK [])) := same_upd nd
      refine ⟨1, rfl, by decide +kernel, fun r0 H1 S1 s1 nr0 => ?_⟩
      have e1 : H1 d = some (.dK []) := s1 _ _ upd_same
      have s01 := s0.trans s1
      have SM1 := SM.same s01
      have el1 := s01 _ _ el
      refine ⟨_, rfl, l, rfl, ⟨_, SqL.of el1⟩, for_list (fun i σ H2 => ∃ (v5 v6 : Option V) (r : Addr) (m : Int) (kvs : List (L2.Key × V)), σ = [some (.ref b), some (.ref l), v5, some (.ref d), some (.ref r), some (.int m), v6] ∧ H2 d = some (.dK kvs) ∧ kvs.length ≤ i ∧ 0 ≤ m ∧ m ≤ (top : Int) ∧ (∀ k ∈ ks.drop i, m ≤ k) ∧
        SumAt K w C H2 r (powM M m.toNat) ∧ (∀ k ∈ ks.take i, ∃ q, valV kvs (.inl k) = some (.ref q) ∧ SumAt K w C H2 q (powM M k.toNat)) ∧ Else d H1 H2)
        ⟨none, none, r0, 0, [], rfl, e1, Nat.le_refl 0, Int.le_refl 0, by omega, fun k hk => (by have := (rg k (by simpa using hk)).1; omega), S1, (fun k hk => by rw [List.take_zero] at hk; cases hk), .refl _ _⟩
        (fun i σ H2 _ ⟨_, _, _, _, _, _, _, _, _, _, _, _, _, z⟩ => SqL.of (z _ _ el1 (ne_of_none el nd))) ?_ ?_⟩
      · rintro i x σ H2 hx ⟨v5, v6, r, m, kvs, rfl, e2, hl, m0, mt, mk, Sr, hk, e12⟩
        rw [List.getElem?_map] at hx
        cases hy : ks[i]? with
        | none =>
          rw [hy] at hx
          cases hx
        | some k =>
          rw [hy] at hx
          cases hx
          have hi : i < ks.length := (List.getElem?_eq_some_iff.mp hy).1
          have mem : k ∈ ks := List.mem_of_getElem? hy
          have hk0 := rg k mem
          have dr : ks.drop i = k :: ks.drop (i + 1) := by
            rw [List.drop_eq_getElem_cons hi, (List.getElem?_eq_some_iff.mp hy).2]
          have mle : m ≤ k := mk k (by rw [dr]; simp)
          have SM2 : SumAt K w C H2 b M := SM1.else e12 e1
          refine ⟨_, rfl, _, rfl, m, k, rfl, ⟨by omega, by omega, by omega, by omega⟩, for_range (lo := m) (n := (k - m).toNat) (fun t σ H3 => ∃ (v6 : Option V) (r : Addr), σ = [some (.ref b), some (.ref l), some (.int k), some (.ref d), some (.ref r), some (.int m), v6] ∧ SumAt K w C H3 r (powM M (m.toNat + t)) ∧ Same H2 H3) ⟨v6, r, rfl, Sr, fun _ _ e => e⟩ ?_ ?_⟩
          · rintro t σ H3 ht ⟨v6, r, rfl, Sr, s3⟩
            have jt : m.toNat + t + 1 ≤ top := by omega
            have j1 := fit_pow pf.fit (m.toNat + t)
            have hd1 : D ^ (m.toNat + t) * D < big := by rw [← Nat.pow_succ]; exact Nat.lt_of_le_of_lt (pow_up pf.d1 jt) pf.db
            have hs1 : S ^ (m.toNat + t) * S < big := by rw [← Nat.pow_succ]; exact Nat.lt_of_le_of_lt (pow_up pf.s1 jt) pf.sb
            have hn1 : n ^ (m.toNat + t) * n < sizeLine := by rw [← Nat.pow_succ]; exact Nat.lt_of_le_of_lt (pow_up pf.n1 jt) pf.nb
            refine ⟨_, rfl, _, rfl, r, b, _, _, Of ns, _, _, _, D, _, S, rfl, Sr, SM2.same s3, j1, pf.fit, Nat.pow_pos pf.d1, pf.d1, hd1, ?_, ?_, hs1, hn1, fun _ _ => Of.join, fun a ha => ⟨ha.1, Nat.lt_of_le_of_lt ha.len pf.ns⟩, fun r' H' Sr' s' nr' => ⟨_, r', rfl, Sr', s3.trans s'⟩⟩
            · exact Nat.lt_of_le_of_lt (Nat.le_mul_of_pos_right _ pf.s1) hs1
            · exact Nat.lt_of_le_of_lt (Nat.le_mul_of_pos_left _ (Nat.pow_pos pf.s1)) hs1
          · rintro σ H3 ⟨v6, r, rfl, Sr, s3⟩
            have ek : m.toNat + (k - m).toNat = k.toNat := by omega
            rw [ek] at Sr
            have e3 := s3 _ _ e2
            refine ⟨_, rfl, _, rfl, _, rfl, _, rfl, d, _, rfl, DPut.k (k := .inl k) e3 ?_, ?_⟩
            · rw [sizeLine_eq]
              omega
            · have e34 : Else d H3 (upd H3 d (.dK (putK kvs (.inl k) (.ref r)))) := .upd
              refine ⟨_, _, r, k, _, rfl, upd_same, ?_, (by omega), hk0.2, ?_, Sr.else e34 e3, fun j hj => ?_, (e12.same s3).trans e34⟩
              · have := length_putK kvs (.inl k) (V.ref r)
                omega
              · intro j hj
                have u := up.sublist (List.drop_sublist i ks)
                rw [dr] at u
                exact (List.pairwise_cons.mp u).1 j hj
              · rw [valV_put]
                by_cases z : j = k
                · subst z
                  exact ⟨r, by rw [if_pos rfl], Sr.else e34 e3⟩
                · rw [if_neg (by simpa using z)]
                  have hj' : j ∈ ks.take i := by
                    rw [List.take_add_one, hy] at hj
                    rcases List.mem_append.mp hj with y | y
                    · exact y
                    · exact absurd (by simpa using y) z
                  obtain ⟨g, g1, g2⟩ := hk j hj'
                  exact ⟨g, g1, (g2.same s3).else e34 e3⟩
      · rintro σ H2 ⟨v5, v6, r, m, kvs, rfl, e2, hl, m0, mt, mk, Sr, hk, e12⟩
        rw [List.length_map, List.take_length] at hk
        exact ⟨_, rfl, q d H2 ⟨kvs, e2, hk⟩ (Else.fresh nd s01 e12) nd⟩
end
/-! ### which powers of which names are wanted -/
abbrev Want := List (Str × Addr × List Int)
def wV (W : Want) : List (L2.Key × V) := W.map fun e => (Sum.inr e.1, V.ref e.2.1)
def kT (ks : List Int) : List (L2.Key × V) := ks.map fun k => (Sum.inl k, V.bl true)
theorem wV_len (W : Want) : (wV W).length = W.length := List.length_map ..
theorem kT_len (ks : List Int) : (kT ks).length = ks.length := List.length_map ..
theorem wV_val {W : Want} (hn : (W.map (·.1)).Nodup) {e : Str × Addr × List Int} (he : e ∈ W) : valV (wV W) (.inr e.1) = some (.ref e.2.1) := by
  induction W with
  | nil => cases he
  | cons f r ih =>
    rw [List.map_cons] at hn
    obtain ⟨n1, n2⟩ := List.nodup_cons.mp hn
    rcases List.mem_cons.mp he with z | z
    · subst z
      exact valV_pos rfl
    · have ne : ¬ ((Sum.inr f.1 : L2.Key) = .inr e.1) := fun y => n1 (by rw [Sum.inr.inj y]; exact List.mem_map.mpr ⟨e, z, rfl⟩)
      show valV ((Sum.inr f.1, V.ref f.2.1) :: wV r) _ = _
      rw [valV_neg ne]
      exact ih n2 z
theorem wV_some {W : Want} {x : Str} {v : V} (h : valV (wV W) (.inr x) = some v) : ∃ e ∈ W, e.1 = x ∧ v = .ref e.2.1 := by
  induction W with
  | nil => cases h
  | cons f r ih =>
    by_cases z : f.1 = x
    · rw [show wV (f :: r) = (Sum.inr f.1, V.ref f.2.1) :: wV r from rfl, valV_pos (by rw [z])] at h
      exact ⟨f, by simp, z, (Option.some.inj h).symm⟩
    · rw [show wV (f :: r) = (Sum.inr f.1, V.ref f.2.1) :: wV r from rfl, valV_neg (by simpa using z)] at h
      obtain ⟨e, he, a, b⟩ := ih h
      exact ⟨e, by simp [he], a, b⟩
theorem wV_none {W : Want} {x : Str} (h : valV (wV W) (.inr x) = none) : ∀ e ∈ W, e.1 ≠ x := by
  intro e he z
  induction W with
  | nil => cases he
  | cons f r ih =>
    by_cases y : f.1 = x
    · rw [show wV (f :: r) = (Sum.inr f.1, V.ref f.2.1) :: wV r from rfl, valV_pos (by rw [y])] at h
      cases h
    · rw [show wV (f :: r) = (Sum.inr f.1, V.ref f.2.1) :: wV r from rfl, valV_neg (by simpa using y)] at h
      rcases List.mem_cons.mp he with q | q
      · subst q
        exact y z
      · exact ih h q
theorem wV_no {W : Want} {x : Str} (h : ∀ e ∈ W, e.1 ≠ x) : valV (wV W) (.inr x) = none := by
  cases e : valV (wV W) (.inr x) with
  | none => rfl
  | some v =>
    obtain ⟨f, hf, a, _⟩ := wV_some e
    exact absurd a (h f hf)
def addK (ks : List Int) (k : Int) : List Int := if k ∈ ks then ks else ks ++ [k]
theorem addK_mem (ks : List Int) (k : Int) (j : Int) : j ∈ addK ks k ↔ j ∈ ks ∨ j = k := by
  unfold addK
  split
  · rename_i h
    exact ⟨.inl, fun z => z.elim id fun e => by rw [e]; exact h⟩
  · simp
theorem addK_nodup {ks : List Int} (k : Int) (h : ks.Nodup) : (addK ks k).Nodup := by
  unfold addK
  split
  · exact h
  · rename_i n
    refine List.nodup_append.mpr ⟨h, by simp, fun a ha b hb z => ?_⟩
    have eb : b = k := by simpa using hb
    subst z
    subst eb
    exact n ha
theorem kT_put (ks : List Int) (k : Int) : putK (kT ks) (.inl k) (.bl true) = kT (addK ks k) := by
  unfold putK addK kT
  have e : ((ks.map fun k => ((Sum.inl k : L2.Key), V.bl true)).any fun kv => decide (kv.1 = (Sum.inl k : L2.Key))) = decide (k ∈ ks) := by
    rw [List.any_map]
    induction ks with
    | nil => rfl
    | cons a r ih =>
      rw [List.any_cons, ih]
      by_cases z : a = k
      · simp [z]
      · have z' : ¬ k = a := fun y => z y.symm
        simp [z, z']
  rw [e]
  by_cases c : k ∈ ks
  · rw [if_pos (by simpa using c), if_pos c, List.map_map]
    refine List.map_congr_left fun a _ => ?_
    show (if (Sum.inl a : L2.Key) = Sum.inl k then ((Sum.inl a : L2.Key), V.bl true) else (Sum.inl a, V.bl true)) = _
    split <;> rfl
  · rw [if_neg (by simpa using c), if_neg c, List.map_append]
    rfl
def addW (W : Want) (x : Str) (k : Int) : Want := W.map fun e => if e.1 = x then (e.1, e.2.1, addK e.2.2 k) else e
theorem addW_V (W : Want) (x : Str) (k : Int) : wV (addW W x k) = wV W := by
  unfold wV addW
  rw [List.map_map]
  refine List.map_congr_left fun e _ => ?_
  show (Sum.inr (if e.1 = x then (e.1, e.2.1, addK e.2.2 k) else e).1, V.ref (if e.1 = x then (e.1, e.2.1, addK e.2.2 k) else e).2.1) = _
  split <;> rfl
theorem addW_names (W : Want) (x : Str) (k : Int) : (addW W x k).map (·.1) = W.map (·.1) := by
  unfold addW
  rw [List.map_map]
  refine List.map_congr_left fun e _ => ?_
  show (if e.1 = x then (e.1, e.2.1, addK e.2.2 k) else e).1 = _
  split <;> rfl
theorem addW_addrs (W : Want) (x : Str) (k : Int) : (addW W x k).map (·.2.1) = W.map (·.2.1) := by
  unfold addW
  rw [List.map_map]
  refine List.map_congr_left fun e _ => ?_
  show (if e.1 = x then (e.1, e.2.1, addK e.2.2 k) else e).2.1 = _
  split <;> rfl
def HasW (W : Want) (x : Str) (k : Int) : Prop := ∃ e ∈ W, e.1 = x ∧ k ∈ e.2.2
theorem HasW.add {W : Want} {y : Str} {j : Int} (x : Str) (k : Int) (h : HasW W y j) : HasW (addW W x k) y j := by
  obtain ⟨e, he, a, b⟩ := h
  refine ⟨_, List.mem_map.mpr ⟨e, he, rfl⟩, ?_⟩
  show (if e.1 = x then (e.1, e.2.1, addK e.2.2 k) else e).1 = y ∧ j ∈ (if e.1 = x then (e.1, e.2.1, addK e.2.2 k) else e).2.2
  split
  · exact ⟨a, (addK_mem _ _ _).mpr (.inl b)⟩
  · exact ⟨a, b⟩
theorem HasW.now {W : Want} {x : Str} {k : Int} {e : Str × Addr × List Int} (he : e ∈ W) (hx : e.1 = x) : HasW (addW W x k) x k := by
  refine ⟨_, List.mem_map.mpr ⟨e, he, rfl⟩, ?_⟩
  show (if e.1 = x then (e.1, e.2.1, addK e.2.2 k) else e).1 = x ∧ k ∈ (if e.1 = x then (e.1, e.2.1, addK e.2.2 k) else e).2.2
  rw [if_pos hx]
  exact ⟨hx, (addK_mem _ _ _).mpr (.inr rfl)⟩
/-- the dict D of dicts; all of them new since H0 -/
structure WAt (H0 H : Hp) (D : Addr) (W : Want) (dom : Str → Prop) (top : Nat) : Prop where
  d : H D = some (.dK (wV W))
  nd : (W.map (·.1)).Nodup
  ad : (W.map (·.2.1)).Nodup
  ne : ∀ e ∈ W, e.2.1 ≠ D
  new : ∀ e ∈ W, H0 e.2.1 = none
  at_ : ∀ e ∈ W, H e.2.1 = some (.dK (kT e.2.2))
  dom : ∀ e ∈ W, dom e.1
  nk : ∀ e ∈ W, e.2.2.Nodup
  rg : ∀ e ∈ W, ∀ k ∈ e.2.2, 1 ≤ k ∧ k ≤ (top : Int)
theorem WAt.same {H0 H H' : Hp} {D : Addr} {W : Want} {dom : Str → Prop} {top : Nat} (h : WAt H0 H D W dom top) (s : Same H H') : WAt H0 H' D W dom top := ⟨s _ _ h.d, h.nd, h.ad, h.ne, h.new, fun e he => s _ _ (h.at_ e he), h.dom, h.nk, h.rg⟩
theorem WAt.make {H0 H : Hp} {D : Addr} {W : Want} {dom : Str → Prop} {top : Nat} (h : WAt H0 H D W dom top) {x : Str} {a : Addr} (hx : dom x) (no : valV (wV W) (.inr x) = none) (s0 : Same H0 H) (na : H a = none) :
    WAt H0 (upd (upd H a (.dK [])) D (.dK (putK (wV W) (.inr x) (.ref a)))) D (W ++ [(x, a, [])]) dom top := by
  have aD : a ≠ D := (ne_of_none h.d na).symm
  have h0a : H0 a = none := by
    cases e : H0 a with
    | none => rfl
    | some u =>
      have := s0 _ _ e
      rw [na] at this
      cases this
  have cs : ∀ {Q : Str × Addr × List Int → Prop}, (∀ e ∈ W, Q e) → Q (x, a, []) → ∀ e ∈ W ++ [(x, a, [])], Q e := fun h1 h2 e he => by
    rcases List.mem_append.mp he with z | z
    · exact h1 e z
    · rw [show e = (x, a, []) by simpa using z]
      exact h2
  refine ⟨?_, ?_, ?_, cs h.ne aD, cs h.new h0a, cs (fun e he => ?_) ?_, cs h.dom hx, cs h.nk List.nodup_nil, cs h.rg fun _ hk => nomatch hk⟩
  · rw [upd_same, putK_new _ no]
    unfold wV
    rw [List.map_append]
    rfl
  · rw [List.map_append]
    refine List.nodup_append.mpr ⟨h.nd, by simp, fun b hb c hc z => ?_⟩
    obtain ⟨e, he, ee⟩ := List.mem_map.mp hb
    have ec : c = x := by simpa using hc
    exact wV_none no e he (by rw [ee, z, ec])
  · rw [List.map_append]
    refine List.nodup_append.mpr ⟨h.ad, by simp, fun b hb c hc z => ?_⟩
    obtain ⟨e, he, ee⟩ := List.mem_map.mp hb
    have ec : c = a := by simpa using hc
    have := h.at_ e he
    have e1 : e.2.1 = a := by rw [ee, z, ec]
    rw [e1, na] at this
    cases this
  · rw [upd_ne (h.ne e he), upd_ne (ne_of_none (h.at_ e he) na)]
    exact h.at_ e he
  · rw [upd_ne aD]
    exact upd_same
theorem WAt.put {H0 H : Hp} {D : Addr} {W : Want} {dom : Str → Prop} {top : Nat} (h : WAt H0 H D W dom top) {e : Str × Addr × List Int} (he : e ∈ W) {k : Int} (hk : 1 ≤ k ∧ k ≤ (top : Int)) :
    WAt H0 (upd H e.2.1 (.dK (putK (kT e.2.2) (.inl k) (.bl true)))) D (addW W e.1 k) dom top := by
  have uniq : ∀ f ∈ W, f.1 = e.1 → f = e := fun f hf z => by
    obtain ⟨i, hi⟩ := List.mem_iff_getElem?.mp hf
    obtain ⟨j, hj⟩ := List.mem_iff_getElem?.mp he
    have a : (W.map (·.1))[i]? = some e.1 := by rw [List.getElem?_map, hi, ← z]; rfl
    have b : (W.map (·.1))[j]? = some e.1 := by rw [List.getElem?_map, hj]; rfl
    have := nd_ix h.nd a b
    subst this
    rw [hi] at hj
    exact Option.some.inj hj
  have uniqA : ∀ f ∈ W, f.2.1 = e.2.1 → f = e := fun f hf z => by
    obtain ⟨i, hi⟩ := List.mem_iff_getElem?.mp hf
    obtain ⟨j, hj⟩ := List.mem_iff_getElem?.mp he
    have a : (W.map (·.2.1))[i]? = some e.2.1 := by rw [List.getElem?_map, hi, ← z]; rfl
    have b : (W.map (·.2.1))[j]? = some e.2.1 := by rw [List.getElem?_map, hj]; rfl
    have := nd_ix h.ad a b
    subst this
    rw [hi] at hj
    exact Option.some.inj hj
  have cs : ∀ {Q : Str × Addr × List Int → Prop}, (∀ f ∈ W, f.1 ≠ e.1 → Q f) → Q (e.1, e.2.1, addK e.2.2 k) → ∀ f ∈ addW W e.1 k, Q f := fun h1 h2 f hf => by
    obtain ⟨g, hg, eg⟩ := List.mem_map.mp hf
    by_cases z : g.1 = e.1
    · rw [if_pos z, uniq g hg z] at eg
      rw [← eg]
      exact h2
    · rw [if_neg z] at eg
      rw [← eg]
      exact h1 g hg z
  refine ⟨?_, by rw [addW_names]; exact h.nd, by rw [addW_addrs]; exact h.ad, cs (fun f hf _ => h.ne f hf) (h.ne e he), cs (fun f hf _ => h.new f hf) (h.new e he), cs (fun f hf z => ?_) ?_, cs (fun f hf _ => h.dom f hf) (h.dom e he), cs (fun f hf _ => h.nk f hf) (addK_nodup k (h.nk e he)), cs (fun f hf _ => h.rg f hf) fun j hj => ?_⟩
  · rw [upd_ne (h.ne e he).symm, addW_V]
    exact h.d
  · rw [upd_ne fun y => z (by rw [uniqA f hf y])]
    exact h.at_ f hf
  · rw [upd_same, kT_put]
  · rcases (addK_mem _ _ _).mp hj with y | y
    · exact h.rg e he j y
    · rw [y]
      exact hk
theorem WAt.lens {H0 H : Hp} {D : Addr} {W : Want} {dom : Str → Prop} {top : Nat} (h : WAt H0 H D W dom top) : ∀ e ∈ W, e.2.2.length ≤ top := fun e he => by
  have z := nodup_len (m := (List.range top).map fun i : Nat => ((i : Int) + 1)) (h.nk e he) fun k hk => by
    have := h.rg e he k hk
    refine List.mem_map.mpr ⟨(k - 1).toNat, List.mem_range.mpr (by omega), by omega⟩
  rw [List.length_map, List.length_range] at z
  exact z
/-! ### the wanted powers of what is put in -/
theorem dc_keys {d : Addr} {o : Obj} {kvs : List (L2.Key × V)} {g : TG} {tt : TT} {tk tv : TE} {vs : List Nat} {σ : L2.St} {H1 : Hp} {D : Addr} {Qd : Hp → Prop} (Pv : Nat → Hp → Prop) (h0 : Pv 0 (upd H1 D (.dK []))) (hl : ∀ i H, i ≤ kvs.length → Pv i H → H d = some (.frz o (.dK kvs)))
    (hs : ∀ i k v H, kvs[i]? = some (k, v) → Pv i H → g (kV k) (wipe σ vs) H fun σ2 H2 => wipe σ2 vs = wipe σ vs ∧ tt σ2 H2 fun b H3 =>
      if b = true then tk σ2 H3 fun y H4 => tv σ2 H4 fun z H5 => ∃ kvs k, y = kV k ∧ H5 D = some (.dK kvs) ∧ kvs.length < sizeLine ∧ Pv (i + 1) (upd H5 D (.dK (putK kvs k z))) else Pv (i + 1) H3) (hd : ∀ H, Pv kvs.length H → Qd H) :
    ∃ W : Nat → Nat → Hp → Prop, (∃ m, W 0 m (upd H1 D (.dK []))) ∧ ∀ i m H, W i m H →
      ((Itk d o kvs).stop i H ∧ Qd H) ∨ ((Itk d o kvs).go i H ∧ ∃ Nx : Hp → Prop, (∀ H', Nx H' → ∃ m', m' < m ∧ W (i + 1) m' H') ∧ ∀ x H', (Itk d o kvs).yld i H x H' → g x (wipe σ vs) H' fun σ2 H2 => wipe σ2 vs = wipe σ vs ∧ tt σ2 H2 fun b H3 =>
        if b = true then tk σ2 H3 fun y H4 => tv σ2 H4 fun z H5 => ∃ kvs k, y = kV k ∧ H5 D = some (.dK kvs) ∧ kvs.length < sizeLine ∧ Nx (upd H5 D (.dK (putK kvs k z))) else Nx H3) := by
  refine ⟨fun i m H => m = kvs.length - i ∧ i ≤ kvs.length ∧ Pv i H, ⟨kvs.length, by simp, Nat.zero_le _, h0⟩, ?_⟩
  rintro i m H ⟨rfl, hi, p⟩
  have F := hl i H hi p
  by_cases lt : i < kvs.length
  · refine .inr ⟨⟨F, lt⟩, Pv (i + 1), fun H' p' => ⟨kvs.length - (i + 1), by omega, rfl, lt, p'⟩, fun x H' ⟨eH, k, v, hL, ex⟩ => ?_⟩
    subst ex
    subst eH
    exact hs i k v _ hL p
  · have e : i = kvs.length := by omega
    subst e
    exact .inl ⟨⟨F, Nat.le_refl _⟩, hd H p⟩
/-- the dict of what is put in -/
structure FillAt (K : PySem.W.Frag) (w : World) (C : Addr) (H : Hp) (d : Addr) (F : Str → Option Poly) (fk : List (L2.Key × V)) : Prop where
  d : H d = some (.dK fk)
  no : ∀ x, F x = none → valV fk (.inr x) = none
  yes : ∀ x N, F x = some N → ∃ s, valV fk (.inr x) = some (.ref s) ∧ SumAt K w C H s N
theorem FillAt.same {K w C H H' d F fk} (h : FillAt K w C H d F fk) (s : Same H H') : FillAt K w C H' d F fk := ⟨s _ _ h.d, h.no, fun x N e => let ⟨q, a, b⟩ := h.yes x N e; ⟨q, a, b.same s⟩⟩
/-- .. raised to all powers that are wanted for M -/
def RisenAt (K : PySem.W.Frag) (w : World) (C : Addr) (H : Hp) (r : Addr) (F : Str → Option Poly) (M : Poly) : Prop := ∃ kvs : List (L2.Key × V), H r = some (.dK kvs) ∧ ∀ y ∈ M, ∀ e ∈ y.1, (F e.1 = none → valV kvs (.inr e.1) = none) ∧
  ∀ N, F e.1 = some N → ∃ (q s : Addr) (pk : List (L2.Key × V)), valV kvs (.inr e.1) = some (.ref q) ∧ H q = some (.dK pk) ∧ valV pk (.inl e.2) = some (.ref s) ∧ SumAt K w C H s (powM N e.2.toNat)
theorem PowAt.else {K : PySem.W.Frag} {w : World} {C : Addr} {H H' : Hp} {p d : Addr} {M : Poly} {ks : List Int} {kvs : List (L2.Key × V)} (h : PowAt K w C H p M ks) (e : Else d H H') (hd : H d = some (.dK kvs)) (n : p ≠ d) : PowAt K w C H' p M ks := by
  obtain ⟨pk, hp, a⟩ := h
  exact ⟨pk, e _ _ hp n, fun k hk => let ⟨q, b, c⟩ := a k hk; ⟨q, b, c.else e hd⟩⟩
theorem PowAt.same {K : PySem.W.Frag} {w : World} {C : Addr} {H H' : Hp} {p : Addr} {M : Poly} {ks : List Int} (h : PowAt K w C H p M ks) (s : Same H H') : PowAt K w C H' p M ks := by
  obtain ⟨pk, hp, a⟩ := h
  exact ⟨pk, s _ _ hp, fun k hk => let ⟨q, b, c⟩ := a k hk; ⟨q, b, c.same s⟩⟩
section
variable {P : Program} {w : World} {K : PySem.W.Frag} {mg : Str → Option Value} {base : Heap} {C : Addr}
def spFillings (K : PySem.W.Frag) (w : World) (C : Addr) : Sp := fun vs H Q _ => ∃ (p d : Addr) (M : Poly) (F : Str → Option Poly) (fk : List (L2.Key × V)) (ns : List Str) (n D S top : Nat), vs = [.ref p, .ref d] ∧ SumAt K w C H p M ∧ FillAt K w C H d F fk ∧ (∀ x N, F x = some N → PowFit ns n D S top N) ∧ ns.length < 32 ∧ top < 900 ∧
  (∀ y ∈ M, ∀ e ∈ y.1, e.1 ∈ ns ∧ 1 ≤ e.2 ∧ e.2 ≤ (top : Int)) ∧ ∀ r H', RisenAt K w C H' r F M → Same H H' → Q (.ref r) H'
theorem ok_risen_fillings {f : Addr} {fd : FuncData} (T : Txt K mg C) (FF : DefAt K mg "_risen_fillings" "_risen_fillings" s_risen_fillings ["given", "filling"] f fd) : FnOk P w K mg base CX0 6 f fd ["given", "filling"] (spFillings K w C) := by
  obtain ⟨f1, fd1, D_powers_of⟩ := T.d_powers_of
  have G_powers_of : FnOk P w K mg base CX0 5 f1 fd1 ["base", "wanted"] (spPowers K w C) := ok_powers_of T D_powers_of
  refine FF.F.ok sc_risen_fillings (fun vs H Q E h => ?_) (fun cdv A outer s H vs Q E hr h => ?_)
  · obtain ⟨p, d, M, F, fk, ns, n, D, S, top, rfl, _⟩ := h
    rfl
  · obtain ⟨p, d, M, F, fk, ns, n, D, S, top, rfl, SM, FA, pf, hns, htop, hM, q⟩ := h
    obtain ⟨dx, d1, o1, L1, ep, n1, r1⟩ := id SM
    have l1 : L1.length = M.length := Paired.length r1
    refine ⟨_, (pss_cons (ps_set (i := 2) sc_risen_fillings.nd rfl (.inr rfl) pe_dnewK)
      (pss_cons (ps_freeze (ps_for PassesOwn.never rfl (pi_keysN (pe_fld (pv 0) rfl)) (pg_name (i := 3) sc_risen_fillings.nd rfl (.inl rfl)) (pss_one (ps_for PassesOwn.never rfl (pi_tup (pv 3)) (pg_tup (by rfl) (pgs_cons (pg_name (i := 4) sc_risen_fillings.nd rfl (.inl rfl)) (pgs_cons (pg_name (i := 5) sc_risen_fillings.nd rfl (.inl rfl)) pgs_nil))) (pss_one (ps_if (pt_cmp (pc_din (room1 hr) (pv 4) (pv 1)) (by rfl)) (pss_one (ps_dput (room1 hr) (pe_dsetd (pv 2) (pv 4) pe_dnewK ⟨rfl, rfl, rfl, rfl⟩) (pv 5) pe_bl rfl)) pss_nil))))))
      (pss_one (ps_ret (pe_dc (own := [("name", 4)]) (g := gName 4) (tt := tYes) rfl sc_risen_fillings.nd (pi_keys (pv 2)) (blkOk_by (own := [("name", 4)]) (N := ["given", "filling", "wanted", "product", "name", "power"]) (sc := defScope s_risen_fillings) (by decide +kernel)) (fun _ _ _ _ _ => (pg_name (i := 4) sc_risen_fillings.nd rfl (.inl rfl))) (fun _ _ _ _ _ => pts_nil) (fun _ _ _ _ _ => (pv 4)) (fun _ _ _ _ _ => (pe_call G_powers_of (hr.mono (by decide)) (by rfl) D_powers_of.g D_powers_of.F.kp D_powers_of.b .nil pass0 (pa_cons (pe_dget (room1 hr) (pv 1) (pv 4) (fun _ _ => rfl)) (pa_cons (pe_callB (cr_sortedDI rfl) (by rfl) T.m_sorted (by decide +kernel) (pa_cons (pe_dget (room1 hr) (pv 2) (pv 4) (fun _ _ => rfl)) pa_nil)) pa_nil))))))))), ?_⟩
    intro wd nwd
    have s0 : Same H (upd H wd (.dK [])) := same_upd nwd
    let dom : Str → Prop := fun x => x ∈ ns ∧ F x ≠ none
    refine ⟨_, rfl, p, C, dx, _, _, rfl, s0 _ _ ep, T.cl_Sum, T.n_Sum_parts, sumF_parts _, d1, o1, L1, rfl, n1.stay (.same s0) (fun o e => s0 _ _ e), for_keysN (fun i σ H2 => ∃ (v3 v4 v5 : Option V) (W : Want), σ = [some (.ref p), some (.ref d), some (.ref wd), v3, v4, v5] ∧ WAt H H2 wd W dom top ∧ (∀ y ∈ M.take i, ∀ e ∈ y.1, F e.1 ≠ none → HasW W e.1 e.2) ∧ Same H H2)
      ⟨none, none, none, [], rfl, ⟨upd_same, List.nodup_nil, List.nodup_nil, (fun _ h => nomatch h), (fun _ h => nomatch h), (fun _ h => nomatch h), (fun _ h => nomatch h), (fun _ h => nomatch h), (fun _ h => nomatch h)⟩, (fun y hy => by rw [List.take_zero] at hy; cases hy), s0⟩
      (fun i σ H2 _ ⟨_, _, _, _, _, _, _, z⟩ => n1.stay (.same z) fun o e => z _ _ e) ?_ ?_⟩
    · rintro i kk v σ H2 b hL ⟨v3, v4, v5, W, rfl, WA, hW, s2⟩ hb
      obtain ⟨x, r, hMi, rfl, hq⟩ := r1.at_ hL
      have memM : (kk, r) ∈ M := List.mem_of_getElem? hMi
      obtain ⟨qs, hqs, pqs⟩ := id hb
      have lq : qs.length = kk.length := Paired.length pqs
      refine ⟨_, rfl, b, rfl, ⟨_, hqs⟩, for_tup (fun j σ H3 => ∃ (v4 v5 : Option V) (W : Want), σ = [some (.ref p), some (.ref d), some (.ref wd), some (.ref b), v4, v5] ∧ WAt H H3 wd W dom top ∧ (∀ y ∈ M.take i, ∀ e ∈ y.1, F e.1 ≠ none → HasW W e.1 e.2) ∧ (∀ e ∈ kk.take j, F e.1 ≠ none → HasW W e.1 e.2) ∧ Same H H3 ∧ TupsStay H2 H3)
        ⟨v4, v5, W, rfl, WA, hW, (fun e he => by rw [List.take_zero] at he; cases he), s2, .refl _⟩ (fun j σ H3 _ ⟨_, _, _, _, _, _, _, _, z⟩ => SqT.keeps hqs z) ?_ ?_⟩
      · rintro j y σ H3 hy ⟨v4, v5, W, rfl, WA, hW, hj, s3, t3⟩
        obtain ⟨qa, e, rfl, he, hqa⟩ := Paired.ixR pqs hy
        have mem : e ∈ kk := List.mem_of_getElem? he
        have eM := hM _ memM e mem
        have FA3 := FA.same s3
        have tk : kk.take (j + 1) = kk.take j ++ [e] := by rw [List.take_add_one, he]; rfl
        refine ⟨qa, _, rfl, SqT.keeps hqa t3, rfl, _, [.int e.2], rfl, _, [], rfl, rfl, _, rfl, _, rfl, d, _, rfl, DGet.k (k := .inr e.1) FA3.d, _, rfl, ite2 (fun c => ?_) (fun c => ?_)⟩
        · -- a name that is put in
          have hF : F e.1 ≠ none := fun z => by
            rw [FA3.no _ z] at c
            cases c
          refine ⟨_, rfl, wd, rfl, .inl ⟨_, .inl WA.d⟩, _, rfl, fun a na => ?_⟩
          have sa : Same H3 (upd H3 a (.dK [])) := same_upd na
          have WA4 := WA.same sa
          have lW : W.length ≤ ns.length := by
            have z := nodup_len (m := ns) WA.nd fun x hx => by
              obtain ⟨e, he, ee⟩ := List.mem_map.mp hx
              rw [← ee]
              exact (WA.dom e he).1
            rwa [List.length_map] at z
          refine ⟨_, .inr e.1, WA4.d, rfl, by rw [wV_len, sizeLine_eq]; omega, fun v hv => ?_, fun hv => ?_⟩
          · -- there already
            obtain ⟨g, hg, eg, rfl⟩ := wV_some hv
            have lg := WA4.lens g hg
            have H0g : Same H (upd (upd H3 a (.dK [])) g.2.1 (.dK (putK (kT g.2.2) (.inl e.2) (.bl true)))) := fun c u ec => by
              rw [upd_ne (ne_of_none ec (WA4.new g hg))]
              exact sa _ _ (s3 _ _ ec)
            refine ⟨_, rfl, g.2.1, _, rfl, DPut.k (k := .inl e.2) (WA4.at_ g hg) (by rw [kT_len, sizeLine_eq]; omega), _, _, addW W g.1 e.2, rfl, WA4.put hg eM.2, fun y hy e' he' h' => (hW y hy e' he' h').add _ _, fun e' he' h' => ?_, H0g, t3.trans ((TupsStay.same sa).trans (.upd (WA4.at_ g hg) True.intro))⟩
            rw [tk] at he'
            rcases List.mem_append.mp he' with z | z
            · exact (hj e' z h').add _ _
            · rw [show e' = e by simpa using z, ← eg]
              exact HasW.now hg rfl
          · -- new
            have WA5 := WA.make (x := e.1) ⟨eM.1, hF⟩ hv s3 na
            have mk : (e.1, a, ([] : List Int)) ∈ W ++ [(e.1, a, [])] := by simp
            have aD : a ≠ wd := (ne_of_none WA.d na).symm
            have H0g : Same H (upd (upd (upd H3 a (.dK [])) wd (.dK (putK (wV W) (.inr e.1) (.ref a)))) a (.dK (putK (kT []) (.inl e.2) (.bl true)))) := fun c u ec => by
              rw [upd_ne (ne_of_none ec (WA5.new _ mk)), upd_ne (ne_of_none ec nwd)]
              exact sa _ _ (s3 _ _ ec)
            have t5 : TupsStay H3 (upd (upd (upd H3 a (.dK [])) wd (.dK (putK (wV W) (.inr e.1) (.ref a)))) a (.dK (putK (kT []) (.inl e.2) (.bl true)))) :=
              ((TupsStay.same sa).trans (.upd (WA4.d) True.intro)).trans (.upd (WA5.at_ _ mk) True.intro)
            refine ⟨_, rfl, a, _, rfl, DPut.k (k := .inl e.2) (WA5.at_ _ mk) (by rw [kT_len, sizeLine_eq]; exact (by decide : 0 < 16777216)), _, _, addW (W ++ [(e.1, a, [])]) e.1 e.2, rfl, WA5.put mk eM.2, fun y hy e' he' h' => ?_, fun e' he' h' => ?_, H0g, t3.trans t5⟩
            · obtain ⟨g, hg, g1, g2⟩ := hW y hy e' he' h'
              exact HasW.add _ _ ⟨g, by simp [hg], g1, g2⟩
            · rw [tk] at he'
              rcases List.mem_append.mp he' with z | z
              · obtain ⟨g, hg, g1, g2⟩ := hj e' z h'
                exact HasW.add _ _ ⟨g, by simp [hg], g1, g2⟩
              · rw [show e' = e by simpa using z]
                exact HasW.now mk rfl
        · have hF : F e.1 = none := by
            cases z : F e.1 with
            | none => rfl
            | some N =>
              obtain ⟨sN, a, _⟩ := FA3.yes _ _ z
              rw [a] at c
              exact absurd rfl c
          refine ⟨_, _, W, rfl, WA, hW, fun e' he' h' => ?_, s3, t3⟩
          rw [tk] at he'
          rcases List.mem_append.mp he' with z | z
          · exact hj e' z h'
          · rw [show e' = e by simpa using z] at h'
            exact absurd hF h'
      · rintro σ H3 ⟨v4, v5, W, rfl, WA, hW, hj, s3, t3⟩
        rw [List.length_map, lq, List.take_length] at hj
        refine ⟨_, _, _, W, rfl, WA, fun y hy e he h' => ?_, s3⟩
        rw [List.take_add_one, hMi] at hy
        rcases List.mem_append.mp hy with z | z
        · exact hW y z e he h'
        · rw [show y = (kk, r) by simpa using z] at he
          exact hj e he h'
    · rintro σ H2 ⟨v3, v4, v5, W, rfl, WA, hW, s2⟩
      rw [l1, List.take_length] at hW
      refine ⟨wd, _, WA.d, True.intro, fun od => ?_⟩
      have nF : ∀ c u, H2 c = some u → c ≠ wd → (upd H2 wd (.frz od (.dK (wV W)))) c = some u := fun c u e n => by rw [upd_ne n]; exact e
      have sF : Same H (upd H2 wd (.frz od (.dK (wV W)))) := fun c u e => nF _ _ (s2 _ _ e) (ne_of_none e nwd)
      have atF : ∀ e ∈ W, (upd H2 wd (.frz od (.dK (wV W)))) e.2.1 = some (.dK (kT e.2.2)) := fun e he => nF _ _ (WA.at_ e he) (WA.ne e he)
      have dF : (upd H2 wd (.frz od (.dK (wV W)))) wd = some (.frz od (.dK (wV W))) := upd_same
      refine ⟨_, rfl, wd, od, rfl, .inl ⟨_, upd_same, fun D2 nD2 => dc_keys (fun i H3 => ∃ R : Want, H3 D2 = some (.dK (wV R)) ∧ R.map (fun e => (e.1, e.2.2)) = (W.take i).map (fun e => (e.1, e.2.2)) ∧ (∀ e ∈ R, e.2.1 ≠ D2 ∧ ∃ N, F e.1 = some N ∧ PowAt K w C H3 e.2.1 N e.2.2) ∧ Same (upd H2 wd (.frz od (.dK (wV W)))) H3)
        ⟨[], upd_same, by rw [List.take_zero], (fun _ h => nomatch h), same_upd nD2⟩ (fun i H3 _ ⟨_, _, _, _, z⟩ => z _ _ dF) ?_ ?_⟩⟩
      · rintro i k v H3 hL ⟨R, e3, eR, aR, s3⟩
        have hL' : (W.map fun e => ((Sum.inr e.1 : L2.Key), V.ref e.2.1))[i]? = some (k, v) := hL
        rw [List.getElem?_map] at hL'
        cases hWi : W[i]? with
        | none =>
          rw [hWi] at hL'
          cases hL'
        | some e =>
          rw [hWi] at hL'
          cases hL'
          have he : e ∈ W := List.mem_of_getElem? hWi
          have hi : i < W.length := (List.getElem?_eq_some_iff.mp hWi).1
          have FA3 := (FA.same sF).same s3
          obtain ⟨N, hN⟩ : ∃ N, F e.1 = some N := by
            cases z : F e.1 with
            | none => exact absurd z (WA.dom e he).2
            | some N => exact ⟨N, rfl⟩
          obtain ⟨sN, v1, SN'⟩ := FA3.yes _ _ hN
          have g1 : DGet H3 d (kV (.inr e.1)) (some (.ref sN)) := by
            have z := DGet.k (k := .inr e.1) FA3.d
            rwa [v1] at z
          have g2 : DGet H3 wd (kV (.inr e.1)) (some (.ref e.2.1)) := .inl ⟨wV W, .inr e.1, .inr ⟨od, s3 _ _ dF⟩, rfl, (wV_val WA.nd he).symm⟩
          have lks := WA.lens e he
          refine ⟨rfl, _, rfl, _, rfl, _, rfl, d, _, rfl, g1, _, rfl, _, rfl, wd, _, rfl, g2, e.2.1, _, e.2.2, rfl, s3 _ _ (atF e he), ?_, fun ks' l pm up nl => ?_⟩
          · unfold kT
            rw [List.map_map]
            rfl
          · have sl : Same H3 (upd H3 l (.lst (ks'.map V.int))) := same_upd nl
            refine ⟨sN, l, N, ns, n, D, S, top, ks', rfl, SN'.same sl, upd_same, up, fun k hk => ?_, by rw [pm.length_eq]; omega, pf _ _ hN, by omega, fun pp H5 PA s5 np => ?_⟩
            · have := WA.rg e he k (pm.mem_iff.mp hk)
              omega
            · have s35 := sl.trans s5
              have e5 := s35 _ _ e3
              have npD : pp ≠ D2 := (ne_of_none (sl _ _ e3) np).symm
              have el : Else D2 H5 (upd H5 D2 (.dK (putK (wV R) (.inr e.1) (.ref pp)))) := .upd
              have nR : R.map (·.1) = (W.take i).map (·.1) := by
                have z := congrArg (List.map Prod.fst) eR
                rw [List.map_map, List.map_map] at z
                exact z
              have no : valV (wV R) (.inr e.1) = none := wV_no fun f hf z => by
                have m1 : e.1 ∈ (W.take i).map (·.1) := by
                  rw [← nR, ← z]
                  exact List.mem_map.mpr ⟨f, hf, rfl⟩
                obtain ⟨j, hj⟩ := List.mem_iff_getElem?.mp m1
                rw [List.getElem?_map, List.getElem?_take] at hj
                split at hj
                · rename_i lt
                  have a : (W.map (·.1))[j]? = some e.1 := by rw [List.getElem?_map]; exact hj
                  have b : (W.map (·.1))[i]? = some e.1 := by rw [List.getElem?_map, hWi]; rfl
                  have := nd_ix WA.nd a b
                  omega
                · cases hj
              have lW : W.length ≤ ns.length := by
                have z := nodup_len (m := ns) WA.nd fun x hx => by
                  obtain ⟨e, he, ee⟩ := List.mem_map.mp hx
                  rw [← ee]
                  exact (WA.dom e he).1
                rwa [List.length_map] at z
              have lR : R.length ≤ W.length := by
                have z := congrArg List.length nR
                rw [List.length_map, List.length_map, List.length_take] at z
                omega
              have PA' : PowAt K w C H5 pp N e.2.2 := by
                obtain ⟨pk, hp, a⟩ := PA
                exact ⟨pk, hp, fun k hk => a k (pm.mem_iff.mpr hk)⟩
              refine ⟨_, .inr e.1, rfl, e5, by rw [wV_len, sizeLine_eq]; omega, R ++ [(e.1, pp, e.2.2)], ?_, ?_, fun f hf => ?_, ?_⟩
              · rw [upd_same, putK_new _ no]
                unfold wV
                rw [List.map_append]
                rfl
              · rw [List.map_append, eR, List.take_add_one, hWi, List.map_append]
                rfl
              · rcases List.mem_append.mp hf with z | z
                · obtain ⟨b1, N', b2, b3⟩ := aR f z
                  exact ⟨b1, N', b2, (b3.same s35).else el e5 b1⟩
                · rw [show f = (e.1, pp, e.2.2) by simpa using z]
                  exact ⟨npD, N, hN, PA'.else el e5 npD⟩
              · intro c u ec
                rw [upd_ne (ne_of_none ec nD2)]
                exact s35 _ _ (s3 _ _ ec)
      · rintro H3 ⟨R, e3, eR, aR, s3⟩
        rw [wV_len, List.take_length] at eR
        have nR : R.map (·.1) = W.map (·.1) := by
          have z := congrArg (List.map Prod.fst) eR
          rw [List.map_map, List.map_map] at z
          exact z
        have ndR : (R.map (·.1)).Nodup := by rw [nR]; exact WA.nd
        refine q D2 H3 ⟨wV R, e3, fun y hy e he => ⟨fun hF => wV_no fun f hf z => ?_, fun N hF => ?_⟩⟩ (sF.trans s3)
        · obtain ⟨_, N, b2, _⟩ := aR f hf
          rw [z, hF] at b2
          cases b2
        · obtain ⟨g, hg, g1, g2⟩ := hW y hy e he (by rw [hF]; simp)
          have m2 : (g.1, g.2.2) ∈ R.map (fun e => (e.1, e.2.2)) := by
            rw [eR]
            exact List.mem_map.mpr ⟨g, hg, rfl⟩
          obtain ⟨f, hf, ef⟩ := List.mem_map.mp m2
          injection ef with ef1 ef2
          have ef1 : f.1 = g.1 := ef1
          have ef2 : f.2.2 = g.2.2 := ef2
          obtain ⟨b1, N', b2, pk, b3, b4⟩ := aR f hf
          rw [ef1, g1, hF] at b2
          cases b2
          obtain ⟨sq, c1, c2⟩ := b4 e.2 (by rw [ef2]; exact g2)
          exact ⟨f.2.1, sq, pk, by rw [← g1, ← ef1]; exact wV_val ndR hf, b3, c1, c2⟩
end
/-! ### what one part becomes, and all of them -/
theorem SumAt.elseU {K : PySem.W.Frag} {w : World} {C : Addr} {H H' : Hp} {p d : Addr} {M : Poly} {u : HO} (h : SumAt K w C H p M) (e : Else d H H') (hd : H d = some u) (nt : NotTup u) (n1 : ∀ C dx l, HO.ins C dx l ≠ u) (n2 : ∀ o x, HO.frz o x ≠ u) : SumAt K w C H' p M := by
  obtain ⟨dx, d1, o, L, ep, ⟨xs, ed, na⟩, r⟩ := h
  have t : TupsStay H H' := e.tups hd nt
  exact ⟨dx, d1, o, L, e _ _ ep (ne_of ep hd (n1 _ _ _)), ⟨xs, e _ _ ed (ne_of ed hd (n2 _ _)), na.stay t⟩, r.stay t⟩
/-- what stands in the risen dict for a product -/
def RisenFor (K : PySem.W.Frag) (w : World) (C : Addr) (H : Hp) (kvs : List (L2.Key × V)) (F : Str → Option Poly) (p : Pr) : Prop := ∀ e ∈ p, (F e.1 = none → valV kvs (.inr e.1) = none) ∧
  ∀ N, F e.1 = some N → ∃ (q s : Addr) (pk : List (L2.Key × V)), valV kvs (.inr e.1) = some (.ref q) ∧ H q = some (.dK pk) ∧ valV pk (.inl e.2) = some (.ref s) ∧ SumAt K w C H s (powM N e.2.toNat)
theorem RisenFor.same {K w C H H' kvs F p} (h : RisenFor K w C H kvs F p) (s : Same H H') : RisenFor K w C H' kvs F p := fun e he => ⟨(h e he).1, fun N hN => let ⟨q, t, pk, a, b, c, d⟩ := (h e he).2 N hN; ⟨q, t, pk, a, s _ _ b, c, d.same s⟩⟩
theorem RisenFor.elseU {K w C H H' kvs F p} {d : Addr} {u : HO} (h : RisenFor K w C H kvs F p) (e : Else d H H') (hd : H d = some u) (nt : NotTup u) (n0 : ∀ l, HO.dK l ≠ u) (n1 : ∀ C dx l, HO.ins C dx l ≠ u) (n2 : ∀ o x, HO.frz o x ≠ u) : RisenFor K w C H' kvs F p := fun g hg => ⟨(h g hg).1, fun N hN => let ⟨q, t, pk, a, b, c, s⟩ := (h g hg).2 N hN; ⟨q, t, pk, a, e _ _ b (ne_of b hd (n0 _)), c, s.elseU e hd nt n1 n2⟩⟩
def stepF (F : Str → Option Poly) (acc : Poly) (e : Str × Int) : Poly := match F e.1 with
  | some N => mulM acc (powM N e.2.toNat)
  | none => acc
def keptP (F : Str → Option Poly) (p : Pr) : Pr := p.filter fun e => (F e.1).isNone
def filledM (F : Str → Option Poly) (p : Pr) (c : Rat) : Poly := p.foldl (stepF F) [(keptP F p, c)]
def fillTo (F : Str → Option Poly) (p : Pr) (c : Rat) (i : Nat) : Poly := (p.take i).foldl (stepF F) [(keptP F p, c)]
theorem fillTo_succ {F : Str → Option Poly} {p : Pr} {c : Rat} {i : Nat} {e : Str × Int} (h : p[i]? = some e) : fillTo F p c (i + 1) = stepF F (fillTo F p c i) e := by
  unfold fillTo
  rw [List.take_add_one, h, List.foldl_append]
  rfl
/-- the powers of a product together -/
def degP (p : Pr) : Nat := (p.map fun e => e.2.toNat).sum
theorem degP_take {p : Pr} {i : Nat} {e : Str × Int} (h : p[i]? = some e) : degP (p.take (i + 1)) = degP (p.take i) + e.2.toNat := by
  unfold degP
  rw [List.take_add_one, h, List.map_append, List.sum_append]
  simp
theorem degP_le (p : Pr) (i : Nat) : degP (p.take i) ≤ degP p := by
  have e : degP p = degP (p.take i) + degP (p.drop i) := by
    unfold degP
    rw [← List.sum_append, ← List.map_append, List.take_append_drop]
  omega
theorem keptP_of {ns : List Str} {F : Str → Option Poly} {p : Pr} (h : Of ns p) : Of ns (keptP F p) := ⟨⟨h.1.up.sublist List.filter_sublist, fun e he => h.1.one e (List.mem_filter.mp he).1⟩, fun e he => h.2 e (List.mem_filter.mp he).1⟩
theorem fit_one {ns : List Str} {p : Pr} {c : Rat} {D S : Nat} (h : Of ns p) (hc : c ≠ 0) (hw : Whole D c) (hm : mag D c ≤ S) : Fit (Of ns) 1 D S [(p, c)] := by
  refine ⟨⟨List.nodup_cons.mpr ⟨by simp, List.nodup_nil⟩, fun y hy => ?_, fun y hy => ?_⟩, Nat.le_refl 1, fun y hy => ?_, ?_⟩
  · rw [show y = (p, c) by simpa using hy]
    exact hc
  · rw [show y = (p, c) by simpa using hy]
    exact h
  · rw [show y = (p, c) by simpa using hy]
    exact hw
  · rw [szM_cons, szM_nil]
    exact hm
theorem fit_step {ns : List Str} {F : Str → Option Poly} {n S top g n0 D0 s0 : Nat} {acc : Poly} {e : Str × Int} (hF : ∀ x N, F x = some N → PowFit ns n 1 S top N) (hn1 : 1 ≤ n) (hS1 : 1 ≤ S) (h : Fit (Of ns) (n0 * n ^ g) D0 (s0 * S ^ g) acc) : Fit (Of ns) (n0 * n ^ (g + e.2.toNat)) D0 (s0 * S ^ (g + e.2.toNat)) (stepF F acc e) := by
  unfold stepF
  cases hN : F e.1 with
  | none => exact h.mono (Nat.mul_le_mul_left _ (pow_up hn1 (Nat.le_add_right _ _))) (Nat.mul_le_mul_left _ (pow_up hS1 (Nat.le_add_right _ _)))
  | some N =>
    have a := h.mul (fit_pow (hF _ _ hN).fit e.2.toNat) fun _ _ => Of.join
    rw [Nat.one_pow, Nat.mul_one, Nat.mul_assoc, Nat.mul_assoc, ← Nat.pow_add, ← Nat.pow_add] at a
    exact a
theorem fit_fill {ns : List Str} {F : Str → Option Poly} {n S top D0 s0 : Nat} {p : Pr} {c : Rat} (hF : ∀ x N, F x = some N → PowFit ns n 1 S top N) (hn1 : 1 ≤ n) (hS1 : 1 ≤ S) (hp : Of ns p) (hc : c ≠ 0) (hw : Whole D0 c) (hm : mag D0 c ≤ s0) : ∀ i, i ≤ p.length → Fit (Of ns) (1 * n ^ degP (p.take i)) D0 (s0 * S ^ degP (p.take i)) (fillTo F p c i)
  | 0, _ => by
    have a := fit_one (keptP_of (F := F) hp) hc hw hm
    have e0 : degP (p.take 0) = 0 := rfl
    rw [e0, Nat.pow_zero, Nat.pow_zero, Nat.mul_one, Nat.mul_one]
    exact a
  | i + 1, hi => by
    have g : p[i]? = some p[i] := List.getElem?_eq_getElem hi
    rw [degP_take g, fillTo_succ g]
    exact fit_step hF hn1 hS1 (fit_fill hF hn1 hS1 hp hc hw hm i (by omega))
theorem fit_filled {ns : List Str} {F : Str → Option Poly} {n S top D0 s0 : Nat} {p : Pr} {c : Rat} (hF : ∀ x N, F x = some N → PowFit ns n 1 S top N) (hn1 : 1 ≤ n) (hS1 : 1 ≤ S) (hp : Of ns p) (hc : c ≠ 0) (hw : Whole D0 c) (hm : mag D0 c ≤ s0) (hd : degP p ≤ top) : Fit (Of ns) (n ^ top) D0 (s0 * S ^ top) (filledM F p c) := by
  have a := fit_fill hF hn1 hS1 hp hc hw hm p.length (Nat.le_refl _)
  have e : fillTo F p c p.length = filledM F p c := by
    unfold fillTo filledM
    rw [List.take_length]
  rw [e, List.take_length, Nat.one_mul] at a
  exact a.mono (pow_up hn1 hd) (Nat.mul_le_mul_left _ (pow_up hS1 hd))
theorem ix_tupK {X : Cx} {K : PySem.W.Frag} (e : X.K = K) : IxR X (rIxT K) := by
  subst e
  exact ix_tup
section
variable {P : Program} {w : World} {K : PySem.W.Frag} {mg : Str → Option Value} {base : Heap} {C : Addr}
/-- what goes for all that is put in -/
structure PutFit (ns : List Str) (F : Str → Option Poly) (n S top : Nat) : Prop where
  pf : ∀ x N, F x = some N → PowFit ns n 1 S top N
  n1 : 1 ≤ n
  s1 : 1 ≤ S
  nb : n ^ top < sizeLine
  sb : S ^ top < big
  ns : ns.length < 32
  top : top < 900
def spFilled (K : PySem.W.Frag) (w : World) (C : Addr) : Sp := fun vs H Q _ => ∃ (b x r : Addr) (p : Pr) (c : Rat) (F : Str → Option Poly) (kvs : List (L2.Key × V)) (ns : List Str) (n S top D0 s0 : Nat), vs = [.ref b, .ref x, .ref r] ∧ ProdAt K H b p ∧ SqT K H x (ratV c) ∧ H r = some (.dK kvs) ∧ RisenFor K w C H kvs F p ∧ PutFit ns F n S top ∧
  Of ns p ∧ c ≠ 0 ∧ 0 < D0 ∧ D0 < big ∧ Whole D0 c ∧ mag D0 c ≤ s0 ∧ s0 * S ^ top < big ∧ degP p ≤ top ∧ ∀ y H', SumAt K w C H' y (filledM F p c) → Same H H' → Q (.ref y) H'
theorem ok_filled {f : Addr} {fd : FuncData} (T : Txt K mg C) (FF : DefAt K mg "_filled" "_filled" s_filled ["product", "part", "risen"] f fd) : FnOk P w K mg base CX0 5 f fd ["product", "part", "risen"] (spFilled K w C) := by
  obtain ⟨f5, fd5, D_timed⟩ := T.d_timed
  have G_timed : FnOk P w K mg base CX0 4 f5 fd5 ["one", "other"] (spTimed K w C) := ok_timed T D_timed
  obtain ⟨f2, fd2, M_Sum, FI, b_Sum_init⟩ := T.mk_Sum
  have G_Sum_init : FnOk P w K mg base CX0 1 f2 fd2 ["self", "parts"] (spInit K w C) := ok_Sum_init T FI
  refine FF.F.ok sc_filled (fun vs H Q E h => ?_) (fun cdv A outer s H vs Q E hr h => ?_)
  · obtain ⟨b, x, r, p, c, F, kvs, ns, n, S, top, D0, s0, rfl, _⟩ := h
    rfl
  · obtain ⟨b, x, r, p, c, F, kvs, ns, n, S, top, D0, s0, rfl, hb, hx, hr1, RF, pf, op, hc, hD0, hDb, hw, hm, hsb, hdeg, q⟩ := h
    obtain ⟨qs, hqs, pqs⟩ := id hb
    have lq : qs.length = p.length := Paired.length pqs
    refine ⟨_, (pss_cons (ps_set (i := 3) sc_filled.nd rfl (.inl rfl) (pe_tupleOf (by rfl) T.m_tuple (pe_lc (own := [("pair", 7)]) (g := gName 7) (tt := _) rfl sc_filled.nd (pi_tup (pv 0)) (blkOk_by (own := [("pair", 7)]) (N := ["product", "part", "risen", "kept", "told", "name", "power", "pair"]) (sc := defScope s_filled) (by decide +kernel)) (fun _ _ _ _ _ => pg_name (i := 7) sc_filled.nd rfl (.inl rfl)) (fun _ _ _ _ _ => (pts_one (pt_cmp (pc_dnotin (room1 hr) (pe_ix (ix_tupK (K := K) rfl) (pv 7) pe_int (fun _ _ => rfl)) (pv 2)) (by rfl)))) (fun _ _ _ _ _ => (pv 7)))))
      (pss_cons (ps_set (i := 4) sc_filled.nd rfl (.inl rfl) (pe_make M_Sum G_Sum_init (hr.mono (by decide)) (by rfl) T.g_Sum b_Sum_init .nil pass0 (pa_cons (pe_oneN hr.units (pv 3) (pv 1)) pa_nil)))
      (pss_cons (ps_for PassesOwn.never rfl (pi_tup (pv 0)) (pg_tup (by rfl) (pgs_cons (pg_name (i := 5) sc_filled.nd rfl (.inl rfl)) (pgs_cons (pg_name (i := 6) sc_filled.nd rfl (.inl rfl)) pgs_nil))) (pss_one (ps_if (pt_cmp (pc_din (room1 hr) (pv 5) (pv 2)) (by rfl)) (pss_one (ps_set (i := 4) sc_filled.nd rfl (.inl rfl) (pe_call G_timed (hr.mono (by decide)) (by rfl) D_timed.g D_timed.F.kp D_timed.b .nil pass0 (pa_cons (pv 4) (pa_cons (pe_dget (room1 hr) (pe_dget (room1 hr) (pv 2) (pv 5) (fun _ _ => rfl)) (pv 6) (fun _ _ => rfl)) pa_nil))))) pss_nil)))
      (pss_one (ps_ret (pv 4)))))), ?_⟩
    refine ⟨_, rfl, b, rfl, ⟨_, hqs⟩, fun D nD => lc_tup (fun i H2 => ∃ ks : List Addr, H2 D = some (.lst (ks.map V.ref)) ∧ ks.length ≤ i ∧ Paired (PairAt K H) ks ((p.take i).filter fun e => (F e.1).isNone) ∧ Same H H2) ⟨[], upd_same, Nat.le_refl 0, by rw [List.take_zero]; exact .nil, same_upd nD⟩ (fun i H2 _ ⟨_, _, _, _, z⟩ => SqT.keeps hqs (TupsStay.same z)) ?_ ?_⟩
    · rintro i y H2 hy ⟨ks, e2, hl, pk, s2⟩
      obtain ⟨qa, e, rfl, he, hqa⟩ := Paired.ixR pqs hy
      have mem : e ∈ p := List.mem_of_getElem? he
      have hi : i < p.length := (List.getElem?_eq_some_iff.mp he).1
      have lp : p.length < 32 := Nat.lt_of_le_of_lt op.len pf.ns
      have tk : p.take (i + 1) = p.take i ++ [e] := by rw [List.take_add_one, he]; rfl
      refine ⟨rfl, _, rfl, qa, _, _, _, rfl, rfl, SqT.keeps hqa (TupsStay.same s2), atI_nat (j := 0) rfl, _, rfl, r, _, rfl, DGet.k (k := .inr e.1) (s2 _ _ hr1), _, rfl, ?_⟩
      cases hF : F e.1 with
      | none =>
        rw [(RF e mem).1 hF]
        refine ⟨_, rfl, _, e2, ?_, ks ++ [qa], by rw [upd_same, List.map_append]; rfl, ?_, ?_, fun c u ec => ?_⟩
        · rw [List.length_map, sizeLine_eq]
          omega
        · rw [List.length_append]
          exact Nat.add_le_add hl (Nat.le_refl 1)
        · rw [tk, List.filter_append]
          rw [List.filter_cons_of_pos (by rw [hF]; rfl), List.filter_nil]
          exact Paired.snoc pk hqa
        · rw [upd_ne (ne_of_none ec nD)]
          exact s2 _ _ ec
      | some N =>
        obtain ⟨q1, s1, pk1, v1, _⟩ := (RF e mem).2 N hF
        rw [v1]
        refine ⟨ks, e2, Nat.le_succ_of_le hl, ?_, s2⟩
        rw [tk, List.filter_append, List.filter_cons_of_neg (by rw [hF]; simp), List.filter_nil, List.append_nil]
        exact pk
    · rintro H2 ⟨ks, e2, hl, pk, s2⟩
      rw [List.length_map, lq, List.take_length] at pk
      refine .inl ⟨D, _, rfl, SqL.of e2, fun kq nkq => ?_⟩
      have s3 : Same H (upd H2 kq (.tup (ks.map V.ref))) := s2.trans (same_upd nkq)
      have pk3 : ProdAt K (upd H2 kq (.tup (ks.map V.ref))) kq (keptP F p) := ⟨ks, SqT.of upd_same, Paired.mapP pk fun _ _ z => PairAt.stay z (TupsStay.same s3)⟩
      generalize (upd H2 kq (.tup (ks.map V.ref))) = H3 at s3 pk3
      intro d nd sd
      have s4 : Same H3 (upd H3 d (ndO w d [])) := same_upd nd
      refine ⟨_, rfl, _, rfl, keptP F p, kq, rfl, pk3.stay (TupsStay.same s4), upd_same, fun o n3 => ?_⟩
      have el0 : Same H (upd (upd H3 d (ndO w d [])) d o) := s3.trans (Else.fresh nd s4 .upd)
      have p3 : PartsAt K w (upd (upd H3 d (ndO w d [])) d o) d [(keptP F p, c)] := ⟨_, n3, .cons ⟨rfl, x, rfl, SqT.keeps hx (TupsStay.same el0)⟩ .nil⟩
      refine fun t0 dx nt ndx nex => ⟨t0, dx, d, _, rfl, upd_same, p3.made nt ndx, fun H4 sA kp => ⟨rfl, ?_⟩⟩
      have s04 : Same H H4 := el0.trans (Same.made nt ndx kp)
      have hn1 := pf.n1
      have hS1 := pf.s1
      refine ⟨_, rfl, b, rfl, ⟨_, SqT.keeps hqs (TupsStay.same s04)⟩, for_tup (fun i σ H5 => ∃ (v5 v6 v7 : Option V) (t : Addr), σ = [some (.ref b), some (.ref x), some (.ref r), some (.ref kq), some (.ref t), v5, v6, v7] ∧ SumAt K w C H5 t (fillTo F p c i) ∧ Same H H5) ⟨_, _, _, t0, rfl, sA, s04⟩ (fun i σ H5 _ ⟨_, _, _, _, _, _, z⟩ => SqT.keeps hqs (TupsStay.same z)) ?_ ?_⟩
      · rintro i y σ H5 hy ⟨v5, v6, v7, t, rfl, St, s5⟩
        obtain ⟨qa, e, rfl, he, hqa⟩ := Paired.ixR pqs hy
        have mem : e ∈ p := List.mem_of_getElem? he
        have hi : i < p.length := (List.getElem?_eq_some_iff.mp he).1
        have RF5 := RF.same s5
        refine ⟨qa, _, rfl, SqT.keeps hqa (TupsStay.same s5), rfl, _, [.int e.2], rfl, _, [], rfl, rfl, _, rfl, _, rfl, r, _, rfl, DGet.k (k := .inr e.1) (s5 _ _ hr1), _, rfl, ?_⟩
        cases hF : F e.1 with
        | none =>
          rw [(RF e mem).1 hF]
          refine ⟨_, _, v7, t, rfl, ?_, s5⟩
          rw [fillTo_succ he]
          unfold stepF
          rw [hF]
          exact St
        | some N =>
          obtain ⟨q1, s1, pk1, v1, h1, v2, S1⟩ := (RF5 e mem).2 N hF
          have g1 : DGet H5 r (kV (.inr e.1)) (some (.ref q1)) := by
            have z := DGet.k (k := .inr e.1) (s5 _ _ hr1)
            rwa [v1] at z
          have g2 : DGet H5 q1 (kV (.inl e.2)) (some (.ref s1)) := by
            have z := DGet.k (k := .inl e.2) h1
            rwa [v2] at z
          rw [v1]
          have ff := fit_fill pf.pf hn1 hS1 op hc hw hm i (Nat.le_of_lt hi)
          have fp := fit_pow (pf.pf _ _ hF).fit e.2.toNat
          have dg : degP (p.take i) + e.2.toNat ≤ top := by
            have a := degP_take he
            have b := degP_le p (i + 1)
            omega
          have b1 : s0 * S ^ degP (p.take i) * S ^ e.2.toNat ≤ s0 * S ^ top := by
            rw [Nat.mul_assoc, ← Nat.pow_add]
            exact Nat.mul_le_mul_left _ (pow_up hS1 dg)
          have b2 : 1 * n ^ degP (p.take i) * n ^ e.2.toNat ≤ n ^ top := by
            rw [Nat.one_mul, ← Nat.pow_add]
            exact pow_up hn1 dg
          refine ⟨_, rfl, _, rfl, _, rfl, r, _, rfl, g1, _, rfl, q1, _, rfl, g2, t, s1, _, _, Of ns, _, _, D0, _, _, _, rfl, St, S1, ff, fp, hD0, Nat.pow_pos (by decide), ?_, ?_, ?_, Nat.lt_of_le_of_lt b1 hsb, Nat.lt_of_le_of_lt b2 pf.nb, fun _ _ => Of.join, fun a ha => ⟨ha.1, Nat.lt_of_le_of_lt ha.len pf.ns⟩, fun t' H' St' s' nt' => ⟨_, _, v7, t', rfl, ?_, s5.trans s'⟩⟩
          · rw [Nat.one_pow, Nat.mul_one]
            exact hDb
          · exact Nat.lt_of_le_of_lt (Nat.le_mul_of_pos_right _ (Nat.pow_pos hS1)) (Nat.lt_of_le_of_lt b1 hsb)
          · exact Nat.lt_of_le_of_lt (pow_up hS1 (Nat.le_trans (Nat.le_add_left _ _) dg)) pf.sb
          · rw [fillTo_succ he]
            unfold stepF
            rw [hF]
            exact St'
      · rintro σ H5 ⟨v5, v6, v7, t, rfl, St, s5⟩
        rw [List.length_map, lq] at St
        have e : fillTo F p c p.length = filledM F p c := by
          unfold fillTo filledM
          rw [List.take_length]
        rw [e] at St
        exact ⟨_, rfl, q t H5 St s5⟩
end
/-! ### sums put in -/
def flatF (F : Str → Option Poly) (M : Poly) : Poly := M.flatMap fun y => filledM F y.1 y.2
def putInM (F : Str → Option Poly) (M : Poly) : Poly := sumM [] (flatF F M)
theorem flatF_take {F : Str → Option Poly} {M : Poly} {i : Nat} {x : Pr × Rat} (h : M[i]? = some x) : flatF F (M.take (i + 1)) = flatF F (M.take i) ++ filledM F x.1 x.2 := by
  unfold flatF
  rw [List.take_add_one, h, List.flatMap_append]
  simp
theorem flatF_pre (F : Str → Option Poly) (M : Poly) (i : Nat) : flatF F (M.take i) <+: flatF F M := by
  refine ⟨flatF F (M.drop i), ?_⟩
  unfold flatF
  rw [← List.flatMap_append, List.take_append_drop]
theorem exp_le_deg {p : Pr} {e : Str × Int} (h : e ∈ p) : e.2.toNat ≤ degP p := by
  unfold degP
  induction p with
  | nil => cases h
  | cons f r ih =>
    rw [List.map_cons, List.sum_cons]
    rcases List.mem_cons.mp h with z | z
    · rw [z]
      omega
    · have := ih z
      omega
/-- what goes for a sum in which something is put -/
structure InFit (ns : List Str) (F : Str → Option Poly) (M : Poly) (m D0 S0 n S top : Nat) : Prop where
  put : PutFit ns F n S top
  fit : Fit (Of ns) m D0 S0 M
  d0 : 0 < D0
  db : D0 < big
  sb : S0 * S ^ top < big
  mb : m * n ^ top < sizeLine
  dg : ∀ y ∈ M, degP y.1 ≤ top
theorem InFit.one {ns : List Str} {F : Str → Option Poly} {M : Poly} {m D0 S0 n S top : Nat} (h : InFit ns F M m D0 S0 n S top) {y : Pr × Rat} (hy : y ∈ M) : Fit (Of ns) (n ^ top) D0 (mag D0 y.2 * S ^ top) (filledM F y.1 y.2) :=
  fit_filled h.put.pf h.put.n1 h.put.s1 (h.fit.good.pr y hy) (h.fit.good.nz y hy) (h.fit.wh y hy) (Nat.le_refl _) (h.dg y hy)
theorem InFit.flat {ns : List Str} {F : Str → Option Poly} {M : Poly} {m D0 S0 n S top : Nat} (h : InFit ns F M m D0 S0 n S top) : (∀ x ∈ flatF F M, Of ns x.1 ∧ Whole D0 x.2) ∧ (flatF F M).length ≤ m * n ^ top ∧ szM D0 (flatF F M) ≤ S0 * S ^ top := by
  have gen : ∀ L : Poly, (∀ y ∈ L, y ∈ M) → (∀ x ∈ flatF F L, Of ns x.1 ∧ Whole D0 x.2) ∧ (flatF F L).length ≤ L.length * n ^ top ∧ szM D0 (flatF F L) ≤ szM D0 L * S ^ top := by
    intro L
    induction L with
    | nil => exact fun _ => ⟨(fun _ h => nomatch h), Nat.zero_le _, Nat.zero_le _⟩
    | cons y r ih =>
      intro hL
      obtain ⟨a, b, c⟩ := ih fun z hz => hL z (by simp [hz])
      have o := h.one (hL y (by simp))
      have e : flatF F (y :: r) = filledM F y.1 y.2 ++ flatF F r := List.flatMap_cons ..
      rw [e]
      refine ⟨fun x hx => ?_, ?_, ?_⟩
      · rcases List.mem_append.mp hx with z | z
        · exact o.parts x z
        · exact a x z
      · rw [List.length_append, List.length_cons, Nat.succ_mul]
        have := o.len
        omega
      · rw [szM_append, szM_cons, Nat.add_mul]
        exact Nat.add_le_add o.sz c
  obtain ⟨a, b, c⟩ := gen M fun _ h => h
  exact ⟨a, Nat.le_trans b (Nat.mul_le_mul_right _ h.fit.len), Nat.le_trans c (Nat.mul_le_mul_right _ h.fit.sz)⟩
theorem InFit.res {ns : List Str} {F : Str → Option Poly} {M : Poly} {m D0 S0 n S top : Nat} (h : InFit ns F M m D0 S0 n S top) : Fit (Of ns) (m * n ^ top) D0 (S0 * S ^ top) (putInM F M) := by
  obtain ⟨a, b, c⟩ := h.flat
  have z := Fit.sum (flatF F M) (Fit.nil (A := Of ns) (n := 0) (D := D0) (S := 0)) a
  exact z.mono (by omega) (by omega)
section
variable {P : Program} {w : World} {K : PySem.W.Frag} {mg : Str → Option Value} {base : Heap} {C : Addr}
def spPutIn (K : PySem.W.Frag) (w : World) (C : Addr) : Sp := fun vs H Q _ => ∃ (p d : Addr) (M : Poly) (F : Str → Option Poly) (fk : List (L2.Key × V)) (ns : List Str) (m D0 S0 n S top : Nat), vs = [.ref p, .ref d] ∧ SumAt K w C H p M ∧ FillAt K w C H d F fk ∧ InFit ns F M m D0 S0 n S top ∧
  ∀ x H', SumAt K w C H' x (putInM F M) → Same H H' → H x = none → Q (.ref x) H'
theorem ok_put_in {f : Addr} {fd : FuncData} (T : Txt K mg C) (FF : DefAt K mg "put_in" "put_in" s_put_in ["given", "filling"] f fd) : FnOk P w K mg base CX0 7 f fd ["given", "filling"] (spPutIn K w C) := by
  obtain ⟨f1, fd1, D_risen_fillings⟩ := T.d_risen_fillings
  have G_risen_fillings : FnOk P w K mg base CX0 6 f1 fd1 ["given", "filling"] (spFillings K w C) := ok_risen_fillings T D_risen_fillings
  obtain ⟨f3, fd3, D_filled⟩ := T.d_filled
  have G_filled : FnOk P w K mg base CX0 5 f3 fd3 ["product", "part", "risen"] (spFilled K w C) := ok_filled T D_filled
  obtain ⟨f4, fd4, D_put_all_to⟩ := T.d_put_all_to
  have G_put_all_to : FnOk P w K mg base CX0 4 f4 fd4 ["parts", "other"] (spPutAll K w C) := ok_put_all_to T D_put_all_to
  obtain ⟨f2, fd2, M_Sum, FI, b_Sum_init⟩ := T.mk_Sum
  have G_Sum_init : FnOk P w K mg base CX0 1 f2 fd2 ["self", "parts"] (spInit K w C) := ok_Sum_init T FI
  refine FF.F.ok sc_put_in (fun vs H Q E h => ?_) (fun cdv A outer s H vs Q E hr h => ?_)
  · obtain ⟨p, d, M, F, fk, ns, m, D0, S0, n, S, top, rfl, _⟩ := h
    rfl
  · obtain ⟨p, d, M, F, fk, ns, m, D0, S0, n, S, top, rfl, SM, FA, IF, q⟩ := h
    have pf := IF.put
    have hOf : ∀ y ∈ M, ∀ e ∈ y.1, e.1 ∈ ns ∧ 1 ≤ e.2 ∧ e.2 ≤ (top : Int) := fun y hy e he => by
      have o := IF.fit.good.pr y hy
      have a := exp_le_deg he
      have b := IF.dg y hy
      have c := o.1.one e he
      exact ⟨o.2 e he, c, by omega⟩
    refine ⟨_, (pss_cons (ps_set (i := 2) sc_put_in.nd rfl (.inl rfl) (pe_call G_risen_fillings (hr.mono (by decide)) (by rfl) D_risen_fillings.g D_risen_fillings.F.kp D_risen_fillings.b .nil pass0 (pa_cons (pv 0) (pa_cons (pv 1) pa_nil))))
      (pss_cons (ps_set (i := 3) sc_put_in.nd rfl (.inl rfl) pe_newN)
      (pss_cons (ps_for PassesOwn.never rfl (pi_itemsN (pe_fld (pv 0) rfl)) (pg_tup (by rfl) (pgs_cons (pg_name (i := 4) sc_put_in.nd rfl (.inl rfl)) (pgs_cons (pg_name (i := 5) sc_put_in.nd rfl (.inl rfl)) pgs_nil))) (pss_one (ps_expr (pe_call G_put_all_to (hr.mono (by decide)) (by rfl) D_put_all_to.g D_put_all_to.F.kp D_put_all_to.b .nil pass0 (pa_cons (pv 3) (pa_cons (pe_call G_filled (hr.mono (by decide)) (by rfl) D_filled.g D_filled.F.kp D_filled.b .nil pass0 (pa_cons (pv 4) (pa_cons (pv 5) (pa_cons (pv 2) pa_nil)))) pa_nil))))))
      (pss_one (ps_ret (pe_make M_Sum G_Sum_init (hr.mono (by decide)) (by rfl) T.g_Sum b_Sum_init .nil pass0 (pa_cons (pv 3) pa_nil))))))), ?_⟩
    refine ⟨_, rfl, _, rfl, p, d, M, F, fk, ns, n, 1, S, top, rfl, SM, FA, pf.pf, pf.ns, pf.top, hOf, fun r H1 RA s1 => ?_⟩
    obtain ⟨kvs, er, RF⟩ := RA
    intro D' nD sD
    have SM1 := SM.same s1
    obtain ⟨dx, d1, o1, L1, ep, n1, r1⟩ := id SM1
    have l1 : L1.length = M.length := Paired.length r1
    have s0 : Same H1 (upd H1 D' (ndO w D' [])) := same_upd nD
    have e0 : (upd H1 D' (ndO w D' [])) D' = some (ndO w D' []) := upd_same
    have nd0 : ND K w (upd H1 D' (ndO w D' [])) D' [] := .new sD
    have n1' := n1.stay (.same s0) fun o e => s0 _ _ e
    have r1' := r1.stay (.same s0)
    have x1 : ∀ C dx l, HO.ins C dx l ≠ ndO w D' [] := fun _ _ _ z => by cases z
    have x2 : ∀ o x, HO.frz o x ≠ ndO w D' [] := fun _ _ z => by cases z
    have x0 : ∀ l, HO.dK l ≠ ndO w D' [] := fun _ z => by cases z
    obtain ⟨fl1, fl2, fl3⟩ := IF.flat
    refine ⟨_, rfl, p, C, dx, _, _, rfl, s0 _ _ ep, T.cl_Sum, T.n_Sum_parts, sumF_parts _, d1, o1, L1, rfl, n1', for_itemsN (fun i σ H3 => ∃ v4 v5 : Option V, σ = [some (.ref p), some (.ref d), some (.ref r), some (.ref D'), v4, v5] ∧ PartsAt K w H3 D' (sumM [] (flatF F (M.take i))) ∧ Else D' (upd H1 D' (ndO w D' [])) H3)
      ⟨none, none, rfl, ⟨[], nd0, .nil⟩, .refl _ _⟩ (fun i σ H3 _ ⟨_, _, _, _, z⟩ => PartsAt.elseNF n1' nd0 z) ?_ ?_⟩
    · rintro i kk v σ H3 Tt b hL ⟨v4, v5, rfl, pM, el⟩ nT hb
      obtain ⟨x, c, hMi, rfl, hq⟩ := r1'.at_ hL
      have memM : (kk, c) ∈ M := List.mem_of_getElem? hMi
      have sT : Same H3 (upd H3 Tt (.tup [.ref b, .ref x])) := same_upd nT
      refine ⟨Tt, [.ref b, .ref x], rfl, SqT.of upd_same, rfl, _, [.ref x], rfl, _, [], rfl, rfl, ?_⟩
      have el3 := el.same sT
      have t3 : TupsStay (upd H1 D' (ndO w D' [])) (upd H3 Tt (.tup [.ref b, .ref x])) := el3.tups e0 True.intro
      have er3 : (upd H3 Tt (.tup [.ref b, .ref x])) r = some (.dK kvs) := el3 _ _ (s0 _ _ er) (ne_of (s0 _ _ er) e0 (x0 _))
      have RF3 : RisenFor K w C (upd H3 Tt (.tup [.ref b, .ref x])) kvs F kk := ((show RisenFor K w C H1 kvs F kk from fun e he => RF (kk, c) memM e he).same s0).elseU el3 e0 True.intro x0 x1 x2
      refine ⟨_, rfl, _, rfl, _, rfl, _, rfl, b, x, r, kk, c, F, kvs, ns, n, S, top, D0, mag D0 c, rfl, hb.stay (.same sT), SqT.keeps hq t3, er3, RF3, pf, IF.fit.good.pr _ memM, IF.fit.good.nz _ memM, IF.d0, IF.db, IF.fit.wh _ memM, Nat.le_refl _, ?_, IF.dg _ memM, fun y H4 Sy s4 => ?_⟩
      · refine Nat.lt_of_le_of_lt (Nat.mul_le_mul_right _ ?_) IF.sb
        exact Nat.le_trans (mag_le_szM (x := (kk, c)) memM) IF.fit.sz
      · have pre0 := flatF_pre F M i
        have pre1 := flatF_pre F M (i + 1)
        have fi := Fit.sum (flatF F (M.take i)) (Fit.nil (A := Of ns) (n := 0) (D := D0) (S := 0)) fun y hy => fl1 y (pre0.subset hy)
        have sp := szM_pre (D := D0) pre1
        rw [flatF_take hMi, szM_append, List.length_append] at sp
        have p4 := pM.stay (.same (sT.trans s4)) fun u e => (sT.trans s4) _ _ e
        have h1 := IF.sb
        have h2 := IF.mb
        have sp1 : szM D0 (flatF F (M.take i)) + szM D0 (filledM F kk c) ≤ szM D0 (flatF F M) := sp.1
        have sp2 : (flatF F (M.take i)).length + (filledM F kk c).length ≤ (flatF F M).length := sp.2
        refine ⟨D', y, _, filledM F kk c, Of ns, _, D0, _, rfl, p4, Sy, fi, (IF.one memM).parts, IF.d0, IF.db, by omega, by omega, fun H5 p5 el5 => ?_⟩
        refine ⟨_, _, rfl, ?_, (el3.same s4).trans el5⟩
        rw [flatF_take hMi, sumM_append]
        exact p5
    · rintro σ H3 ⟨v4, v5, rfl, pM, el⟩
      rw [l1, List.take_length] at pM
      have s3 : Same H1 H3 := Else.fresh nD s0 el
      refine ⟨_, rfl, fun x dx nx ndx nex => ⟨x, dx, D', _, rfl, upd_same, pM.made nx ndx, fun H4 sA kp => ⟨rfl, ?_⟩⟩⟩
      exact q x H4 sA ((s1.trans s3).trans (Same.made nx ndx kp)) ((s1.trans s3).free nx)
end
/-! ### sums as a ring: what lin tells -/
theorem lin_congr {f g : Pr → Rat} {M : Poly} (h : ∀ x ∈ M, f x.1 = g x.1) : lin f M = lin g M := by
  induction M with
  | nil => rfl
  | cons x r ih => rw [lin_cons, lin_cons, h x (by simp), ih fun y hy => h y (by simp [hy])]
theorem lin_mulc (c : Rat) (f : Pr → Rat) (M : Poly) : lin (fun a => c * f a) M = c * lin f M := by
  induction M with
  | nil =>
    show (0 : Rat) = c * 0
    grind
  | cons x r ih =>
    rw [lin_cons, lin_cons, ih]
    grind
theorem lin_addf (f g : Pr → Rat) (M : Poly) : lin (fun a => f a + g a) M = lin f M + lin g M := by
  induction M with
  | nil =>
    show (0 : Rat) = 0 + 0
    grind
  | cons x r ih =>
    rw [lin_cons, lin_cons, lin_cons, ih]
    grind
theorem lin_zero (M : Poly) : lin (fun _ => 0) M = 0 := by
  induction M with
  | nil => rfl
  | cons x r ih =>
    rw [lin_cons, ih]
    grind
theorem lin_swap (g : Pr → Pr → Rat) (M N : Poly) : lin (fun a => lin (fun b => g a b) N) M = lin (fun b => lin (fun a => g a b) M) N := by
  induction M with
  | nil =>
    show (0 : Rat) = lin (fun _ => 0) N
    rw [lin_zero]
  | cons x r ih =>
    rw [lin_cons, ih]
    have e : (fun b => lin (fun a => g a b) (x :: r)) = fun b => x.2 * g x.1 b + lin (fun a => g a b) r := by
      funext b
      rw [lin_cons]
    rw [e, lin_addf, lin_mulc]
/-- the same, whatever is asked -/
def Eqv (M N : Poly) : Prop := ∀ f, lin f M = lin f N
theorem Eqv.refl (M : Poly) : Eqv M M := fun _ => rfl
theorem Eqv.symm {M N : Poly} (h : Eqv M N) : Eqv N M := fun f => (h f).symm
theorem Eqv.trans {M N L : Poly} (h : Eqv M N) (g : Eqv N L) : Eqv M L := fun f => (h f).trans (g f)
theorem Eqv.mul {M M' N N' : Poly} (h : Eqv M M') (g : Eqv N N') : Eqv (mulM M N) (mulM M' N') := fun f => by
  rw [lin_mul, lin_mul, h]
  exact lin_congr fun x _ => g _
def AllP (A : Pr → Prop) (M : Poly) : Prop := ∀ x ∈ M, A x.1
theorem AllP.mem_add {A : Pr → Prop} {M : Poly} (h : AllP A M) {k : Pr} (hk : A k) (r : Rat) : AllP A (addM M k r) := fun x hx => by
  unfold addM at hx
  split at hx
  · exact h x (List.mem_filter.mp hx).1
  · rcases keys_put M k _ x hx with ⟨e, _⟩ | z
    · rw [e]
      exact hk
    · exact h x z
theorem AllP.sum {A : Pr → Prop} : ∀ (N : Poly) {M : Poly}, AllP A M → AllP A N → AllP A (sumM M N)
  | [], _, h, _ => h
  | x :: N, _, h, g => AllP.sum N (h.mem_add (g x (by simp)) x.2) fun y hy => g y (by simp [hy])
theorem AllP.nil {A : Pr → Prop} : AllP A [] := fun _ h => nomatch h
theorem AllP.mul {A B E : Pr → Prop} {M N : Poly} (h : AllP A M) (g : AllP B N) (hE : ∀ a b, A a → B b → E (joinP a b)) : AllP E (mulM M N) := by
  refine AllP.sum _ AllP.nil fun z hz => ?_
  obtain ⟨x, hx, hz⟩ := List.mem_flatMap.mp hz
  obtain ⟨y, hy, e⟩ := List.mem_map.mp hz
  subst e
  exact hE _ _ (h x hx) (g y hy)
theorem AllP.neg {A : Pr → Prop} {M : Poly} (h : AllP A M) : AllP A (negM M) := fun x hx => by
  obtain ⟨y, hy, e⟩ := List.mem_map.mp hx
  subst e
  exact h y hy
theorem AllP.imp {A B : Pr → Prop} {M : Poly} (h : AllP A M) (g : ∀ p, A p → B p) : AllP B M := fun x hx => g _ (h x hx)
theorem nodup_sum : ∀ (N : Poly) {M : Poly}, (M.map (·.1)).Nodup → ((sumM M N).map (·.1)).Nodup
  | [], _, h => h
  | x :: N, _, h => nodup_sum N (nodup_addM x.1 x.2 h)
theorem mul_comm' {M N : Poly} (h : AllP Canon M) (g : AllP Canon N) : Eqv (mulM M N) (mulM N M) := fun f => by
  rw [lin_mul, lin_mul, lin_swap]
  exact lin_congr fun y hy => lin_congr fun x hx => by rw [join_comm (h x hx) (g y hy)]
theorem mul_assoc' {M N L : Poly} (h : AllP Canon M) (g : AllP Canon N) (k : AllP Canon L) : Eqv (mulM (mulM M N) L) (mulM M (mulM N L)) := fun f => by
  rw [lin_mul, lin_mul, lin_mul]
  refine lin_congr fun x hx => ?_
  rw [lin_mul]
  exact lin_congr fun y hy => lin_congr fun z hz => by rw [join_assoc (h x hx) (g y hy) (k z hz)]
theorem mul_add' {M N L : Poly} (n : (N.map (·.1)).Nodup) : ∀ f, lin f (mulM M (sumM N L)) = lin f (mulM M N) + lin f (mulM M L) := fun f => by
  rw [lin_mul, lin_mul, lin_mul, ← lin_addf]
  exact lin_congr fun x _ => lin_sumM _ _ n
theorem add_mul' {M N L : Poly} (n : (M.map (·.1)).Nodup) : ∀ f, lin f (mulM (sumM M N) L) = lin f (mulM M L) + lin f (mulM N L) := fun f => by
  rw [lin_mul, lin_mul, lin_mul, lin_sumM _ _ n]
theorem mul_neg' {M N : Poly} : ∀ f, lin f (mulM M (negM N)) = - lin f (mulM M N) := fun f => by
  rw [lin_mul, lin_mul]
  have e : (fun a => lin (fun b => f (joinP a b)) (negM N)) = fun a => (-1) * lin (fun b => f (joinP a b)) N := by
    funext a
    rw [lin_neg]
    grind
  rw [e, lin_mulc]
  grind
theorem one_mul' (M : Poly) : Eqv (mulM [([], 1)] M) M := fun f => by
  rw [lin_mul, lin_cons, lin_nil]
  show 1 * lin f M + 0 = _
  grind
theorem mul_one' {M : Poly} (h : AllP Canon M) : Eqv (mulM M [([], 1)]) M := fun f => by
  rw [lin_mul]
  refine lin_congr fun x hx => ?_
  rw [lin_cons, lin_nil, join_nil (h x hx)]
  grind
theorem numberM {n : Int} (f : Pr → Rat) : lin f (addM [] [] (n : Rat)) = (n : Rat) * f [] := by
  rw [lin_add f (M := []) List.nodup_nil, lin_nil]
  grind
theorem powM_zero (N : Poly) : Eqv (powM N 0) [([], 1)] := fun f => by
  show lin f (addM [] [] ((1 : Int) : Rat)) = _
  rw [numberM, lin_cons, lin_nil]
  show ((1 : Int) : Rat) * f [] = 1 * f [] + 0
  have : ((1 : Int) : Rat) = 1 := rfl
  rw [this]
  grind
theorem AllP.pow {A : Pr → Prop} {N : Poly} (h0 : A []) (hj : ∀ a b, A a → A b → A (joinP a b)) (h : AllP A N) : ∀ k, AllP A (powM N k)
  | 0 => AllP.nil.mem_add h0 _
  | k + 1 => (AllP.pow h0 hj h k).mul h hj
theorem CanonJ : ∀ a b, Canon a → Canon b → Canon (joinP a b) := fun _ _ ha hb => hb.join ha.one
theorem powM_add {N : Poly} (h : AllP Canon N) (j : Nat) : ∀ k, Eqv (powM N (j + k)) (mulM (powM N j) (powM N k))
  | 0 => ((mul_one' (h.pow Canon.nil CanonJ j)).symm).trans ((Eqv.refl _).mul (powM_zero N).symm)
  | k + 1 => ((powM_add h j k).mul (Eqv.refl N)).trans (mul_assoc' (h.pow Canon.nil CanonJ j) (h.pow Canon.nil CanonJ k) h)
/-! ### products that are put in -/
def termF (F : Str → Option Poly) (e : Str × Int) : Poly := match F e.1 with
  | some N => powM N e.2.toNat
  | none => [([e], 1)]
def prodT (F : Str → Option Poly) : Pr → Poly
  | [] => [([], 1)]
  | e :: r => mulM (termF F e) (prodT F r)
def CanF (F : Str → Option Poly) : Prop := ∀ x N, F x = some N → AllP Canon N
theorem canon_one {e : Str × Int} (h : 1 ≤ e.2) : Canon [e] := ⟨List.pairwise_singleton _ _, fun f hf => by rw [show f = e by simpa using hf]; exact h⟩
theorem AllP.single {A : Pr → Prop} {p : Pr} {c : Rat} (h : A p) : AllP A [(p, c)] := fun x hx => by
  rw [show x = (p, c) by simpa using hx]
  exact h
theorem termF_can {F : Str → Option Poly} (hF : CanF F) {e : Str × Int} (he : 1 ≤ e.2) : AllP Canon (termF F e) := by
  unfold termF
  cases h : F e.1 with
  | none => exact AllP.single (canon_one he)
  | some N => exact (hF _ _ h).pow Canon.nil CanonJ _
theorem prodT_can {F : Str → Option Poly} (hF : CanF F) : ∀ {p : Pr}, (∀ e ∈ p, 1 ≤ e.2) → AllP Canon (prodT F p)
  | [], _ => AllP.single Canon.nil
  | e :: r, h => (termF_can hF (h e (by simp))).mul (prodT_can hF fun f hf => h f (by simp [hf])) CanonJ
theorem prodT_ins {F : Str → Option Poly} (hF : CanF F) {e : Str × Int} (he : 1 ≤ e.2) : ∀ {p : Pr}, Canon p → Eqv (prodT F (insE e p)) (mulM (termF F e) (prodT F p))
  | [], _ => .refl _
  | f :: r, hp => by
    unfold insE
    have hf := hp.one f (by simp)
    have cr := prodT_can hF hp.tail.one
    split
    · exact .refl _
    · split
      · rename_i h
        have te : Eqv (termF F (f.1, f.2 + e.2)) (mulM (termF F e) (termF F f)) := by
          unfold termF
          rw [h]
          have en : (f.2 + e.2).toNat = e.2.toNat + f.2.toNat := by omega
          cases hN : F f.1 with
          | some N =>
            show Eqv (powM N (f.2 + e.2).toNat) (mulM (powM N e.2.toNat) (powM N f.2.toNat))
            rw [en]
            exact powM_add (hF _ _ hN) _ _
          | none =>
            intro g
            rw [lin_mul, lin_cons, lin_nil, lin_cons, lin_nil]
            show _ = 1 * lin (fun b => g (joinP [e] b)) [([f], 1)] + 0
            rw [lin_cons, lin_nil]
            have ej : joinP [e] [f] = [(f.1, f.2 + e.2)] := by
              show insE e [f] = _
              unfold insE
              rw [h, if_neg (slt_irrefl _), if_pos rfl]
            rw [ej]
            grind
        exact (te.mul (.refl _)).trans (mul_assoc' (termF_can hF he) (termF_can hF hf) cr)
      · -- f * (e inserted)
        have ih := prodT_ins hF he hp.tail
        exact (((Eqv.refl (termF F f)).mul ih).trans (mul_assoc' (termF_can hF hf) (termF_can hF he) cr).symm).trans
          (((mul_comm' (termF_can hF hf) (termF_can hF he)).mul (.refl _)).trans (mul_assoc' (termF_can hF he) (termF_can hF hf) cr))
theorem prodT_join {F : Str → Option Poly} (hF : CanF F) {q : Pr} (hq : Canon q) : ∀ {p : Pr}, (∀ e ∈ p, 1 ≤ e.2) → Eqv (prodT F (joinP p q)) (mulM (prodT F p) (prodT F q))
  | [], _ => (one_mul' _).symm
  | e :: r, hp => by
    have he := hp e (by simp)
    have hr := fun f (hf : f ∈ r) => hp f (by simp [hf])
    exact ((prodT_ins hF he (hq.join hr)).trans ((Eqv.refl _).mul (prodT_join hF hq hr))).trans (mul_assoc' (termF_can hF he) (prodT_can hF hr) (prodT_can hF hq.one)).symm
/-! ### what putting in tells -/
def prodS (F : Str → Option Poly) : Pr → Poly
  | [] => [([], 1)]
  | e :: r => match F e.1 with
    | some N => mulM (powM N e.2.toNat) (prodS F r)
    | none => prodS F r
theorem prodS_can {F : Str → Option Poly} (hF : CanF F) : ∀ p : Pr, AllP Canon (prodS F p)
  | [] => AllP.single Canon.nil
  | e :: r => by
    unfold prodS
    cases h : F e.1 with
    | none => exact prodS_can hF r
    | some N => exact ((hF _ _ h).pow Canon.nil CanonJ _).mul (prodS_can hF r) CanonJ
theorem fold_prodS {F : Str → Option Poly} (hF : CanF F) : ∀ (p : Pr) {acc : Poly}, AllP Canon acc → Eqv (p.foldl (stepF F) acc) (mulM acc (prodS F p))
  | [], _, h => (mul_one' h).symm
  | e :: r, acc, h => by
    rw [List.foldl_cons]
    unfold stepF prodS
    cases hN : F e.1 with
    | none => exact fold_prodS hF r h
    | some N =>
      have cp := (hF _ _ hN).pow Canon.nil CanonJ e.2.toNat
      exact (fold_prodS hF r (h.mul cp CanonJ)).trans (mul_assoc' h cp (prodS_can hF r))
theorem ins_head {e : Str × Int} {r : Pr} (h : Canon (e :: r)) (g : Str × Int → Bool) : insE e (r.filter g) = e :: r.filter g := by
  cases hr : r.filter g with
  | nil => rfl
  | cons f t =>
    have hf : f ∈ r := (List.mem_filter.mp (by rw [hr]; simp)).1
    unfold insE
    rw [if_pos ((List.pairwise_cons.mp h.up).1 f hf)]
theorem lin_one (f : Pr → Rat) (k : Pr) (c : Rat) (S : Poly) : lin f (mulM [(k, c)] S) = c * lin (fun b => f (joinP k b)) S := by
  rw [lin_mul, lin_cons, lin_nil]
  grind
theorem keptP_can {F : Str → Option Poly} {p : Pr} (h : Canon p) : Canon (keptP F p) := ⟨h.up.sublist List.filter_sublist, fun e he => h.one e (List.mem_filter.mp he).1⟩
theorem prodT_kept {F : Str → Option Poly} (hF : CanF F) : ∀ {p : Pr}, Canon p → Eqv (prodT F p) (mulM [(keptP F p, 1)] (prodS F p))
  | [], _ => (one_mul' _).symm
  | e :: r, h => by
    have ih := prodT_kept hF h.tail
    have ck : AllP Canon [(keptP F r, (1 : Rat))] := AllP.single (keptP_can h.tail)
    have cs := prodS_can hF r
    have ce : AllP Canon [([e], (1 : Rat))] := AllP.single (canon_one (h.one e (by simp)))
    show Eqv (mulM (termF F e) (prodT F r)) _
    unfold termF prodS
    cases hN : F e.1 with
    | none =>
      have ek : keptP F (e :: r) = insE e (keptP F r) := by
        have a := ins_head h fun e => (F e.1).isNone
        unfold keptP
        rw [a, List.filter_cons_of_pos (by rw [hN]; rfl)]
      have one : Eqv (mulM [([e], 1)] [(keptP F r, 1)]) [(keptP F (e :: r), 1)] := fun f => by
        rw [lin_one, lin_cons, lin_nil, lin_cons, lin_nil, ek]
        show 1 * (1 * f (insE e (keptP F r)) + 0) = _
        grind
      exact (((Eqv.refl _).mul ih).trans (mul_assoc' ce ck cs).symm).trans (one.mul (.refl _))
    | some N =>
      have cp := (hF _ _ hN).pow Canon.nil CanonJ e.2.toNat
      have ek : keptP F (e :: r) = keptP F r := by
        unfold keptP
        rw [List.filter_cons_of_neg (by rw [hN]; simp)]
      rw [ek]
      exact (((Eqv.refl _).mul ih).trans (mul_assoc' cp ck cs).symm).trans (((mul_comm' cp ck).mul (.refl _)).trans (mul_assoc' ck cp cs))
theorem lin_filled {F : Str → Option Poly} (hF : CanF F) {p : Pr} (h : Canon p) (c : Rat) (f : Pr → Rat) : lin f (filledM F p c) = c * lin f (prodT F p) := by
  rw [prodT_kept hF h f, lin_one]
  unfold filledM
  rw [fold_prodS hF p (AllP.single (keptP_can h)) f, lin_one]
  grind
theorem lin_putIn {F : Str → Option Poly} (hF : CanF F) {M : Poly} (h : AllP Canon M) (f : Pr → Rat) : lin f (putInM F M) = lin (fun p => lin f (prodT F p)) M := by
  unfold putInM
  rw [lin_sumM f (M := []) _ List.nodup_nil, lin_nil, Rat.zero_add]
  unfold flatF
  induction M with
  | nil => rfl
  | cons y r ih =>
    rw [List.flatMap_cons, lin_append, lin_cons, lin_filled hF (h y (by simp)), ih fun z hz => h z (by simp [hz])]
theorem put_add {F : Str → Option Poly} (hF : CanF F) {M N : Poly} (n : (M.map (·.1)).Nodup) (h : AllP Canon M) (g : AllP Canon N) (f : Pr → Rat) : lin f (putInM F (sumM M N)) = lin f (putInM F M) + lin f (putInM F N) := by
  rw [lin_putIn hF (AllP.sum N h g), lin_putIn hF h, lin_putIn hF g, lin_sumM _ _ n]
theorem put_mul {F : Str → Option Poly} (hF : CanF F) {M N : Poly} (h : AllP Canon M) (g : AllP Canon N) : Eqv (putInM F (mulM M N)) (mulM (putInM F M) (putInM F N)) := fun f => by
  rw [lin_putIn hF (h.mul g CanonJ), lin_mul, lin_mul, lin_putIn hF h]
  refine lin_congr fun x hx => ?_
  have e1 : (fun u => lin (fun v => f (joinP u v)) (putInM F N)) = fun u => lin (fun b => lin (fun v => f (joinP u v)) (prodT F b)) N := by
    funext u
    rw [lin_putIn hF g]
  rw [e1, lin_swap]
  refine lin_congr fun y hy => ?_
  rw [prodT_join hF (g y hy) (h x hx).one f, lin_mul]
/-- nothing changes -/
theorem prodT_same {F : Str → Option Poly} : ∀ {p : Pr}, Canon p → (∀ e ∈ p, Eqv (termF F e) [([e], 1)]) → Eqv (prodT F p) [(p, 1)]
  | [], _, _ => .refl _
  | e :: r, h, g => by
    have ih := prodT_same h.tail fun f hf => g f (by simp [hf])
    refine ((g e (by simp)).mul ih).trans fun f => ?_
    have ej : joinP [e] r = e :: r := by
      have a := ins_head h fun _ => true
      rw [List.filter_eq_self.mpr fun _ _ => rfl] at a
      exact a
    rw [lin_one, lin_cons, lin_nil, lin_cons, lin_nil, ej]
    grind
theorem put_same {F : Str → Option Poly} (hF : CanF F) {M : Poly} (h : AllP Canon M) (g : ∀ y ∈ M, ∀ e ∈ y.1, Eqv (termF F e) [([e], 1)]) : Eqv (putInM F M) M := fun f => by
  rw [lin_putIn hF h]
  refine lin_congr fun y hy => ?_
  rw [prodT_same (h y hy) (g y hy) f, lin_cons, lin_nil]
  grind
theorem pow_single (x : Str) : ∀ k : Nat, Eqv (powM [([(x, 1)], 1)] (k + 1)) [([(x, ((k : Int) + 1))], 1)]
  | 0 => by
    refine ((powM_zero _).mul (.refl _)).trans ((one_mul' _).trans fun f => ?_)
    rfl
  | k + 1 => by
    refine ((pow_single x k).mul (.refl _)).trans fun f => ?_
    have ej : joinP [(x, ((k : Int) + 1))] [(x, 1)] = [(x, 1 + ((k : Int) + 1))] := by
      show insE (x, ((k : Int) + 1)) [(x, 1)] = _
      unfold insE
      rw [if_neg (slt_irrefl _), if_pos rfl]
    rw [lin_one, lin_cons, lin_nil, lin_cons, lin_nil, ej]
    have : 1 + ((k : Int) + 1) = ((k + 1 : Nat) : Int) + 1 := by omega
    rw [this]
    grind
theorem term_single {F : Str → Option Poly} {e : Str × Int} (he : 1 ≤ e.2) (h : F e.1 = some [([(e.1, 1)], 1)]) : Eqv (termF F e) [([e], 1)] := by
  unfold termF
  rw [h]
  obtain ⟨k, hk⟩ : ∃ k : Nat, e.2.toNat = k + 1 := ⟨e.2.toNat - 1, by omega⟩
  have ek : e = (e.1, ((k : Int) + 1)) := Prod.ext rfl (by show e.2 = _; omega)
  show Eqv (powM _ e.2.toNat) _
  rw [hk]
  refine (pow_single e.1 k).trans fun f => ?_
  rw [← ek]
theorem term_none {F : Str → Option Poly} {e : Str × Int} (h : F e.1 = none) : Eqv (termF F e) [([e], 1)] := by
  unfold termF
  rw [h]
  exact .refl _
/-! ### points -/
theorem evalI_ins (v : Str → Int) {e : Str × Int} (he : 1 ≤ e.2) : ∀ {p : Pr}, (∀ f ∈ p, 1 ≤ f.2) → evalI v (insE e p) = v e.1 ^ e.2.toNat * evalI v p
  | [], _ => rfl
  | f :: r, h => by
    have hf := h f (by simp)
    unfold insE
    split
    · rfl
    · split
      · rename_i z
        show v f.1 ^ (f.2 + e.2).toNat * evalI v r = v e.1 ^ e.2.toNat * (v f.1 ^ f.2.toNat * evalI v r)
        have en : (f.2 + e.2).toNat = e.2.toNat + f.2.toNat := by omega
        rw [z, en, Int.pow_add, Int.mul_assoc]
      · show v f.1 ^ f.2.toNat * evalI v (insE e r) = v e.1 ^ e.2.toNat * (v f.1 ^ f.2.toNat * evalI v r)
        rw [evalI_ins v he fun g hg => h g (by simp [hg]), ← Int.mul_assoc, ← Int.mul_assoc, Int.mul_comm (v f.1 ^ f.2.toNat)]
theorem evalI_join (v : Str → Int) {q : Pr} (hq : Canon q) : ∀ {p : Pr}, (∀ f ∈ p, 1 ≤ f.2) → evalI v (joinP p q) = evalI v p * evalI v q
  | [], _ => (Int.one_mul _).symm
  | e :: r, h => by
    have hr := fun f (hf : f ∈ r) => h f (by simp [hf])
    show evalI v (insE e (joinP r q)) = v e.1 ^ e.2.toNat * evalI v r * evalI v q
    rw [evalI_ins v (h e (by simp)) (hq.join hr).one, evalI_join v hq hr, Int.mul_assoc]
abbrev evM (v : Str → Int) (M : Poly) : Rat := lin (fun p => (evalI v p : Rat)) M
theorem evM_mul (v : Str → Int) {M N : Poly} (h : AllP Canon M) (g : AllP Canon N) : evM v (mulM M N) = evM v M * evM v N := by
  unfold evM
  rw [lin_mul]
  have e : lin (fun a => lin (fun b => (evalI v (joinP a b) : Rat)) N) M = lin (fun a => lin (fun b => (evalI v b : Rat)) N * (evalI v a : Rat)) M := by
    refine lin_congr fun x hx => ?_
    have e2 : lin (fun b => (evalI v (joinP x.1 b) : Rat)) N = lin (fun b => (evalI v x.1 : Rat) * (evalI v b : Rat)) N := lin_congr fun y hy => by
      rw [evalI_join v (g y hy) (h x hx).one, Rat.intCast_mul]
    rw [e2, lin_mulc]
    grind
  rw [e, lin_mulc]
  grind
theorem evM_pow (v : Str → Int) {N : Poly} (h : AllP Canon N) {t : Int} (ht : evM v N = (t : Rat)) : ∀ k, evM v (powM N k) = ((t ^ k : Int) : Rat)
  | 0 => by
    show lin _ (addM [] [] ((1 : Int) : Rat)) = _
    rw [numberM, Int.pow_zero]
    show ((1 : Int) : Rat) * ((1 : Int) : Rat) = _
    rw [← Rat.intCast_mul]
    rfl
  | k + 1 => by
    show evM v (mulM (powM N k) N) = _
    rw [evM_mul v (h.pow Canon.nil CanonJ k) h, evM_pow v h ht k, ht, ← Rat.intCast_mul, Int.pow_succ]
theorem evM_prod (v v' : Str → Int) {F : Str → Option Poly} (hF : CanF F) (hn : ∀ x, F x = none → v' x = v x) (hs : ∀ x N, F x = some N → evM v N = (v' x : Rat)) : ∀ {p : Pr}, (∀ e ∈ p, 1 ≤ e.2) → evM v (prodT F p) = (evalI v' p : Rat)
  | [], _ => by
    show lin _ [([], 1)] = _
    rw [lin_cons, lin_nil]
    show 1 * ((1 : Int) : Rat) + 0 = ((1 : Int) : Rat)
    grind
  | e :: r, h => by
    have hr := fun f (hf : f ∈ r) => h f (by simp [hf])
    have he := h e (by simp)
    show evM v (mulM (termF F e) (prodT F r)) = ((v' e.1 ^ e.2.toNat * evalI v' r : Int) : Rat)
    rw [evM_mul v (termF_can hF he) (prodT_can hF hr), evM_prod v v' hF hn hs hr, Rat.intCast_mul]
    congr 1
    unfold termF
    cases hN : F e.1 with
    | none =>
      show lin _ [([e], 1)] = _
      rw [lin_cons, lin_nil, hn _ hN]
      show 1 * ((v e.1 ^ e.2.toNat * 1 : Int) : Rat) + 0 = _
      rw [Int.mul_one]
      grind
    | some N => exact evM_pow v (hF _ _ hN) (hs _ _ hN) _
theorem evM_put (v v' : Str → Int) {F : Str → Option Poly} (hF : CanF F) (hn : ∀ x, F x = none → v' x = v x) (hs : ∀ x N, F x = some N → evM v N = (v' x : Rat)) {M : Poly} (h : AllP Canon M) : evM v (putInM F M) = evM v' M := by
  unfold evM
  rw [lin_putIn hF h]
  exact lin_congr fun y hy => evM_prod v v' hF hn hs (h y hy).one
/-! ### what the law's sums keep to -/
theorem degP_ins {e : Str × Int} (he : 1 ≤ e.2) : ∀ {p : Pr}, (∀ f ∈ p, 1 ≤ f.2) → degP (insE e p) = e.2.toNat + degP p
  | [], _ => rfl
  | f :: r, h => by
    have hf := h f (by simp)
    unfold insE
    split
    · rfl
    · split
      · show (f.2 + e.2).toNat + degP r = e.2.toNat + (f.2.toNat + degP r)
        omega
      · show f.2.toNat + degP (insE e r) = e.2.toNat + (f.2.toNat + degP r)
        rw [degP_ins he fun g hg => h g (by simp [hg])]
        omega
theorem degP_join {q : Pr} (hq : Canon q) : ∀ {p : Pr}, (∀ f ∈ p, 1 ≤ f.2) → degP (joinP p q) = degP p + degP q
  | [], _ => by
    show degP q = 0 + degP q
    omega
  | e :: r, h => by
    have hr := fun f (hf : f ∈ r) => h f (by simp [hf])
    show degP (insE e (joinP r q)) = e.2.toNat + degP r + degP q
    rw [degP_ins (h e (by simp)) (hq.join hr).one, degP_join hq hr]
    omega
/-- canonical, of a power up to g -/
def Lo (g : Nat) (p : Pr) : Prop := Canon p ∧ degP p ≤ g
theorem Lo.join {g k : Nat} {a b : Pr} (ha : Lo g a) (hb : Lo k b) : Lo (g + k) (joinP a b) := ⟨hb.1.join ha.1.one, by rw [degP_join hb.1 ha.1.one]; exact Nat.add_le_add ha.2 hb.2⟩
theorem Lo.up {g k : Nat} (h : g ≤ k) {p : Pr} (a : Lo g p) : Lo k p := ⟨a.1, Nat.le_trans a.2 h⟩
theorem lo_tree {ns : List Str} : ∀ {t : Tr} {d : Nat}, TrOk ns d t → AllP (Lo (2 ^ d)) (polyT t)
  | .num n, d, _ => AllP.nil.mem_add ⟨.nil, Nat.zero_le _⟩ _
  | .name x, d, _ => AllP.single ⟨canon_one (e := (x, 1)) (Int.le_refl 1), Nat.le_trans (show degP [(x, (1 : Int))] ≤ 1 from Nat.le_refl 1) (Nat.one_le_pow _ _ (by decide))⟩
  | .bin o a b, 0, h => False.elim h
  | .bin o a b, d + 1, ⟨ha, hb⟩ => by
    have fa := lo_tree ha
    have fb := lo_tree hb
    have up : 2 ^ d ≤ 2 ^ (d + 1) := Nat.pow_le_pow_right (by decide) (Nat.le_succ d)
    have e : 2 ^ d + 2 ^ d = 2 ^ (d + 1) := by rw [Nat.pow_succ]; omega
    cases o with
    | add => exact AllP.sum _ (fa.imp fun _ => Lo.up up) (fb.imp fun _ => Lo.up up)
    | less => exact AllP.sum _ (fa.imp fun _ => Lo.up up) ((fb.imp fun _ => Lo.up up).neg)
    | times => exact fa.mul fb fun _ _ x y => e ▸ x.join y
theorem Fit.can {ns : List Str} {n D S : Nat} {M : Poly} (h : Fit (Of ns) n D S M) : AllP Canon M := fun x hx => (h.good.pr x hx).1
theorem Fit.mul1 {ns : List Str} {n m S R : Nat} {M N : Poly} (h : Fit (Of ns) n 1 S M) (g : Fit (Of ns) m 1 R N) : Fit (Of ns) (n * m) 1 (S * R) (mulM M N) := h.mul g fun _ _ => Of.join
/-- a sum by a tree that the law makes -/
structure TP (ns : List Str) (M : Poly) : Prop where
  fit : Fit (Of ns) 4 1 (sT 2) M
  lo : AllP (Lo 4) M
theorem tp_of {ns : List Str} {t : Tr} (h : TrOk ns 2 t) : TP ns (polyT t) := ⟨fit_tree h, lo_tree h⟩
theorem Fit.nd {ns : List Str} {n D S : Nat} {M : Poly} (h : Fit (Of ns) n D S M) : (M.map (·.1)).Nodup := h.good.nd
section
variable {ns : List Str} {a b c d S R Q n m k : Nat} {M N L : Poly}
theorem pair1 (h : Fit (Of ns) n 1 S M) (g : Fit (Of ns) m 1 R N) : eqM (sumM M N) (sumM N M) = true := eqM_of (h.plus g).good (g.plus h).good fun f => by
  rw [lin_sumM f N h.nd, lin_sumM f M g.nd]
  grind
theorem pair2 (h : Fit (Of ns) n 1 S M) (g : Fit (Of ns) m 1 R N) : eqM (mulM M N) (mulM N M) = true := eqM_of (h.mul1 g).good (g.mul1 h).good (mul_comm' h.can g.can)
theorem pair3 (h : Fit (Of ns) n 1 S M) (g : Fit (Of ns) m 1 R N) (q : Fit (Of ns) k 1 Q L) : eqM (sumM (sumM M N) L) (sumM M (sumM N L)) = true := eqM_of ((h.plus g).plus q).good (h.plus (g.plus q)).good fun f => by
  rw [lin_sumM f L (h.plus g).nd, lin_sumM f N h.nd, lin_sumM f (sumM N L) h.nd, lin_sumM f L g.nd]
  grind
theorem pair4 (h : Fit (Of ns) n 1 S M) (g : Fit (Of ns) m 1 R N) (q : Fit (Of ns) k 1 Q L) : eqM (mulM (mulM M N) L) (mulM M (mulM N L)) = true := eqM_of ((h.mul1 g).mul1 q).good (h.mul1 (g.mul1 q)).good (mul_assoc' h.can g.can q.can)
theorem pair5 (h : Fit (Of ns) n 1 S M) (g : Fit (Of ns) m 1 R N) (q : Fit (Of ns) k 1 Q L) : eqM (mulM M (sumM N L)) (sumM (mulM M N) (mulM M L)) = true := eqM_of (h.mul1 (g.plus q)).good ((h.mul1 g).plus (h.mul1 q)).good fun f => by
  rw [mul_add' g.nd, lin_sumM f _ (h.mul1 g).nd]
theorem pair6 (h : Fit (Of ns) n 1 S M) (g : Fit (Of ns) m 1 R N) : eqM (sumM M (negM N)) (sumM M (mulM (addM [] [] ((-1 : Int) : Rat)) N)) = true := eqM_of (h.plus g.neg).good (h.plus ((Fit.number (-1)).mul1 g)).good fun f => by
  rw [lin_sumM f _ h.nd, lin_sumM f _ h.nd, lin_neg, lin_mul, numberM]
  show _ + - lin f N = _ + ((-1 : Int) : Rat) * lin f N
  have : ((-1 : Int) : Rat) = -1 := rfl
  rw [this]
  grind
theorem pair7 (h : Fit (Of ns) n 1 S M) (g : Fit (Of ns) m 1 R N) : eqM (mulM (sumM M N) (sumM M (negM N))) (sumM (mulM M M) (negM (mulM N N))) = true := eqM_of ((h.plus g).mul1 (h.plus g.neg)).good ((h.mul1 h).plus (g.mul1 g).neg).good fun f => by
  rw [add_mul' h.nd, mul_add' h.nd, mul_add' h.nd, mul_neg', mul_neg', lin_sumM f _ (h.mul1 h).nd, lin_neg, mul_comm' h.can g.can f]
  grind
theorem put_can {F : Str → Option Poly} (h : ∀ x N, F x = some N → AllP Canon N) : CanF F := h
theorem pair8 {F : Str → Option Poly} (hF : CanF F) (h : Fit (Of ns) n 1 S M) (g : Fit (Of ns) m 1 R N) {x y z : Nat} {x' y' z' : Nat} (f1 : Fit (Of ns) x 1 x' (putInM F (sumM M N))) (f2 : Fit (Of ns) y 1 y' (putInM F M)) (f3 : Fit (Of ns) z 1 z' (putInM F N)) : eqM (putInM F (sumM M N)) (sumM (putInM F M) (putInM F N)) = true := eqM_of f1.good (f2.plus f3).good fun f => by
  rw [put_add hF h.nd h.can g.can, lin_sumM f _ f2.nd]
theorem pair9 {F : Str → Option Poly} (hF : CanF F) (h : Fit (Of ns) n 1 S M) (g : Fit (Of ns) m 1 R N) {x y z : Nat} {x' y' z' : Nat} (f1 : Fit (Of ns) x 1 x' (putInM F (mulM M N))) (f2 : Fit (Of ns) y 1 y' (putInM F M)) (f3 : Fit (Of ns) z 1 z' (putInM F N)) : eqM (putInM F (mulM M N)) (mulM (putInM F M) (putInM F N)) = true := eqM_of f1.good (f2.mul1 f3).good (put_mul hF h.can g.can)
theorem pair10 {F : Str → Option Poly} (hF : CanF F) (h : Fit (Of ns) n 1 S M) {x x' : Nat} (f1 : Fit (Of ns) x 1 x' (putInM F M)) (hs : ∀ z, F z = none ∨ F z = some [([(z, 1)], 1)]) : eqM (putInM F M) M = true := eqM_of f1.good h.good (put_same hF h.can fun y hy e he => by
  rcases hs e.1 with z | z
  · exact term_none z
  · exact term_single ((h.can y hy).one e he) z)
theorem pair11 {F : Str → Option Poly} (hF : CanF F) (h : Fit (Of ns) n 1 S M) {x x' : Nat} (f1 : Fit (Of ns) x 1 x' (putInM F M)) (hs : ∀ z ∈ ns, F z = none) : eqM (putInM F M) M = true := eqM_of f1.good h.good (put_same hF h.can fun y hy e he => term_none (hs _ ((h.good.pr y hy).2 e he)))
theorem tp_pow {top : Nat} (ht : top ≤ 8) (hns : ns.length < 32) (h : TP ns M) : PowFit ns 4 1 (sT 2) top M := ⟨h.fit, by decide, by decide, by decide +kernel, by rw [Nat.one_pow]; decide +kernel, Nat.lt_of_le_of_lt (pow_up (by decide +kernel) ht) (by decide +kernel), Nat.lt_of_le_of_lt (pow_up (by decide) ht) (by decide +kernel), hns, fun x hx e he => by
  have a := exp_le_deg he
  have b := (h.lo x hx).2
  omega⟩
theorem put_fit {F : Str → Option Poly} {top : Nat} (ht : top ≤ 8) (hns : ns.length < 32) (hF : ∀ x N, F x = some N → TP ns N) : PutFit ns F 4 (sT 2) top := ⟨fun x N e => tp_pow ht hns (hF x N e), by decide, by decide +kernel, Nat.lt_of_le_of_lt (pow_up (by decide) ht) (by decide +kernel), Nat.lt_of_le_of_lt (pow_up (by decide +kernel) ht) (by decide +kernel), hns, by omega⟩
theorem in_fit4 {F : Str → Option Poly} (hns : ns.length < 32) (hF : ∀ x N, F x = some N → TP ns N) (hm : m ≤ 16) (hS : S ≤ sT 2 * sT 2) (h : Fit (Of ns) m 1 S M) (l : AllP (Lo 4) M) : InFit ns F M m 1 S 4 (sT 2) 4 :=
  ⟨put_fit (by decide) hns hF, h, by decide, by decide +kernel, Nat.lt_of_le_of_lt (Nat.mul_le_mul_right _ hS) (by decide +kernel), Nat.lt_of_le_of_lt (Nat.mul_le_mul_right _ hm) (by decide +kernel), fun y hy => (l y hy).2⟩
theorem in_fit8 {F : Str → Option Poly} (hns : ns.length < 32) (hF : ∀ x N, F x = some N → TP ns N) (hm : m ≤ 16) (hS : S ≤ sT 2 * sT 2) (h : Fit (Of ns) m 1 S M) (l : AllP (Lo 8) M) : InFit ns F M m 1 S 4 (sT 2) 8 :=
  ⟨put_fit (by decide) hns hF, h, by decide, by decide +kernel, Nat.lt_of_le_of_lt (Nat.mul_le_mul_right _ hS) (by decide +kernel), Nat.lt_of_le_of_lt (Nat.mul_le_mul_right _ hm) (by decide +kernel), fun y hy => (l y hy).2⟩
theorem tp_name {x : Str} (h : x ∈ ns) : TP ns [([(x, 1)], 1)] := ⟨(Fit.name h).mono (by decide) (by decide +kernel), AllP.single ⟨canon_one (e := (x, 1)) (Int.le_refl 1), Nat.le_trans (show degP [(x, (1 : Int))] ≤ 1 from Nat.le_refl 1) (by decide)⟩⟩
end
/-- two sums in a tuple, with the same parts -/
def PairOk (K : PySem.W.Frag) (w : World) (C : Addr) (H : Hp) (v : V) : Prop := ∃ (t x y : Addr) (M N : Poly), v = .ref t ∧ H t = some (.tup [.ref x, .ref y]) ∧ SumAt K w C H x M ∧ SumAt K w C H y N ∧ eqM M N = true
theorem PairOk.same {K w C H H' v} (h : PairOk K w C H v) (s : Same H H') : PairOk K w C H' v := let ⟨t, x, y, M, N, a, b, c, d, e⟩ := h; ⟨t, x, y, M, N, a, s _ _ b, c.same s, d.same s, e⟩
theorem SumAt.elseL {K : PySem.W.Frag} {w : World} {C : Addr} {H H' : Hp} {p d : Addr} {M : Poly} {xs : List V} (h : SumAt K w C H p M) (e : Else d H H') (hd : H d = some (.lst xs)) : SumAt K w C H' p M := h.elseU e hd True.intro (fun _ _ _ z => by cases z) (fun _ _ z => by cases z)
theorem PairOk.else {K : PySem.W.Frag} {w : World} {C : Addr} {H H' : Hp} {v : V} {d : Addr} {xs : List V} (h : PairOk K w C H v) (e : Else d H H') (hd : H d = some (.lst xs)) : PairOk K w C H' v := let ⟨t, x, y, M, N, a, b, c, g, q⟩ := h; ⟨t, x, y, M, N, a, e _ _ b (ne_of b hd (by intro z; cases z)), c.elseL e hd, g.elseL e hd, q⟩
/-- what stands while the law makes its pairs -/
structure Cur (K : PySem.W.Frag) (w : World) (C : Addr) (h c l x1 x2 x3 : Addr) (s k : Int) (cs : List Int) (nh : List Str) (M1 M2 M3 : Poly) (H : Hp) : Prop where
  A : HAt H h c s k cs
  el : H l = some (.lst (nh.map V.str))
  S1 : SumAt K w C H x1 M1
  S2 : SumAt K w C H x2 M2
  S3 : SumAt K w C H x3 M3
theorem Cur.same {K w C h c l x1 x2 x3 s k cs nh M1 M2 M3 H H'} (u : Cur K w C h c l x1 x2 x3 s k cs nh M1 M2 M3 H) (e : Same H H') : Cur K w C h c l x1 x2 x3 s k cs nh M1 M2 M3 H' := ⟨u.A.same e, e _ _ u.el, u.S1.same e, u.S2.same e, u.S3.same e⟩
theorem Cur.put {K w C h c l x1 x2 x3 s k cs nh M1 M2 M3 H} {d : Addr} {xs ys : List V} (u : Cur K w C h c l x1 x2 x3 s k cs nh M1 M2 M3 H) (hd : H d = some (.lst xs)) (n1 : d ≠ h) (n2 : d ≠ c) (n3 : d ≠ l) : Cur K w C h c l x1 x2 x3 s k cs nh M1 M2 M3 (upd H d (.lst ys)) :=
  ⟨u.A.set n1 n2, by rw [upd_ne n3.symm]; exact u.el, u.S1.elseL .upd hd, u.S2.elseL .upd hd, u.S3.elseL .upd hd⟩
theorem FillAt.elseL {K : PySem.W.Frag} {w : World} {C : Addr} {H H' : Hp} {d p : Addr} {F : Str → Option Poly} {fk : List (L2.Key × V)} {xs : List V} (h : FillAt K w C H d F fk) (e : Else p H H') (hp : H p = some (.lst xs)) : FillAt K w C H' d F fk := ⟨e _ _ h.d (ne_of h.d hp (by intro z; cases z)), h.no, fun x N q => let ⟨s, a, b⟩ := h.yes x N q; ⟨s, a, b.elseL e hp⟩⟩
def F2 (a b : Str) (M N : Poly) (x : Str) : Option Poly := if x = b then some N else if x = a then some M else none
def F1 (a : Str) (M : Poly) (x : Str) : Option Poly := if x = a then some M else none
theorem fill_one {K : PySem.W.Frag} {w : World} {C : Addr} {H : Hp} {d x : Addr} {a : Str} {M : Poly} (hd : H d = some (.dK (mergeK [] [(.inr a, .ref x)]))) (S : SumAt K w C H x M) : FillAt K w C H d (F1 a M) (mergeK [] [(.inr a, .ref x)]) := by
  refine ⟨hd, fun z h => ?_, fun z N h => ?_⟩
  · have e : valV (mergeK [] [((.inr a : L2.Key), V.ref x)]) (.inr z) = if (.inr z : L2.Key) = .inr a then some (.ref x) else none := valV_put ([] : List (L2.Key × V)) (Sum.inr a) (Sum.inr z) (.ref x)
    unfold F1 at h
    rw [e, if_neg]
    intro q
    rw [if_pos (Sum.inr.inj q)] at h
    cases h
  · have e : valV (mergeK [] [((.inr a : L2.Key), V.ref x)]) (.inr z) = if (.inr z : L2.Key) = .inr a then some (.ref x) else none := valV_put ([] : List (L2.Key × V)) (Sum.inr a) (Sum.inr z) (.ref x)
    unfold F1 at h
    split at h
    · rename_i q
      cases h
      exact ⟨x, by rw [e, if_pos (by rw [q])], S⟩
    · cases h
theorem fill_two {K : PySem.W.Frag} {w : World} {C : Addr} {H : Hp} {d x y : Addr} {a b : Str} {M N : Poly} (hd : H d = some (.dK (mergeK [] [(.inr a, .ref x), (.inr b, .ref y)]))) (S : SumAt K w C H x M) (R : SumAt K w C H y N) : FillAt K w C H d (F2 a b M N) (mergeK [] [(.inr a, .ref x), (.inr b, .ref y)]) := by
  have e : ∀ z, valV (mergeK [] [((.inr a : L2.Key), V.ref x), (.inr b, .ref y)]) (.inr z) = if (.inr z : L2.Key) = .inr b then some (.ref y) else if (.inr z : L2.Key) = .inr a then some (.ref x) else none := fun z =>
    (valV_put (putK ([] : List (L2.Key × V)) (Sum.inr a) (.ref x)) (Sum.inr b) (Sum.inr z) (.ref y)).trans (by rw [valV_put]; rfl)
  refine ⟨hd, fun z h => ?_, fun z L h => ?_⟩
  · unfold F2 at h
    rw [e]
    split at h
    · cases h
    · rename_i q
      split at h
      · cases h
      · rename_i q2
        rw [if_neg (by simpa using q), if_neg (by simpa using q2)]
  · unfold F2 at h
    rw [e]
    split at h
    · rename_i q
      cases h
      exact ⟨y, by rw [if_pos (by rw [q])], R⟩
    · rename_i q
      split at h
      · rename_i q2
        cases h
        exact ⟨x, by rw [if_neg (by simpa using q), if_pos (by rw [q2])], S⟩
      · cases h
/-! ### the power of a name -/
section
variable {P : Program} {w : World} {K : PySem.W.Frag} {mg : Str → Option Value} {base : Heap} {C : Addr}
theorem expo_at {p : Pr} (h : Canon p) {e : Str × Int} (he : e ∈ p) : expo p e.1 = e.2 := by
  induction p with
  | nil => cases he
  | cons f r ih =>
    rcases List.mem_cons.mp he with z | z
    · subst z
      exact h.head
    · have lt := (List.pairwise_cons.mp h.up).1 e z
      show (if f.1 = e.1 then f.2 else 0) + expo r e.1 = e.2
      rw [if_neg (fun q => by rw [q] at lt; exact slt_irrefl _ lt), ih h.tail z]
      omega
def spPowerIn (K : PySem.W.Frag) : Sp := fun vs H Q _ => ∃ (b : Addr) (x : Str) (p : Pr), vs = [.ref b, .str x] ∧ ProdAt K H b p ∧ Canon p ∧ Q (.int (expo p x)) H
theorem ok_power_in {f : Addr} {fd : FuncData} (T : Txt K mg C) (F : DefAt K mg "_power_in" "_power_in" s_power_in ["product", "x"] f fd) : FnOk P w K mg base CX0 1 f fd ["product", "x"] (spPowerIn K) := by
  refine F.F.ok sc_power_in (fun vs H Q E h => ?_) (fun cdv A outer s H vs Q E hr h => ?_)
  · obtain ⟨b, x, p, rfl, _⟩ := h
    rfl
  · obtain ⟨b, x, p, rfl, ⟨qs, hq, pq⟩, cp, q⟩ := h
    refine ⟨_, (pss_cons (ps_for PassesOwn.never rfl (pi_tup (pv 0)) (pg_tup (by rfl) (pgs_cons (pg_name (i := 2) sc_power_in.nd rfl (.inl rfl)) (pgs_cons (pg_name (i := 3) sc_power_in.nd rfl (.inl rfl)) pgs_nil))) (pss_one (ps_if (pt_cmpR op_eq (pv 2) (pv 1) (nomark _)) (pss_one (ps_ret (pv 3))) pss_nil)))
      (pss_one (ps_ret pe_int))), ?_⟩
    have lq : qs.length = p.length := Paired.length pq
    refine ⟨_, rfl, b, rfl, ⟨_, hq⟩, for_tup (fun i σ H2 => ∃ v2 v3 : Option V, σ = [some (.ref b), some (.str x), v2, v3] ∧ H2 = H ∧ ∀ e ∈ p.take i, e.1 ≠ x) ⟨none, none, rfl, rfl, fun e he => by rw [List.take_zero] at he; cases he⟩ (fun i σ H2 _ ⟨_, _, _, z, _⟩ => by rw [z]; exact hq) ?_ ?_⟩
    · rintro i y σ H2 hy ⟨v2, v3, rfl, rfl, hn⟩
      obtain ⟨qa, e, rfl, he, hqa⟩ := Paired.ixR pq hy
      have mem : e ∈ p := List.mem_of_getElem? he
      refine ⟨qa, _, rfl, hqa, rfl, _, [.int e.2], rfl, _, [], rfl, rfl, _, rfl, _, rfl, rfl, _, rfl, ite2 (fun c => ?_) (fun c => ?_)⟩
      · have ex : e.1 = x := by simpa using c
        have z := expo_at cp mem
        rw [ex] at z
        rw [z] at q
        exact ⟨_, rfl, q⟩
      · refine ⟨_, _, rfl, rfl, fun g hg => ?_⟩
        rw [List.take_add_one, he] at hg
        rcases List.mem_append.mp hg with z | z
        · exact hn g z
        · rw [show g = e by simpa using z]
          simpa using c
    · rintro σ H2 ⟨v2, v3, rfl, rfl, hn⟩
      rw [List.length_map, lq, List.take_length] at hn
      rw [expo_zero hn] at q
      exact q
end
/-! ### shares by numbers -/
section
variable {P : Program} {w : World} {K : PySem.W.Frag} {mg : Str → Option Value} {base : Heap} {C : Addr}
/-- a dict from numbers to shares -/
def RowL (K : PySem.W.Frag) (H : Hp) (kvs : List (L2.Key × V)) (R : List (Int × Rat)) : Prop := Paired (fun kv e => kv.1 = (Sum.inl e.1 : L2.Key) ∧ ∃ q, kv.2 = V.ref q ∧ SqT K H q (ratV e.2)) kvs R
def RowAt (K : PySem.W.Frag) (H : Hp) (d : Addr) (R : List (Int × Rat)) : Prop := ∃ kvs, H d = some (.dK kvs) ∧ RowL K H kvs R
def lookR (R : List (Int × Rat)) (k : Int) : Option Rat := (R.find? fun e => decide (e.1 = k)).map (·.2)
def atR (R : List (Int × Rat)) (k : Int) : Rat := (lookR R k).getD 0
def putR (R : List (Int × Rat)) (k : Int) (t : Rat) : List (Int × Rat) := if (R.any fun x => decide (x.1 = k)) = true then R.map (fun x => if x.1 = k then (x.1, t) else x) else R ++ [(k, t)]
def dropR (R : List (Int × Rat)) (k : Int) : List (Int × Rat) := R.filter fun x => decide (x.1 ≠ k)
def addR (R : List (Int × Rat)) (k : Int) (r : Rat) : List (Int × Rat) := if atR R k + r = 0 then dropR R k else putR R k (atR R k + r)
theorem RowL.stay {H H' : Hp} {kvs : List (L2.Key × V)} {R : List (Int × Rat)} (r : RowL K H kvs R) (t : TupsStay H H') : RowL K H' kvs R := Paired.mapP r fun _ _ ⟨e, q, e1, e2⟩ => ⟨e, q, e1, SqT.keeps e2 t⟩
theorem RowL.look {H : Hp} {kvs : List (L2.Key × V)} {R : List (Int × Rat)} (r : RowL K H kvs R) (k : Int) : (valV kvs (.inl k) = none ∧ lookR R k = none) ∨ ∃ q x, valV kvs (.inl k) = some (.ref q) ∧ lookR R k = some x ∧ SqT K H q (ratV x) := by
  induction r with
  | nil => exact .inl ⟨rfl, rfl⟩
  | @cons l m ls ms h t ih =>
    obtain ⟨h1, q, h2, h3⟩ := h
    by_cases z : m.1 = k
    · refine .inr ⟨q, m.2, ?_, ?_, h3⟩
      · rw [valV_pos (by rw [h1, z]), h2]
      · unfold lookR
        simp [z]
    · have e1 : valV (l :: ls) (.inl k) = valV ls (.inl k) := valV_neg (by rw [h1]; simpa using z)
      have e2 : lookR (m :: ms) k = lookR ms k := by
        unfold lookR
        simp [z]
      rw [e1, e2]
      exact ih
theorem RowL.put {H : Hp} {kvs : List (L2.Key × V)} {R : List (Int × Rat)} (r : RowL K H kvs R) (k : Int) {t : Rat} {q : Addr} (hq : SqT K H q (ratV t)) : RowL K H (putK kvs (.inl k) (.ref q)) (putR R k t) := by
  have e : (kvs.any fun kv => decide (kv.1 = (Sum.inl k : L2.Key))) = (R.any fun x => decide (x.1 = k)) := by
    induction r with
    | nil => rfl
    | @cons l m ls ms h t ih =>
      rw [List.any_cons, List.any_cons, ih, h.1]
      by_cases z : m.1 = k
      · simp [z]
      · simp [z]
  unfold putK putR
  rw [e]
  by_cases c : (R.any fun x => decide (x.1 = k)) = true
  · rw [if_pos c, if_pos c]
    clear e c
    induction r with
    | nil => exact .nil
    | @cons l m ls ms h t' ih =>
      rw [List.map_cons, List.map_cons]
      refine .cons ?_ ih
      obtain ⟨h1, h2⟩ := h
      by_cases z : m.1 = k
      · rw [if_pos (by rw [h1, z]), if_pos z]
        exact ⟨h1, q, rfl, hq⟩
      · rw [if_neg (by rw [h1]; simpa using z), if_neg z]
        exact ⟨h1, h2⟩
  · rw [if_neg c, if_neg c]
    exact Paired.snoc r ⟨rfl, q, rfl, hq⟩
theorem RowL.drop {H : Hp} {kvs : List (L2.Key × V)} {R : List (Int × Rat)} (r : RowL K H kvs R) (k : Int) : RowL K H (dropK kvs (.inl k)) (dropR R k) := by
  induction r with
  | nil => exact .nil
  | @cons l m ls ms h t ih =>
    unfold dropK dropR
    rw [List.filter_cons, List.filter_cons]
    obtain ⟨h1, h2⟩ := h
    by_cases z : m.1 = k
    · rw [if_neg (by rw [h1]; simp [z]), if_neg (by simp [z])]
      exact ih
    · rw [if_pos (by rw [h1]; simpa using z), if_pos (by simpa using z)]
      exact .cons ⟨h1, h2⟩ ih
theorem dropR_none {R : List (Int × Rat)} {k : Int} (h : lookR R k = none) : dropR R k = R := by
  refine List.filter_eq_self.mpr fun x hx => ?_
  have z : ¬ x.1 = k := fun e => by
    unfold lookR at h
    cases f : R.find? (fun e => decide (e.1 = k)) with
    | none => exact absurd (List.find?_eq_none.mp f x hx) (by simp [e])
    | some y =>
      rw [f] at h
      cases h
  simpa using z
def spPutK (K : PySem.W.Frag) : Sp := fun vs H Q _ => ∃ (d p : Addr) (k : Int) (r : Rat) (R : List (Int × Rat)), vs = [.ref d, .int k, .ref p] ∧ RowAt K H d R ∧ SqT K H p (ratV r) ∧ RB 4000 (atR R k) ∧ RB 4000 r ∧ R.length < 1000 ∧ ∀ H', RowAt K H' d (addR R k r) → Else d H H' → Q .non H'
theorem ok_put_toK {f : Addr} {fd : FuncData} (T : Txt K mg C) (F : DefAt K mg "_put_to" "_put_to" s_put_to ["shares", "key", "part"] f fd) : FnOk P w K mg base CX0 3 f fd ["shares", "key", "part"] (spPutK K) := by
  obtain ⟨f1, fd1, D_plus⟩ := T.d_plus
  have G_plus : FnOk P w K mg base CX0 2 f1 fd1 ["one", "other"] (spRat K (· + ·)) := ok_plus T D_plus
  obtain ⟨aN, gN, tN⟩ := T.c_NOUGHT
  refine F.F.ok sc_put_to (fun vs H Q E h => ?_) (fun cdv A outer s H vs Q E hr h => ?_)
  · obtain ⟨d, p, k, r, R, rfl, _⟩ := h
    rfl
  · obtain ⟨d, p, k, r, R, rfl, ⟨kvs, ed, rL⟩, hp, ra, rr, hn, q⟩ := h
    have lR : kvs.length = R.length := Paired.length rL
    refine ⟨_, (pss_cons (ps_set (i := 3) sc_put_to.nd rfl (.inl rfl) (pe_call G_plus (hr.mono (by decide)) (by rfl) D_plus.g D_plus.F.kp D_plus.b .nil pass0 (pa_cons (pe_dget2 (room1 hr) (pv 0) (pv 1) (pe_glob (v := .ref aN) rfl gN rfl) ⟨rfl, rfl, rfl, rfl⟩) (pa_cons (pv 2) pa_nil))))
      (pss_one (ps_if (pt_cmpR (op_eqD hr.units) (pv 3) (pe_glob (v := .ref aN) rfl gN rfl) (nomark _)) (pss_one (ps_expr (pe_dpop2 (pv 0) (pv 1) pe_non ⟨rfl, rfl, rfl, rfl⟩))) (pss_one (ps_dput (room1 hr) (pv 0) (pv 1) (pv 3) rfl))))), ?_⟩
    obtain ⟨qa, eqa, hqa⟩ : ∃ qa, (valV kvs (.inl k)).getD (.ref aN) = .ref qa ∧ SqT K H qa (ratV (atR R k)) := by
      unfold atR
      rcases rL.look k with ⟨e1, e2⟩ | ⟨qa, x, e1, e2, e3⟩
      · rw [e1, e2]
        exact ⟨aN, rfl, tN H⟩
      · rw [e1, e2]
        exact ⟨qa, rfl, e3⟩
    refine ⟨_, rfl, d, rfl, .inl ⟨_, .inl ed⟩, _, rfl, _, DGet.k (k := .inl k) ed, _, rfl, qa, p, atR R k, r, 4000, 4000, by rw [eqa]; rfl, hqa, hp, ra, rr, by decide, by decide, by decide, fun o H1 sm no eo => ?_⟩
    have ed1 := sm _ _ ed
    have rL1 := rL.stay (.same sm)
    have fin : ∀ (H' : Hp), RowAt K H' d (addR R k r) → Else d H1 H' → Q .non H' := fun H' h1 h2 => q H' h1 ((Same.else sm).trans h2)
    refine ⟨_, rfl, .tuple [.int (atR R k + r).num, .int ((atR R k + r).den : Int)], .tuple [.int 0, .int 1], .tup (SqT.of eo) (.cons (.int _) (.cons (.int _) .nil)), .tup (tN H1) (.cons (.int _) (.cons (.int _) .nil)), by simp [SeqAt.shaped, PyData.canLay0, PyData.canLayAll0, PyData.depth, PyData.depthAll],
      by decide, _, rfl, ite2 (fun e => ?_) (fun e => ?_)⟩
    · have e0 : atR R k + r = 0 := by
        simp only [PyData.eqv, PyData.eqvAll, Bool.and_true, Bool.and_eq_true, beq_iff_eq] at e
        exact Rat.num_eq_zero.mp e.1
      have ea : addR R k r = dropR R k := if_pos e0
      rw [ea] at fin
      refine ⟨_, rfl, d, rfl, .inl ⟨_, .inl ed1⟩, _, rfl, kvs, .inl k, ed1, rfl, fun v hv => ?_, fun hv => ?_⟩
      · exact fin _ ⟨dropK kvs (.inl k), upd_same, (rL1.drop k).stay (.upd ed1 True.intro)⟩ .upd
      · have hno : lookR R k = none := by
          rcases rL.look k with ⟨_, e2⟩ | ⟨_, _, e1, _⟩
          · exact e2
          · rw [e1] at hv
            cases hv
        rw [dropR_none hno] at fin
        exact fin H1 ⟨kvs, ed1, rL1⟩ (.refl _ _)
    · have e0 : ¬ atR R k + r = 0 := fun z => by
        rw [z] at e
        exact e (by decide)
      have ea : addR R k r = putR R k (atR R k + r) := if_neg e0
      rw [ea] at fin
      refine ⟨_, rfl, _, rfl, _, rfl, d, _, rfl, DPut.k (k := .inl k) ed1 (by rw [lR, sizeLine_eq]; omega), ?_⟩
      exact fin _ ⟨_, upd_same, (rL1.put k (SqT.of eo)).stay (.upd ed1 True.intro)⟩ .upd
end
/-! ### from one row of shares to the next -/
/-- walked by its values -/
theorem for_vals {d : Addr} {o : Obj} {kvs : List (L2.Key × V)} {g : TG} {tb : TS} {D : Ends} {σ : L2.St} {H : Hp} (Pv : Nat → L2.St → Hp → Prop) (h0 : Pv 0 σ H) (hl : ∀ i σ H, i ≤ kvs.length → Pv i σ H → H d = some (.frz o (.dK kvs)))
    (hs : ∀ i k v σ H, kvs[i]? = some (k, v) → Pv i σ H → g v σ H fun σ2 H2 => tb { D with nx := Pv (i + 1), ct := Pv (i + 1), bk := D.nx } σ2 H2) (hd : ∀ σ H, Pv kvs.length σ H → D.nx σ H) :
    ∃ W : Nat → Nat → L2.St → Hp → Prop, (∃ m, W 0 m σ H) ∧ ∀ i m σ H, W i m σ H → ((Itd d o kvs).stop i H ∧ D.nx σ H) ∨ ((Itd d o kvs).go i H ∧ ∃ N : L2.St → Hp → Prop, (∀ σ' H', N σ' H' → ∃ m', m' < m ∧ W (i + 1) m' σ' H') ∧
      ∀ x H', (Itd d o kvs).yld i H x H' → g x σ H' fun σ2 H2 => tb { D with nx := N, ct := N, bk := D.nx } σ2 H2) := by
  refine ⟨fun i m σ H => m = kvs.length - i ∧ i ≤ kvs.length ∧ Pv i σ H, ⟨_, rfl, Nat.zero_le _, h0⟩, fun i m σ H ⟨em, hi, p⟩ => ?_⟩
  have F := hl i σ H hi p
  by_cases lt : i < kvs.length
  · refine .inr ⟨⟨F, lt⟩, Pv (i + 1), fun σ' H' p' => ⟨kvs.length - (i + 1), by omega, rfl, lt, p'⟩, fun x H' ⟨eH, k, hL⟩ => ?_⟩
    subst eH
    exact hs i k x σ _ hL p
  · have e : i = kvs.length := by omega
    subst e
    exact .inl ⟨⟨F, Nat.le_refl _⟩, hd σ H p⟩
theorem RowL.keys {K : PySem.W.Frag} {H : Hp} {kvs : List (L2.Key × V)} {R : List (Int × Rat)} (r : RowL K H kvs R) : kvs.map (·.1) = R.map fun y => (Sum.inl y.1 : L2.Key) := by
  induction r with
  | nil => rfl
  | cons h t ih => rw [List.map_cons, List.map_cons, h.1, ih]
theorem valV_at {kvs : List (L2.Key × V)} {k : L2.Key} {v : V} (h : (kvs.map (·.1)).Nodup) (hm : (k, v) ∈ kvs) : valV kvs k = some v := by
  induction kvs with
  | nil => cases hm
  | cons x r ih =>
    rw [List.map_cons] at h
    obtain ⟨n1, n2⟩ := List.nodup_cons.mp h
    rcases List.mem_cons.mp hm with z | z
    · subst z
      exact valV_pos rfl
    · rw [valV_neg (fun q => n1 (by rw [q]; exact List.mem_map.mpr ⟨_, z, rfl⟩))]
      exact ih n2 z
def grownR (R : List (Int × Rat)) (k : Int) : List (Int × Rat) := R.map fun e => (e.1 + 1, e.2 * Rat.divInt k (e.1 + 1))
def totR (R : List (Int × Rat)) : Rat := R.foldl (fun acc e => acc + e.2) 0
def nextR (R : List (Int × Rat)) (k : Int) : List (Int × Rat) := addR (grownR R k) 1 (0 - totR (grownR R k))
/-- what the step asks: all is small -/
structure StepOk (R : List (Int × Rat)) (k : Int) : Prop where
  nd : (R.map (·.1)).Nodup
  len : R.length < 900
  rb : ∀ e ∈ R, RB 1000 e.2 ∧ RB 1000 (Rat.divInt k (e.1 + 1)) ∧ RB 4000 (e.2 * Rat.divInt k (e.1 + 1)) ∧ e.1 + 1 ≠ 0 ∧ (e.1 + 1).natAbs < 2 ^ 100
  tot : ∀ i, RB 4000 (totR ((grownR R k).take i))
  at1 : RB 4000 (atR (grownR R k) 1) ∧ RB 4000 (0 - totR (grownR R k))
theorem totR_take {R : List (Int × Rat)} {i : Nat} {e : Int × Rat} (h : R[i]? = some e) : totR (R.take (i + 1)) = totR (R.take i) + e.2 := by
  unfold totR
  rw [List.take_add_one, h, List.foldl_append]
  rfl
section
variable {P : Program} {w : World} {K : PySem.W.Frag} {mg : Str → Option Value} {base : Heap} {C : Addr}
def spNextRow (K : PySem.W.Frag) : Sp := fun vs H Q _ => ∃ (d : Addr) (k : Int) (R : List (Int × Rat)), vs = [.ref d, .int k] ∧ RowAt K H d R ∧ StepOk R k ∧ ∀ p H', RowAt K H' p (nextR R k) → Same H H' → H p = none → Q (.ref p) H'
theorem ok_next_sum_of_powers {f : Addr} {fd : FuncData} (T : Txt K mg C) (F : DefAt K mg "_next_sum_of_powers" "_next_sum_of_powers" s_next_sum_of_powers ["row", "k"] f fd) : FnOk P w K mg base CX0 4 f fd ["row", "k"] (spNextRow K) := by
  obtain ⟨f1, fd1, D_plus⟩ := T.d_plus
  have G_plus : FnOk P w K mg base CX0 2 f1 fd1 ["one", "other"] (spRat K (· + ·)) := ok_plus T D_plus
  obtain ⟨f2, fd2, D_minus⟩ := T.d_minus
  have G_minus : FnOk P w K mg base CX0 2 f2 fd2 ["one", "other"] (spRat K (· - ·)) := ok_minus T D_minus
  obtain ⟨f3, fd3, D_times⟩ := T.d_times
  have G_times : FnOk P w K mg base CX0 2 f3 fd3 ["one", "other"] (spRat K (· * ·)) := ok_times T D_times
  obtain ⟨f4, fd4, D_share⟩ := T.d_share
  have G_share : FnOk P w K mg base CX0 1 f4 fd4 ["top", "bottom"] spShare := ok_share T D_share
  obtain ⟨f5, fd5, D_put_to⟩ := T.d_put_to
  have G_put_to : FnOk P w K mg base CX0 3 f5 fd5 ["shares", "key", "part"] (spPutK K) := ok_put_toK T D_put_to
  obtain ⟨aN, gN, tN⟩ := T.c_NOUGHT
  refine F.F.ok sc_next_sum_of_powers (fun vs H Q E h => ?_) (fun cdv A outer s H vs Q E hr h => ?_)
  · obtain ⟨d, k, R, rfl, _⟩ := h
    rfl
  · obtain ⟨d, k, R, rfl, ⟨kvs, ed, rL⟩, so, q⟩ := h
    have lR : kvs.length = R.length := Paired.length rL
    have lG : (grownR R k).length = R.length := List.length_map ..
    refine ⟨_, (pss_cons (ps_lock (ps_setDc (i := 2) (own := [("power", 5)]) (g := gName 5) (tt := tYes) rfl sc_next_sum_of_powers.nd rfl rfl (sw_trueD rfl rfl rfl (by decide +kernel)) (pi_keys (pv 0)) (blkOk_by (own := [("power", 5)]) (N := ["row", "k", "grown", "rest", "part", "power"]) (sc := defScope s_next_sum_of_powers) (by decide +kernel)) (fun _ _ _ _ _ => (pg_name (i := 5) sc_next_sum_of_powers.nd rfl (.inl rfl))) (fun _ _ _ _ _ => pts_nil) (fun _ _ _ _ _ => (pe_op op_add (pv 5) pe_int)) (fun _ _ _ _ _ => (pe_call G_times (hr.mono (by decide)) (by rfl) D_times.g D_times.F.kp D_times.b .nil pass0 (pa_cons (pe_dget (room1 hr) (pv 0) (pv 5) (fun _ _ => rfl)) (pa_cons (pe_call G_share (hr.mono (by decide)) (by rfl) D_share.g D_share.F.kp D_share.b .nil pass0 (pa_cons (pv 1) (pa_cons (pe_op op_add (pv 5) pe_int) pa_nil))) pa_nil))))))
      (pss_cons (ps_set (i := 3) sc_next_sum_of_powers.nd rfl (.inl rfl) (pe_glob (v := .ref aN) rfl gN rfl))
      (pss_cons (ps_lock (ps_for PassesOwn.never rfl (pi_values (pv 2)) (pg_name (i := 4) sc_next_sum_of_powers.nd rfl (.inl rfl)) (pss_one (ps_set (i := 3) sc_next_sum_of_powers.nd rfl (.inl rfl) (pe_call G_plus (hr.mono (by decide)) (by rfl) D_plus.g D_plus.F.kp D_plus.b .nil pass0 (pa_cons (pv 3) (pa_cons (pv 4) pa_nil)))))))
      (pss_cons (ps_expr (pe_call G_put_to (hr.mono (by decide)) (by rfl) D_put_to.g D_put_to.F.kp D_put_to.b .nil pass0 (pa_cons (pv 2) (pa_cons pe_int (pa_cons (pe_call G_minus (hr.mono (by decide)) (by rfl) D_minus.g D_minus.F.kp D_minus.b .nil pass0 (pa_cons (pe_glob (v := .ref aN) rfl gN rfl) (pa_cons (pv 3) pa_nil))) pa_nil)))))
      (pss_one (ps_ret (pv 2))))))), ?_⟩
    refine ⟨d, _, ed, True.intro, fun od => ?_⟩
    have elD : Else d H (upd H d (.frz od (.dK kvs))) := .upd
    have rF : RowL K (upd H d (.frz od (.dK kvs))) kvs R := rL.stay (.upd ed True.intro)
    refine ⟨_, rfl, d, od, rfl, .inl ⟨_, upd_same, fun D nD => dc_keys (fun i H3 => ∃ kv2 : List (L2.Key × V), H3 D = some (.dK kv2) ∧ RowL K H3 kv2 ((grownR R k).take i) ∧ Same (upd H d (.frz od (.dK kvs))) H3) ⟨[], upd_same, by rw [List.take_zero]; exact .nil, same_upd nD⟩ (fun i H3 _ ⟨_, _, _, z⟩ => z _ _ upd_same) ?_ ?_⟩⟩
    · rintro i k' v H3 hL ⟨kv2, eD, r2, s3⟩
      obtain ⟨e, he, ek, qa, ev, hq⟩ := paired_get rF hL
      subst ek
      subst ev
      have mem : e ∈ R := List.mem_of_getElem? he
      obtain ⟨b1, b2, b3, b4, b5⟩ := so.rb e mem
      have hi : i < R.length := (List.getElem?_eq_some_iff.mp he).1
      have hG : (grownR R k)[i]? = some (e.1 + 1, e.2 * Rat.divInt k (e.1 + 1)) := by
        unfold grownR
        rw [List.getElem?_map, he]
        rfl
      have g1 : DGet H3 d (kV (.inl e.1)) (some (.ref qa)) := .inl ⟨kvs, .inl e.1, .inr ⟨od, s3 _ _ upd_same⟩, rfl, by
        have nk : (kvs.map (·.1)).Nodup := by
          rw [rL.keys, List.nodup_iff_pairwise_ne, List.pairwise_map]
          have nd := so.nd
          rw [List.nodup_iff_pairwise_ne, List.pairwise_map] at nd
          exact nd.imp fun h z => h (Sum.inl.inj z)
        exact (valV_at nk (List.mem_of_getElem? hL)).symm⟩
      refine ⟨rfl, _, rfl, _, _, rfl, rfl, _, rfl, _, rfl, d, _, rfl, g1, _, rfl, _, rfl, _, _, rfl, rfl, k, e.1 + 1, rfl, b4, Nat.lt_of_lt_of_le b5 (Nat.pow_le_pow_right (by decide) (by decide)), fun sp H4 s4 n4 e4 => ?_⟩
      refine ⟨qa, sp, e.2, Rat.divInt k (e.1 + 1), 1000, 1000, rfl, SqT.keeps hq (TupsStay.same (s3.trans s4)), SqT.of e4, b1, b2, by decide, by decide, by decide, fun o H5 s5 n5 e5 => ?_⟩
      have eD5 := s5 _ _ (s4 _ _ eD)
      have r5 := (r2.stay (.same s4)).stay (.same s5)
      have l2 : kv2.length = ((grownR R k).take i).length := Paired.length r2
      have none2 : valV kv2 (.inl (e.1 + 1)) = none := by
        rcases r2.look (e.1 + 1) with ⟨z, _⟩ | ⟨_, x2, _, z, _⟩
        · exact z
        · exfalso
          unfold lookR at z
          obtain ⟨y, hy, _⟩ := Option.map_eq_some_iff.mp z
          have y1 : y.1 = e.1 + 1 := by simpa using List.find?_some hy
          obtain ⟨j, hj⟩ := List.mem_iff_getElem?.mp (List.mem_of_find?_eq_some hy)
          rw [List.getElem?_take] at hj
          split at hj
          · rename_i lt
            unfold grownR at hj
            rw [List.getElem?_map] at hj
            cases hR : R[j]? with
            | none =>
              rw [hR] at hj
              cases hj
            | some g =>
              rw [hR] at hj
              have yg : (g.1 + 1, g.2 * Rat.divInt k (g.1 + 1)) = y := Option.some.inj hj
              have g1 : g.1 = e.1 := by
                rw [← yg] at y1
                have y1 : g.1 + 1 = e.1 + 1 := y1
                omega
              have a1 : (R.map (·.1))[j]? = some e.1 := by rw [List.getElem?_map, hR, ← g1]; rfl
              have a2 : (R.map (·.1))[i]? = some e.1 := by rw [List.getElem?_map, he]; rfl
              have := nd_ix so.nd a1 a2
              omega
          · cases hj
      have el5 : TupsStay H5 (upd H5 D (.dK (putK kv2 (.inl (e.1 + 1)) (.ref o)))) := .upd eD5 True.intro
      refine ⟨kv2, .inl (e.1 + 1), rfl, eD5, ?_, putK kv2 (.inl (e.1 + 1)) (.ref o), upd_same, ?_, fun c u ec => ?_⟩
      · have a := so.len
        rw [l2, List.length_take, sizeLine_eq]
        omega
      · rw [putK_new _ none2] at el5 ⊢
        rw [List.take_add_one, hG]
        exact Paired.snoc (r5.stay el5) ⟨rfl, o, rfl, SqT.keeps (SqT.of e5) el5⟩
      · rw [upd_ne (ne_of_none ec nD)]
        exact s5 _ _ (s4 _ _ (s3 _ _ ec))
    · rintro H3 ⟨kv2, eD, r2, s3⟩
      have ndD : D ≠ d := (ne_of_none upd_same nD).symm
      have hD0 : H D = none := by
        rw [upd_ne ndD] at nD
        exact nD
      rw [lR, ← lG, List.take_length] at r2
      refine ⟨s3 _ _ upd_same, ?_⟩
      have back : Same H (upd H3 d (.dK kvs)) := fun b o e => by
        by_cases z : b = d
        · subst z
          rw [upd_same]
          rw [ed] at e
          exact e
        · rw [upd_ne z]
          exact s3 _ _ (by rw [upd_ne z]; exact e)
      have eD4 : (upd H3 d (.dK kvs)) D = some (.dK kv2) := by
        rw [upd_ne ndD]
        exact eD
      have r4 : RowL K (upd H3 d (.dK kvs)) kv2 (grownR R k) := r2.stay (.upd (s3 _ _ upd_same) True.intro)
      refine ⟨D, _, eD4, True.intro, fun od2 => ?_⟩
      have rL4 : RowL K (upd (upd H3 d (.dK kvs)) D (.frz od2 (.dK kv2))) kv2 (grownR R k) := r4.stay (.upd eD4 True.intro)
      have lG2 : kv2.length = (grownR R k).length := Paired.length r4
      refine ⟨_, rfl, D, od2, kv2, rfl, upd_same, for_vals (d := D) (o := od2) (kvs := kv2) (fun i σ H5 => ∃ (v4 v5 : Option V) (t : Addr), σ = [some (.ref d), some (.int k), some (.ref D), some (.ref t), v4, v5] ∧ SqT K H5 t (ratV (totR ((grownR R k).take i))) ∧ Same (upd (upd H3 d (.dK kvs)) D (.frz od2 (.dK kv2))) H5) ⟨none, none, aN, rfl, by rw [List.take_zero]; exact tN _, fun _ _ e => e⟩ (fun i σ H5 _ ⟨_, _, _, _, _, z⟩ => z _ _ upd_same) ?_ ?_⟩
      · rintro i k' v σ H5 hL ⟨v4, v5, t, rfl, ht, s5⟩
        obtain ⟨e, he, ek, qa, ev, hq⟩ := paired_get rL4 hL
        subst ev
        have mem : e ∈ grownR R k := List.mem_of_getElem? he
        have rb : RB 4000 e.2 := by
          obtain ⟨y, hy, ey⟩ := List.mem_map.mp mem
          rw [← ey]
          exact (so.rb y hy).2.2.1
        refine ⟨_, rfl, _, rfl, t, qa, totR ((grownR R k).take i), e.2, 4000, 4000, rfl, ht, SqT.keeps hq (TupsStay.same s5), so.tot i, rb, by decide, by decide, by decide, fun o H6 s6 n6 e6 => ?_⟩
        refine ⟨_, _, o, rfl, ?_, s5.trans s6⟩
        rw [totR_take he]
        exact SqT.of e6
      · rintro σ H5 ⟨v4, v5, t, rfl, ht, s5⟩
        rw [lG2, List.take_length] at ht
        refine ⟨s5 _ _ upd_same, ?_⟩
        have back2 : Same H (upd H5 D (.dK kv2)) := fun b o e => by
          have nb : b ≠ D := ne_of_none e hD0
          rw [upd_ne nb]
          exact s5 _ _ (by rw [upd_ne nb]; exact back _ _ e)
        have t6 : TupsStay H5 (upd H5 D (.dK kv2)) := .upd (s5 _ _ upd_same) True.intro
        have ht6 : SqT K (upd H5 D (.dK kv2)) t (ratV (totR (grownR R k))) := SqT.keeps ht t6
        have eD6 : (upd H5 D (.dK kv2)) D = some (.dK kv2) := upd_same
        have r6 : RowL K (upd H5 D (.dK kv2)) kv2 (grownR R k) := (rL4.stay (.same s5)).stay t6
        generalize (upd H5 D (.dK kv2)) = H6 at back2 ht6 eD6 r6
        have tt := so.tot (grownR R k).length
        rw [List.take_length] at tt
        refine ⟨_, rfl, _, rfl, aN, t, 0, totR (grownR R k), 4000, 4000, rfl, tN _, ht6, .small (D := 1) (by decide) (by decide +kernel) (Whole.zero 1) (by rw [mag_zero]; decide +kernel), tt, by decide, by decide, by decide, fun o H7 s7 n7 e7 => ?_⟩
        refine ⟨D, o, 1, 0 - totR (grownR R k), grownR R k, rfl, ⟨kv2, s7 _ _ eD6, r6.stay (.same s7)⟩, SqT.of e7, so.at1.1, so.at1.2, by have := so.len; omega, fun H8 RA el => ?_⟩
        refine ⟨_, rfl, q D H8 RA (fun b o e => el _ _ (s7 _ _ (back2 _ _ e)) (ne_of_none e hD0)) hD0⟩
end
/-! ### all rows of shares -/
def rowS : Nat → List (Int × Rat)
  | 0 => [(1, 1)]
  | k + 1 => nextR (rowS k) ((k : Int) + 1)
section
variable {P : Program} {w : World} {K : PySem.W.Frag} {mg : Str → Option Value} {base : Heap} {C : Addr}
theorem RowAt.same {H H' : Hp} {d : Addr} {R : List (Int × Rat)} (h : RowAt K H d R) (s : Same H H') : RowAt K H' d R := let ⟨kvs, e, r⟩ := h; ⟨kvs, s _ _ e, r.stay (.same s)⟩
theorem RowAt.elseL {H H' : Hp} {d p : Addr} {R : List (Int × Rat)} {xs : List V} (h : RowAt K H d R) (e : Else p H H') (hp : H p = some (.lst xs)) : RowAt K H' d R := let ⟨kvs, q, r⟩ := h; ⟨kvs, e _ _ q (ne_of q hp (by intro z; cases z)), r.stay (e.tups hp True.intro)⟩
def spRows (K : PySem.W.Frag) : Sp := fun vs H Q _ => ∃ n : Nat, vs = [.int (n : Int)] ∧ n < 100 ∧ (∀ k, k < n → StepOk (rowS k) ((k : Int) + 1)) ∧ ∀ (p : Addr) (as : List Addr) (H' : Hp), H' p = some (.lst (as.map V.ref)) → as.length = n + 1 → (∀ j a, as[j]? = some a → RowAt K H' a (rowS j)) → Same H H' → H p = none → Q (.ref p) H'
theorem ok_sums_of_powers {f : Addr} {fd : FuncData} (T : Txt K mg C) (F : DefAt K mg "_sums_of_powers" "_sums_of_powers" s_sums_of_powers ["highest"] f fd) : FnOk P w K mg base CX0 5 f fd ["highest"] (spRows K) := by
  obtain ⟨f1, fd1, D_next_sum_of_powers⟩ := T.d_next_sum_of_powers
  have G_next_sum_of_powers : FnOk P w K mg base CX0 4 f1 fd1 ["row", "k"] (spNextRow K) := ok_next_sum_of_powers T D_next_sum_of_powers
  obtain ⟨aO, g_ONE, tO⟩ := T.c_ONE
  refine F.F.ok sc_sums_of_powers (fun vs H Q E h => ?_) (fun cdv A outer s H vs Q E hr h => ?_)
  · obtain ⟨n, rfl, _⟩ := h
    rfl
  · obtain ⟨n, rfl, hn, so, q⟩ := h
    refine ⟨_, (pss_cons (ps_set (i := 1) sc_sums_of_powers.nd rfl (.inl rfl) (pe_lst (pa_cons (pe_disp (pps_cons pe_int (pe_glob (v := .ref aO) rfl g_ONE rfl) pps_nil) rfl rfl (by simp) (by simp)) pa_nil)))
      (pss_cons (ps_for PassesOwn.never rfl (pi_range2 rfl T.m_range (pa_cons pe_int (pa_cons (pe_op op_add (pv 0) pe_int) pa_nil))) (pg_name (i := 2) sc_sums_of_powers.nd rfl (.inl rfl)) (pss_one (ps_expr (pe_bm PySem.F.plainAttrs_list PySem.F.slot_list_append PySem.F.type_list_append mt_append (pv 1) (pa_cons (pe_call G_next_sum_of_powers (hr.mono (by decide)) (by rfl) D_next_sum_of_powers.g D_next_sum_of_powers.F.kp D_next_sum_of_powers.b .nil pass0 (pa_cons (pe_ix ix_list (pv 1) (pe_op op_sub (pv 2) pe_int) (fun _ _ => rfl)) (pa_cons (pv 2) pa_nil))) pa_nil)))))
      (pss_one (ps_ret (pv 1))))), ?_⟩
    intro d nd
    have sd : Same H (upd H d (.dK [])) := same_upd nd
    refine ⟨upd_same, [(.inl 1, .ref aO)], rfl, (by show 1 ≤ 15; decide), (by show 1 ≤ sizeLine; decide), fun p np => ?_⟩
    have s1 : Same H (upd (upd H d (.dK [])) d (.dK (mergeK [] [(.inl 1, .ref aO)]))) := Else.fresh nd sd .upd
    have r0 : RowAt K (upd (upd H d (.dK [])) d (.dK (mergeK [] [(.inl 1, .ref aO)]))) d (rowS 0) := ⟨_, upd_same, .cons ⟨rfl, aO, rfl, tO _⟩ .nil⟩
    generalize (upd (upd H d (.dK [])) d (.dK (mergeK [] [(.inl 1, .ref aO)]))) = H1 at np s1 r0
    have sp : Same H1 (upd H1 p (.lst [.ref d])) := same_upd np
    have hp0 : H p = none := s1.free np
    have en : ((n : Int) + 1 - 1).toNat = n := by omega
    refine ⟨_, rfl, _, _, rfl, rfl, 1, (n : Int) + 1, rfl, ⟨by decide, by decide, by omega, by omega⟩, for_range (lo := 1) (n := ((n : Int) + 1 - 1).toNat) (fun i σ H2 => ∃ (v2 : Option V) (as : List Addr), σ = [some (.int n), some (.ref p), v2] ∧ H2 p = some (.lst (as.map V.ref)) ∧ as.length = i + 1 ∧ (∀ j a, as[j]? = some a → RowAt K H2 a (rowS j)) ∧ Same H H2) ⟨none, [d], rfl, upd_same, rfl, ?_, s1.trans sp⟩ ?_ ?_⟩
    · intro j a h
      cases j with
      | zero =>
        have e : d = a := by simpa using h
        subst e
        exact r0.same sp
      | succ j => simp at h
    · rintro i σ H2 hi ⟨v2, as, rfl, ep, hl, hr2, s2⟩
      rw [en] at hi
      have hi2 : i < as.length := by omega
      have ga : as[i]? = some as[i] := List.getElem?_eq_getElem hi2
      have e1 : (1 : Int) + i = (i : Int) + 1 := by omega
      refine ⟨_, rfl, .inl ⟨rfl, _, SqL.of ep⟩, _, rfl, _, rfl, _, _, rfl, rfl, p, _, _, .ref as[i], rfl, rfl, SqL.of ep, at_of (j := i) (by omega) (by rw [List.getElem?_map, ga]; rfl), _, rfl, as[i], (1 : Int) + i, rowS i, rfl, hr2 i _ ga, by rw [e1]; exact so i hi, fun x H3 rx s3 nx => ?_⟩
      have ep3 := s3 _ _ ep
      have eE : Else p H3 (upd H3 p (.lst (as.map V.ref ++ [.ref x]))) := .upd
      refine ⟨p, _, _, rfl, rfl, ep3, ?_, _, as ++ [x], rfl, by rw [upd_same, List.map_append]; rfl, by rw [List.length_append, hl]; rfl, fun j a h => ?_, fun b o e => ?_⟩
      · rw [List.length_map, hl, sizeLine_eq]
        omega
      · by_cases c : j < as.length
        · rw [List.getElem?_append_left c] at h
          exact ((hr2 j a h).same s3).elseL eE ep3
        · rw [List.getElem?_append_right (by omega)] at h
          have ej : j = i + 1 := by
            have := (List.getElem?_eq_some_iff.mp h).1
            rw [List.length_singleton] at this
            omega
          subst ej
          have ex : x = a := by
            have e0 : i + 1 - as.length = 0 := by omega
            rw [e0] at h
            simpa using h
          subst ex
          rw [e1] at rx
          exact RowAt.elseL rx eE ep3
      · rw [upd_ne (ne_of_none e hp0)]
        exact s3 _ _ (s2 _ _ e)
    · rintro σ H2 ⟨v2, as, rfl, ep, hl, hr2, s2⟩
      rw [en] at hl
      exact ⟨_, rfl, q p as H2 ep hl hr2 s2 hp0⟩
end
/-! ### rows are small -/
def rbB (a : Nat) (r : Rat) : Bool := decide (r.num.natAbs < 2 ^ a) && decide (r.den < 2 ^ a)
theorem rb_of {a : Nat} {r : Rat} (h : rbB a r = true) : RB a r := by
  unfold rbB at h
  rw [Bool.and_eq_true, decide_eq_true_eq, decide_eq_true_eq] at h
  exact h
def stepB (R : List (Int × Rat)) (k : Int) : Bool := decide (R.map (·.1)).Nodup && decide (R.length < 900) && R.all (fun e => rbB 1000 e.2 && rbB 1000 (Rat.divInt k (e.1 + 1)) && rbB 1000 (e.2 * Rat.divInt k (e.1 + 1)) && decide (1 ≤ e.1) && decide (e.1 < 1000)) &&
  (List.range (R.length + 1)).all (fun i => rbB 1000 (totR ((grownR R k).take i))) && rbB 1000 (atR (grownR R k) 1) && rbB 1000 (0 - totR (grownR R k))
theorem step_of {R : List (Int × Rat)} {k : Int} (h : stepB R k = true) : StepOk R k := by
  unfold stepB at h
  simp only [Bool.and_eq_true, decide_eq_true_eq, List.all_eq_true] at h
  obtain ⟨⟨⟨⟨⟨h1, h2⟩, h3⟩, h4⟩, h5⟩, h6⟩ := h
  have up : ∀ {r : Rat}, rbB 1000 r = true → RB 4000 r := fun h => (rb_of h).mono (by decide)
  refine ⟨h1, h2, fun e he => ?_, fun i => ?_, up h5, up h6⟩
  · obtain ⟨⟨⟨⟨a, b⟩, c⟩, d⟩, f⟩ := h3 e he
    refine ⟨rb_of a, rb_of b, up c, by omega, ?_⟩
    have z : (e.1 + 1).natAbs < 2 ^ 10 := by omega
    exact Nat.lt_of_lt_of_le z (Nat.pow_le_pow_right (by decide) (by decide))
  · by_cases c : i < R.length + 1
    · exact up (h4 i (List.mem_range.mpr c))
    · have z := h4 R.length (List.mem_range.mpr (by omega))
      have l : (grownR R k).length = R.length := List.length_map ..
      rw [List.take_of_length_le (by omega)] at z ⊢
      exact up z
theorem steps8 : ∀ k : Nat, k < 8 → stepB (rowS k) ((k : Int) + 1) = true := by decide +kernel
def rowB (R : List (Int × Rat)) : Bool := R.all (fun e => decide ((e.2 * ((2520 : Nat) : Rat)).den = 1) && decide ((e.2 * ((2520 : Nat) : Rat)).num.natAbs ≤ 2520) && decide (1 ≤ e.1) && decide (e.1 ≤ 9)) && decide (R.length ≤ 10) && decide (R.map (·.1)).Nodup
theorem rows8 : ∀ k : Nat, k < 9 → rowB (rowS k) = true := by decide +kernel
structure RowOk (R : List (Int × Rat)) : Prop where
  one : ∀ e ∈ R, Whole 2520 e.2 ∧ mag 2520 e.2 ≤ 2520 ∧ 1 ≤ e.1 ∧ e.1 ≤ 9
  len : R.length ≤ 10
  nd : (R.map (·.1)).Nodup
theorem row_ok {k : Nat} (h : k < 9) : RowOk (rowS k) := by
  have z := rows8 k h
  unfold rowB at z
  simp only [Bool.and_eq_true, decide_eq_true_eq, List.all_eq_true] at z
  obtain ⟨⟨z1, z2⟩, z3⟩ := z
  exact ⟨fun e he => let ⟨⟨⟨a, b⟩, c⟩, d⟩ := z1 e he; ⟨a, b, c, d⟩, z2, z3⟩
/-! ### by each power of the count a dict of parts -/
abbrev Tot := List (Int × Poly)
def addT (T : Tot) (j : Int) (k : Pr) (r : Rat) : Tot := if (T.any fun e => decide (e.1 = j)) = true then T.map (fun e => if e.1 = j then (e.1, addM e.2 k r) else e) else T ++ [(j, addM [] k r)]
def restP (x : Str) (p : Pr) : Pr := p.filter fun e => decide (e.1 ≠ x)
def rowT (x : Str) (y : Pr × Rat) (R : List (Int × Rat)) (T : Tot) : Tot := R.foldl (fun T e => addT T e.1 (restP x y.1) (y.2 * e.2)) T
def totT (x : Str) (M : Poly) : Tot := M.foldl (fun T y => rowT x y (rowS (expo y.1 x).toNat) T) []
theorem rowT_take {x : Str} {y : Pr × Rat} {R : List (Int × Rat)} {T : Tot} {i : Nat} {e : Int × Rat} (h : R[i]? = some e) : rowT x y (R.take (i + 1)) T = addT (rowT x y (R.take i) T) e.1 (restP x y.1) (y.2 * e.2) := by
  unfold rowT
  rw [List.take_add_one, h, List.foldl_append]
  rfl
theorem totT_take {x : Str} {M : Poly} {i : Nat} {y : Pr × Rat} (h : M[i]? = some y) : totT x (M.take (i + 1)) = rowT x y (rowS (expo y.1 x).toNat) (totT x (M.take i)) := by
  unfold totT
  rw [List.take_add_one, h, List.foldl_append]
  rfl
abbrev TW := List (Int × Addr × Poly)
def tV (W : TW) : List (L2.Key × V) := W.map fun e => (Sum.inl e.1, V.ref e.2.1)
def pureT (W : TW) : Tot := W.map fun e => (e.1, e.2.2)
theorem tV_len (W : TW) : (tV W).length = W.length := List.length_map ..
theorem tV_val {W : TW} (hn : (W.map (·.1)).Nodup) {e : Int × Addr × Poly} (he : e ∈ W) : valV (tV W) (.inl e.1) = some (.ref e.2.1) := by
  refine valV_at ?_ (List.mem_map.mpr ⟨e, he, rfl⟩)
  unfold tV
  rw [List.map_map, List.nodup_iff_pairwise_ne, List.pairwise_map]
  rw [List.nodup_iff_pairwise_ne, List.pairwise_map] at hn
  exact hn.imp fun h z => h (Sum.inl.inj z)
theorem tV_some {W : TW} {k : Int} {v : V} (h : valV (tV W) (.inl k) = some v) : ∃ e ∈ W, e.1 = k ∧ v = .ref e.2.1 := by
  induction W with
  | nil => cases h
  | cons f r ih =>
    by_cases z : f.1 = k
    · have e1 : valV (tV (f :: r)) (.inl k) = some (.ref f.2.1) := valV_pos (by rw [← z])
      rw [e1] at h
      cases h
      exact ⟨f, by simp, z, rfl⟩
    · have e1 : valV (tV (f :: r)) (.inl k) = valV (tV r) (.inl k) := valV_neg (by simpa using z)
      rw [e1] at h
      obtain ⟨e, he, a, b⟩ := ih h
      exact ⟨e, by simp [he], a, b⟩
theorem tV_none {W : TW} {k : Int} (h : valV (tV W) (.inl k) = none) : ∀ e ∈ W, e.1 ≠ k := by
  induction W with
  | nil => exact fun _ h => nomatch h
  | cons f r ih =>
    by_cases z : f.1 = k
    · have e1 : valV (tV (f :: r)) (.inl k) = some (.ref f.2.1) := valV_pos (by rw [← z])
      rw [e1] at h
      cases h
    · have e1 : valV (tV (f :: r)) (.inl k) = valV (tV r) (.inl k) := valV_neg (by simpa using z)
      rw [e1] at h
      intro e he
      rcases List.mem_cons.mp he with y | y
      · rw [y]
        exact z
      · exact ih h e y
def putW (W : TW) (j : Int) (M : Poly) : TW := W.map fun e => if e.1 = j then (e.1, e.2.1, M) else e
theorem pure_put {W : TW} (hn : (W.map (·.1)).Nodup) {e : Int × Addr × Poly} (he : e ∈ W) (k : Pr) (r : Rat) : pureT (putW W e.1 (addM e.2.2 k r)) = addT (pureT W) e.1 k r := by
  have any : ((pureT W).any fun f => decide (f.1 = e.1)) = true := List.any_eq_true.mpr ⟨(e.1, e.2.2), List.mem_map.mpr ⟨e, he, rfl⟩, by simp⟩
  unfold addT
  rw [if_pos any]
  unfold pureT putW
  rw [List.map_map, List.map_map]
  refine List.map_congr_left fun f hf => ?_
  show (fun e : Int × Addr × Poly => (e.1, e.2.2)) (if f.1 = e.1 then (f.1, f.2.1, addM e.2.2 k r) else f) = if f.1 = e.1 then (f.1, addM f.2.2 k r) else (f.1, f.2.2)
  by_cases z : f.1 = e.1
  · rw [if_pos z, if_pos z]
    obtain ⟨i, hi⟩ := List.mem_iff_getElem?.mp he
    obtain ⟨j, hj⟩ := List.mem_iff_getElem?.mp hf
    have a1 : (W.map (·.1))[i]? = some e.1 := by rw [List.getElem?_map, hi]; rfl
    have a2 : (W.map (·.1))[j]? = some e.1 := by rw [List.getElem?_map, hj, ← z]; rfl
    have ij := nd_ix hn a1 a2
    subst ij
    rw [hi] at hj
    cases hj
    rfl
  · rw [if_neg z, if_neg z]
theorem pure_new {W : TW} {j : Int} (h : ∀ e ∈ W, e.1 ≠ j) (a : Addr) (k : Pr) (r : Rat) : pureT (W ++ [(j, a, addM [] k r)]) = addT (pureT W) j k r := by
  have any : ¬ ((pureT W).any fun f => decide (f.1 = j)) = true := fun z => by
    obtain ⟨f, hf, z⟩ := List.any_eq_true.mp z
    obtain ⟨e, he, rfl⟩ := List.mem_map.mp hf
    exact h e he (by simpa using z)
  unfold addT
  rw [if_neg any]
  unfold pureT
  rw [List.map_append]
  rfl
structure TAt (K : PySem.W.Frag) (w : World) (H0 H : Hp) (D : Addr) (W : TW) : Prop where
  d : H D = some (.dK (tV W))
  nd : (W.map (·.1)).Nodup
  ad : (W.map (·.2.1)).Nodup
  ne : ∀ e ∈ W, e.2.1 ≠ D
  new : ∀ e ∈ W, H0 e.2.1 = none
  at_ : ∀ e ∈ W, PartsAt K w H e.2.1 e.2.2
theorem TAt.same {K : PySem.W.Frag} {w : World} {H0 H H' : Hp} {D : Addr} {W : TW} (h : TAt K w H0 H D W) (s : Same H H') : TAt K w H0 H' D W := ⟨s _ _ h.d, h.nd, h.ad, h.ne, h.new, fun e he => (h.at_ e he).stay (.same s) fun u z => s _ _ z⟩
theorem PartsAt.elseD {K : PySem.W.Frag} {w : World} {H H' : Hp} {a d : Addr} {M : Poly} {u : HO} (h : PartsAt K w H a M) (e : Else d H H') (hd : H d = some u) (nu : NotTup u) (n : a ≠ d) : PartsAt K w H' a M := h.stay (e.tups hd nu) fun o z => e _ _ z n
/-- one of its dicts was changed, and nothing else -/
theorem TAt.put {K : PySem.W.Frag} {w : World} {H0 H H' : Hp} {D : Addr} {W : TW} (h : TAt K w H0 H D W) {e : Int × Addr × Poly} (he : e ∈ W) {M : Poly} (s : Else e.2.1 H H') (p : PartsAt K w H' e.2.1 M) : TAt K w H0 H' D (putW W e.1 M) := by
  obtain ⟨L, ⟨xs, ed, na⟩, _⟩ := h.at_ e he
  have k1 : (putW W e.1 M).map (·.1) = W.map (·.1) := by
    unfold putW
    rw [List.map_map]
    refine List.map_congr_left fun f _ => ?_
    show (if f.1 = e.1 then (f.1, f.2.1, M) else f).1 = f.1
    split <;> rfl
  have k2 : (putW W e.1 M).map (·.2.1) = W.map (·.2.1) := by
    unfold putW
    rw [List.map_map]
    refine List.map_congr_left fun f _ => ?_
    show (if f.1 = e.1 then (f.1, f.2.1, M) else f).2.1 = f.2.1
    split <;> rfl
  have kV : tV (putW W e.1 M) = tV W := by
    unfold tV putW
    rw [List.map_map]
    refine List.map_congr_left fun f _ => ?_
    show (fun e : Int × Addr × Poly => ((Sum.inl e.1 : L2.Key), V.ref e.2.1)) (if f.1 = e.1 then (f.1, f.2.1, M) else f) = _
    split <;> rfl
  have mem : ∀ f ∈ putW W e.1 M, ∃ g ∈ W, f = if g.1 = e.1 then (g.1, g.2.1, M) else g := fun f hf => by
    obtain ⟨g, hg, q⟩ := List.mem_map.mp hf
    exact ⟨g, hg, q.symm⟩
  refine ⟨by rw [kV]; exact s _ _ h.d (h.ne e he).symm, by rw [k1]; exact h.nd, by rw [k2]; exact h.ad, fun f hf => ?_, fun f hf => ?_, fun f hf => ?_⟩
  · obtain ⟨g, hg, rfl⟩ := mem f hf
    have z := h.ne g hg
    split <;> exact z
  · obtain ⟨g, hg, rfl⟩ := mem f hf
    have z := h.new g hg
    split <;> exact z
  · obtain ⟨g, hg, rfl⟩ := mem f hf
    by_cases z : g.1 = e.1
    · rw [if_pos z]
      obtain ⟨i, hi⟩ := List.mem_iff_getElem?.mp he
      obtain ⟨j, hj⟩ := List.mem_iff_getElem?.mp hg
      have a1 : (W.map (·.1))[i]? = some e.1 := by rw [List.getElem?_map, hi]; rfl
      have a2 : (W.map (·.1))[j]? = some e.1 := by rw [List.getElem?_map, hj, ← z]; rfl
      have ij := nd_ix h.nd a1 a2
      subst ij
      rw [hi] at hj
      cases hj
      exact p
    · rw [if_neg z]
      refine (h.at_ g hg).elseD s ed True.intro fun q => z ?_
      obtain ⟨i, hi⟩ := List.mem_iff_getElem?.mp he
      obtain ⟨j, hj⟩ := List.mem_iff_getElem?.mp hg
      have a1 : (W.map (·.2.1))[i]? = some e.2.1 := by rw [List.getElem?_map, hi]; rfl
      have a2 : (W.map (·.2.1))[j]? = some e.2.1 := by rw [List.getElem?_map, hj, ← q]; rfl
      have ij := nd_ix h.ad a1 a2
      subst ij
      rw [hi] at hj
      cases hj
      rfl
/-- a new one -/
theorem TAt.make {K : PySem.W.Frag} {w : World} {H0 H : Hp} {D : Addr} {W : TW} (h : TAt K w H0 H D W) {k : Int} {a : Addr} (no : valV (tV W) (.inl k) = none) (n0 : H0 a = none) (na : H a = none) (sa : (a == sysModules) = false) :
    TAt K w H0 (upd (upd H a (ndO w a [])) D (.dK (putK (tV W) (.inl k) (.ref a)))) D (W ++ [(k, a, [])]) := by
  have aD : a ≠ D := (ne_of_none h.d na).symm
  have s1 : Same H (upd H a (ndO w a [])) := same_upd na
  have d1 := s1 _ _ h.d
  have eE : Else D (upd H a (ndO w a [])) (upd (upd H a (ndO w a [])) D (.dK (putK (tV W) (.inl k) (.ref a)))) := .upd
  have cs : ∀ {Q : Int × Addr × Poly → Prop}, (∀ e ∈ W, Q e) → Q (k, a, []) → ∀ e ∈ W ++ [(k, a, [])], Q e := fun h1 h2 e he => by
    rcases List.mem_append.mp he with z | z
    · exact h1 e z
    · rw [show e = (k, a, []) by simpa using z]
      exact h2
  refine ⟨?_, ?_, ?_, cs h.ne aD, cs h.new n0, cs (fun e he => ?_) ?_⟩
  · rw [upd_same, putK_new _ no]
    unfold tV
    rw [List.map_append]
    rfl
  · rw [List.map_append]
    refine List.nodup_append.mpr ⟨h.nd, by simp, fun b hb c hc z => ?_⟩
    obtain ⟨e, he, ee⟩ := List.mem_map.mp hb
    have ec : c = k := by simpa using hc
    exact tV_none no e he (by rw [ee, z, ec])
  · rw [List.map_append]
    refine List.nodup_append.mpr ⟨h.ad, by simp, fun b hb c hc z => ?_⟩
    obtain ⟨e, he, ee⟩ := List.mem_map.mp hb
    have ec : c = a := by simpa using hc
    obtain ⟨L, ⟨xs, ed, _⟩, _⟩ := h.at_ e he
    have e1 : e.2.1 = a := by rw [ee, z, ec]
    rw [e1, na] at ed
    cases ed
  · exact ((h.at_ e he).stay (.same s1) fun u z => s1 _ _ z).elseD eE d1 True.intro (h.ne e he)
  · exact (PartsAt.new sa).elseD eE d1 True.intro aD
/-- another thing was changed, that stood there ahead -/
theorem TAt.elseR {K : PySem.W.Frag} {w : World} {H0 H H' : Hp} {D d : Addr} {W : TW} (h : TAt K w H0 H D W) (e : Else d H H') {u0 u : HO} (h0 : H0 d = some u0) (hD : H0 D = none) (hd : H d = some u) (nu : NotTup u) : TAt K w H0 H' D W := by
  have nD : D ≠ d := fun z => by
    rw [z, h0] at hD
    cases hD
  refine ⟨e _ _ h.d nD, h.nd, h.ad, h.ne, h.new, fun f hf => (h.at_ f hf).elseD e hd nu fun z => ?_⟩
  have := h.new f hf
  rw [z, h0] at this
  cases this
theorem addT_end {T : Tot} {j : Int} (h : ∀ e ∈ T, e.1 ≠ j) (k : Pr) (r : Rat) : addT (T ++ [(j, [])]) j k r = addT T j k r := by
  have a1 : ((T ++ [(j, [])]).any fun e => decide (e.1 = j)) = true := by simp
  have a2 : ¬ (T.any fun e => decide (e.1 = j)) = true := fun z => by
    obtain ⟨f, hf, z⟩ := List.any_eq_true.mp z
    exact h f hf (by simpa using z)
  unfold addT
  rw [if_pos a1, if_neg a2, List.map_append]
  have e1 : (T.map fun e => if e.1 = j then (e.1, addM e.2 k r) else e) = T := by
    conv => rhs; rw [← List.map_id T]
    refine List.map_congr_left fun e he => ?_
    rw [if_neg (h e he)]
    rfl
  rw [e1]
  simp
/-! ### what a sum, totalled, is times each power of the count -/
theorem lc_keysN {K : PySem.W.Frag} {w : World} {d : Addr} {o : Obj} {L : List (Pr × V)} {g : TG} {tt : TT} {te : TE} {vs : List Nat} {σ : L2.St} {H1 : Hp} {D : Addr} {Qd : Hp → Prop} (Pv : Nat → Hp → Prop) (h0 : Pv 0 (upd H1 D (.lst []))) (hl : ∀ i H, i ≤ L.length → Pv i H → NF K w H d o L)
    (hs : ∀ i k v H b, L[i]? = some (k, v) → Pv i H → ProdAt K H b k → g (.ref b) (wipe σ vs) H fun σ2 H2 => wipe σ2 vs = wipe σ vs ∧ tt σ2 H2 fun b H3 =>
      if b = true then te σ2 H3 fun y H4 => ∃ acc, H4 D = some (.lst acc) ∧ acc.length < sizeLine ∧ Pv (i + 1) (upd H4 D (.lst (acc ++ [y]))) else Pv (i + 1) H3) (hd : ∀ H, Pv L.length H → Qd H) :
    ∃ W : Nat → Nat → Hp → Prop, (∃ m, W 0 m (upd H1 D (.lst []))) ∧ ∀ i m H, W i m H →
      ((ItKN K w d o L).stop i H ∧ Qd H) ∨ ((ItKN K w d o L).go i H ∧ ∃ Nx : Hp → Prop, (∀ H', Nx H' → ∃ m', m' < m ∧ W (i + 1) m' H') ∧ ∀ x H', (ItKN K w d o L).yld i H x H' → g x (wipe σ vs) H' fun σ2 H2 => wipe σ2 vs = wipe σ vs ∧ tt σ2 H2 fun b H3 =>
        if b = true then te σ2 H3 fun y H4 => ∃ acc, H4 D = some (.lst acc) ∧ acc.length < sizeLine ∧ Nx (upd H4 D (.lst (acc ++ [y]))) else Nx H3) := by
  refine ⟨fun i m H => m = L.length - i ∧ i ≤ L.length ∧ Pv i H, ⟨_, rfl, Nat.zero_le _, h0⟩, fun i m H ⟨em, hi, p⟩ => ?_⟩
  have F := hl i H hi p
  by_cases lt : i < L.length
  · refine .inr ⟨⟨F, lt⟩, Pv (i + 1), fun H' p' => ⟨L.length - (i + 1), by omega, rfl, lt, p'⟩, fun x H' ⟨eH, k, v, b, hL, ex, hb⟩ => ?_⟩
    subst ex
    subst eH
    exact hs i k v _ b hL p hb
  · have e : i = L.length := by omega
    subst e
    exact .inl ⟨⟨F, Nat.le_refl _⟩, hd H p⟩
/-- walked by its keys -/
theorem for_ks {d : Addr} {o : Obj} {kvs : List (L2.Key × V)} {g : TG} {tb : TS} {D : Ends} {σ : L2.St} {H : Hp} (Pv : Nat → L2.St → Hp → Prop) (h0 : Pv 0 σ H) (hl : ∀ i σ H, i ≤ kvs.length → Pv i σ H → H d = some (.frz o (.dK kvs)))
    (hs : ∀ i k v σ H, kvs[i]? = some (k, v) → Pv i σ H → g (kV k) σ H fun σ2 H2 => tb { D with nx := Pv (i + 1), ct := Pv (i + 1), bk := D.nx } σ2 H2) (hd : ∀ σ H, Pv kvs.length σ H → D.nx σ H) :
    ∃ W : Nat → Nat → L2.St → Hp → Prop, (∃ m, W 0 m σ H) ∧ ∀ i m σ H, W i m σ H → ((Itk d o kvs).stop i H ∧ D.nx σ H) ∨ ((Itk d o kvs).go i H ∧ ∃ N : L2.St → Hp → Prop, (∀ σ' H', N σ' H' → ∃ m', m' < m ∧ W (i + 1) m' σ' H') ∧
      ∀ x H', (Itk d o kvs).yld i H x H' → g x σ H' fun σ2 H2 => tb { D with nx := N, ct := N, bk := D.nx } σ2 H2) := by
  refine ⟨fun i m σ H => m = kvs.length - i ∧ i ≤ kvs.length ∧ Pv i σ H, ⟨_, rfl, Nat.zero_le _, h0⟩, fun i m σ H ⟨em, hi, p⟩ => ?_⟩
  have F := hl i σ H hi p
  by_cases lt : i < kvs.length
  · refine .inr ⟨⟨F, lt⟩, Pv (i + 1), fun σ' H' p' => ⟨kvs.length - (i + 1), by omega, rfl, lt, p'⟩, fun x H' ⟨eH, k, v, hL, ex⟩ => ?_⟩
    subst ex
    subst eH
    exact hs i k v σ _ hL p
  · have e : i = kvs.length := by omega
    subst e
    exact .inl ⟨⟨F, Nat.le_refl _⟩, hd σ H p⟩
theorem Else.trans' {r d : Addr} {H0 H H' : Hp} (a : Else r H0 H) (b : Else d H H') (_ : r ≠ d) (n : H0 d = none) : Else r H0 H' := fun x o e nx => b x o (a x o e nx) (ne_of_none e n)
section
variable {P : Program} {w : World} {K : PySem.W.Frag} {mg : Str → Option Value} {base : Heap} {C : Addr}
/-- small enough to be totalled -/
structure TotFit (ns : List Str) (m S : Nat) (x : Str) (M : Poly) : Prop where
  fit : Fit (Of ns) m 1 S M
  deg : ∀ y ∈ M, (expo y.1 x).toNat < 9
  ns : ns.length < 32
  mb : m < 100000
  sb : m * 10 * (S * 2520) + S * 2520 < big
theorem expo_nn {p : Pr} (h : Canon p) (x : Str) : 0 ≤ expo p x := expo_nonneg h.one x
def spTotals (K : PySem.W.Frag) (w : World) (C : Addr) : Sp := fun vs H Q _ => ∃ (p : Addr) (x : Str) (M : Poly) (ns : List Str) (m S : Nat), vs = [.ref p, .str x] ∧ SumAt K w C H p M ∧ TotFit ns m S x M ∧
  ∀ D W H', TAt K w H H' D W → pureT W = totT x M → (∀ e ∈ W, Fit (Of ns) (m * 10) 2520 (m * 10 * (S * 2520)) e.2.2 ∧ 1 ≤ e.1 ∧ e.1 ≤ 9) → Same H H' → H D = none → Q (.ref D) H'
theorem ok_totals_by_power {f : Addr} {fd : FuncData} (T : Txt K mg C) (F : DefAt K mg "_totals_by_power" "_totals_by_power" s_totals_by_power ["given", "x"] f fd) : FnOk P w K mg base CX0 6 f fd ["given", "x"] (spTotals K w C) := by
  obtain ⟨f1, fd1, D_put_to⟩ := T.d_put_to
  have G_put_to : FnOk P w K mg base CX0 3 f1 fd1 ["shares", "key", "part"] (spPut K w) := ok_put_to T D_put_to
  obtain ⟨f2, fd2, D_sums_of_powers⟩ := T.d_sums_of_powers
  have G_sums_of_powers : FnOk P w K mg base CX0 5 f2 fd2 ["highest"] (spRows K) := ok_sums_of_powers T D_sums_of_powers
  obtain ⟨f3, fd3, D_times⟩ := T.d_times
  have G_times : FnOk P w K mg base CX0 2 f3 fd3 ["one", "other"] (spRat K (· * ·)) := ok_times T D_times
  obtain ⟨f4, fd4, D_power_in⟩ := T.d_power_in
  have G_power_in : FnOk P w K mg base CX0 1 f4 fd4 ["product", "x"] (spPowerIn K) := ok_power_in T D_power_in
  refine F.F.ok sc_totals_by_power (fun vs H Q E h => ?_) (fun cdv A outer s H vs Q E hr h => ?_)
  · obtain ⟨p, x, M, ns, m, S, rfl, _⟩ := h
    rfl
  · obtain ⟨p, x, M, ns, m, S, rfl, SM, tf, q⟩ := h
    obtain ⟨dx, d1, o1, L1, ep, n1, r1⟩ := id SM
    have l1 : L1.length = M.length := Paired.length r1
    have lM : M.length ≤ m := tf.fit.len
    have mb := tf.mb
    refine ⟨_, (pss_cons (ps_set (i := 3) sc_totals_by_power.nd rfl (.inl rfl) (pe_callBK (cr_maxD rfl) (by rfl) T.m_max (by decide +kernel) (pa_cons (pe_lc (own := [("product", 2)]) (g := gName 2) (tt := tYes) rfl sc_totals_by_power.nd (pi_keysN (pe_fld (pv 0) rfl)) (blkOk_by (own := [("product", 2)]) (N := ["given", "x", "product", "highest", "rows", "found", "part", "rest", "row", "power", "pair"]) (sc := defScope s_totals_by_power) (by decide +kernel)) (fun _ _ _ _ _ => pg_name (i := 2) sc_totals_by_power.nd rfl (.inl rfl)) (fun _ _ _ _ _ => pts_nil) (fun _ _ _ _ _ => (pe_call G_power_in (hr.mono (by decide)) (by rfl) D_power_in.g D_power_in.F.kp D_power_in.b .nil pass0 (pa_cons (pv 2) (pa_cons (pv 1) pa_nil))))) pa_nil) (pk_cons pe_int pk_nil)))
      (pss_cons (ps_set (i := 4) sc_totals_by_power.nd rfl (.inl rfl) (pe_call G_sums_of_powers (hr.mono (by decide)) (by rfl) D_sums_of_powers.g D_sums_of_powers.F.kp D_sums_of_powers.b .nil pass0 (pa_cons (pv 3) pa_nil)))
      (pss_cons (ps_set (i := 5) sc_totals_by_power.nd rfl (.inl rfl) pe_dnewK)
      (pss_cons (ps_for PassesOwn.never rfl (pi_itemsN (pe_fld (pv 0) rfl)) (pg_tup (by rfl) (pgs_cons (pg_name (i := 2) sc_totals_by_power.nd rfl (.inl rfl)) (pgs_cons (pg_name (i := 6) sc_totals_by_power.nd rfl (.inl rfl)) pgs_nil))) (pss_cons (ps_set (i := 7) sc_totals_by_power.nd rfl (.inl rfl) (pe_tupleOf (by rfl) T.m_tuple (pe_lc (own := [("pair", 10)]) (g := gName 10) (tt := _) rfl sc_totals_by_power.nd (pi_tup (pv 2)) (blkOk_by (own := [("pair", 10)]) (N := ["given", "x", "product", "highest", "rows", "found", "part", "rest", "row", "power", "pair"]) (sc := defScope s_totals_by_power) (by decide +kernel)) (fun _ _ _ _ _ => pg_name (i := 10) sc_totals_by_power.nd rfl (.inl rfl)) (fun _ _ _ _ _ => (pts_one (pt_cmpR op_ne (pe_ix (ix_tupK (K := K) rfl) (pv 10) pe_int (fun _ _ => rfl)) (pv 1) (nomark _)))) (fun _ _ _ _ _ => (pv 10))))) (pss_cons (ps_set (i := 8) sc_totals_by_power.nd rfl (.inl rfl) (pe_ix ix_list (pv 4) (pe_call G_power_in (hr.mono (by decide)) (by rfl) D_power_in.g D_power_in.F.kp D_power_in.b .nil pass0 (pa_cons (pv 2) (pa_cons (pv 1) pa_nil))) (fun _ _ => rfl))) (pss_one (ps_lock (ps_for PassesOwn.never rfl (pi_keys (pv 8)) (pg_name (i := 9) sc_totals_by_power.nd rfl (.inl rfl)) (pss_one (ps_expr (pe_call G_put_to (hr.mono (by decide)) (by rfl) D_put_to.g D_put_to.F.kp D_put_to.b .nil pass0 (pa_cons (pe_dsetd (pv 5) (pv 9) pe_newN ⟨rfl, rfl, rfl, rfl⟩) (pa_cons (pv 7) (pa_cons (pe_call G_times (hr.mono (by decide)) (by rfl) D_times.g D_times.F.kp D_times.b .nil pass0 (pa_cons (pv 6) (pa_cons (pe_dget (room1 hr) (pv 8) (pv 9) (fun _ _ => rfl)) pa_nil))) pa_nil))))))))))))
      (pss_one (ps_ret (pv 5))))))), ?_⟩
    refine ⟨_, rfl, p, C, dx, _, _, rfl, ep, T.cl_Sum, T.n_Sum_parts, sumF_parts _, d1, o1, L1, rfl, n1, fun D0 nD0 => lc_keysN (fun i H3 => H3 D0 = some (.lst ((M.take i).map fun y => V.int (expo y.1 x))) ∧ Same H H3) ⟨upd_same, same_upd nD0⟩ (fun i H3 _ z => n1.stay (.same z.2) fun o e => z.2 _ _ e) ?_ ?_⟩
    · rintro i k v H3 b hL ⟨e3, s3⟩ hb
      obtain ⟨xa, c, hMi, rfl, hq⟩ := r1.at_ hL
      have memM : (k, c) ∈ M := List.mem_of_getElem? hMi
      have hi : i < M.length := (List.getElem?_eq_some_iff.mp hMi).1
      refine ⟨rfl, ?_⟩
      unfold tYes
      simp only [↓reduceIte]
      refine ⟨_, rfl, _, rfl, b, x, k, rfl, hb, (tf.fit.good.pr _ memM).1, _, e3, ?_, ?_, fun c u ec => ?_⟩
      · rw [List.length_map, List.length_take, sizeLine_eq]
        omega
      · rw [upd_same, List.take_add_one, hMi, List.map_append]
        rfl
      · rw [upd_ne (ne_of_none ec nD0)]
        exact s3 _ _ ec
    · rintro H3 ⟨e3, s3⟩
      rw [l1, List.take_length] at e3
      refine ⟨D0, M.map (fun y => expo y.1 x), 0, rfl, rfl, SqL.of (by rw [List.map_map]; exact e3), fun hi hmax => ?_⟩
      have top : 0 ≤ hi ∧ hi.toNat < 9 ∧ ∀ y ∈ M, expo y.1 x ≤ hi := by
        rcases hmax with ⟨h1, h2⟩ | ⟨h1, h2⟩
        · obtain ⟨y, hy, ey⟩ := List.mem_map.mp h1
          have a := tf.deg y hy
          have b := expo_nn (tf.fit.good.pr y hy).1 x
          exact ⟨by omega, by omega, fun z hz => h2 _ (List.mem_map.mpr ⟨z, hz, rfl⟩)⟩
        · have e0 : M = [] := List.map_eq_nil_iff.mp h1
          subst e0
          exact ⟨by omega, by omega, fun y hy => nomatch hy⟩
      obtain ⟨hi0, hi9, hall⟩ := top
      have ehi : hi = ((hi.toNat : Nat) : Int) := by omega
      refine ⟨_, rfl, hi.toNat, by rw [← ehi]; rfl, by omega, fun k hk => step_of (steps8 k (by omega)), fun pr as Hr er lr rr sr nr => ?_⟩
      have s03 := s3.trans sr
      intro D nD
      have s0 : Same Hr (upd Hr D (.dK [])) := same_upd nD
      have SM1 := SM.same s03
      have n1' := (n1.stay (.same s03) fun o e => s03 _ _ e)
      have ep1 := s03 _ _ ep
      have r1' := r1.stay (.same s03)
      clear e3 s3
      have t0 : TAt K w Hr (upd Hr D (.dK [])) D [] := ⟨upd_same, List.nodup_nil, List.nodup_nil, (fun _ h => nomatch h), (fun _ h => nomatch h), (fun _ h => nomatch h)⟩
      refine ⟨_, rfl, p, C, dx, _, _, rfl, s0 _ _ ep1, T.cl_Sum, T.n_Sum_parts, sumF_parts _, d1, o1, L1, rfl, n1'.stay (.same s0) (fun o e => s0 _ _ e), for_itemsN (fun i σ H5 => ∃ (v2 v6 v7 v8 v9 v10 : Option V) (W : TW), σ = [some (.ref p), some (.str x), v2, some (.int hi), some (.ref pr), some (.ref D), v6, v7, v8, v9, v10] ∧ TAt K w Hr H5 D W ∧ pureT W = totT x (M.take i) ∧ (∀ e ∈ W, Fit (Of ns) (i * 10) 2520 (i * 10 * (S * 2520)) e.2.2 ∧ 1 ≤ e.1 ∧ e.1 ≤ 9) ∧ Same Hr H5)
        ⟨none, none, none, none, none, none, [], rfl, t0, rfl, (fun _ h => nomatch h), s0⟩ (fun i σ H5 _ ⟨_, _, _, _, _, _, _, _, _, _, _, z⟩ => n1'.stay (.same z) fun o e => z _ _ e) ?_ ?_⟩
      · rintro i kk v σ H5 Tt b hL ⟨v2, v6, v7, v8, v9, v10, W, rfl, TA, ePu, fits, s5⟩ nT hb
        obtain ⟨xa, c, hMi, rfl, hq⟩ := r1'.at_ hL
        have memM : (kk, c) ∈ M := List.mem_of_getElem? hMi
        have hiM : i < M.length := (List.getElem?_eq_some_iff.mp hMi).1
        have okk := tf.fit.good.pr _ memM
        have wc := tf.fit.one memM
        have sT : Same H5 (upd H5 Tt (.tup [.ref b, .ref xa])) := same_upd nT
        refine ⟨Tt, [.ref b, .ref xa], rfl, SqT.of upd_same, rfl, _, [.ref xa], rfl, _, [], rfl, rfl, ?_⟩
        have s6 := s5.trans sT
        have TA6 := TA.same sT
        have hb6 : ProdAt K (upd H5 Tt (.tup [.ref b, .ref xa])) b kk := hb.stay (.same sT)
        generalize (upd H5 Tt (.tup [.ref b, .ref xa])) = H6 at s6 TA6 hb6
        clear TA s5 sT
        obtain ⟨qs, hqs, pqs⟩ := id hb6
        have lq : qs.length = kk.length := Paired.length pqs
        have lkk : kk.length < 32 := Nat.lt_of_le_of_lt okk.len tf.ns
        refine ⟨_, rfl, b, rfl, ⟨_, hqs⟩, fun D2 nD2 => lc_tup (fun j H7 => ∃ ks : List Addr, H7 D2 = some (.lst (ks.map V.ref)) ∧ ks.length ≤ j ∧ Paired (PairAt K H6) ks ((kk.take j).filter fun e => decide (e.1 ≠ x)) ∧ Same H6 H7) ⟨[], upd_same, Nat.le_refl 0, by rw [List.take_zero]; exact .nil, same_upd nD2⟩ (fun j H7 _ ⟨_, _, _, _, z⟩ => SqT.keeps hqs (TupsStay.same z)) ?_ ?_⟩
        · rintro j y H7 hy ⟨ks, e7, hl, pk, s7⟩
          obtain ⟨qa, e, rfl, he, hqa⟩ := Paired.ixR pqs hy
          have hj : j < kk.length := (List.getElem?_eq_some_iff.mp he).1
          have tk : kk.take (j + 1) = kk.take j ++ [e] := by rw [List.take_add_one, he]; rfl
          refine ⟨rfl, _, rfl, qa, _, _, _, rfl, rfl, SqT.keeps hqa (TupsStay.same s7), atI_nat (j := 0) rfl, _, rfl, ?_⟩
          refine ⟨rfl, _, rfl, ite2 (fun z => ?_) (fun z => ?_)⟩
          · have nx : e.1 ≠ x := by simpa using z
            refine ⟨_, rfl, _, e7, ?_, ks ++ [qa], by rw [upd_same, List.map_append]; rfl, ?_, ?_, fun c u ec => ?_⟩
            · rw [List.length_map, sizeLine_eq]
              omega
            · rw [List.length_append]
              exact Nat.add_le_add hl (Nat.le_refl 1)
            · rw [tk, List.filter_append, List.filter_cons_of_pos (by simpa using nx), List.filter_nil]
              exact Paired.snoc pk hqa
            · rw [upd_ne (ne_of_none ec nD2)]
              exact s7 _ _ ec
          · have ex : e.1 = x := by simpa using z
            refine ⟨ks, e7, Nat.le_succ_of_le hl, ?_, s7⟩
            rw [tk, List.filter_append, List.filter_cons_of_neg (by simp [ex]), List.filter_nil, List.append_nil]
            exact pk
        · rintro H7 ⟨ks, e7, hl, pk, s7⟩
          rw [List.length_map, lq, List.take_length] at pk
          refine .inl ⟨D2, _, rfl, SqL.of e7, fun kq nkq => ?_⟩
          have s68 : Same H6 (upd H7 kq (.tup (ks.map V.ref))) := s7.trans (same_upd nkq)
          have pk8 : ProdAt K (upd H7 kq (.tup (ks.map V.ref))) kq (restP x kk) := ⟨ks, SqT.of upd_same, Paired.mapP pk fun _ _ z => PairAt.stay z (TupsStay.same s68)⟩
          generalize (upd H7 kq (.tup (ks.map V.ref))) = H8 at s68 pk8
          have TA8 := TA6.same s68
          have s8 := s6.trans s68
          clear e7 pk s7
          have er8 := s8 _ _ er
          have hx0 : 0 ≤ expo kk x := expo_nn okk.1 x
          have hxh := hall _ memM
          have hxh : expo kk x ≤ hi := hxh
          have lt8 : (expo kk x).toNat < as.length := by rw [lr]; omega
          have ga : as[(expo kk x).toNat]? = some as[(expo kk x).toNat] := List.getElem?_eq_getElem lt8
          have ra9 := rr _ _ ga
          obtain ⟨kvs, ehr, rL⟩ := id ra9
          refine ⟨_, rfl, _, rfl, _, rfl, b, x, kk, rfl, hb6.stay (TupsStay.same s68), okk.1, pr, _, _, .ref as[(expo kk x).toNat], rfl, rfl, SqL.of er8, at_of (j := (expo kk x).toNat) (by omega) (by rw [List.getElem?_map, ga]; rfl), ?_⟩
          generalize as[(expo kk x).toNat] = ra at ga ra9 ehr
          have ro := row_ok (k := (expo kk x).toNat) (by omega)
          have lR : kvs.length = (rowS (expo kk x).toNat).length := Paired.length rL
          have ndk : (kvs.map (·.1)).Nodup := by
            rw [rL.keys, List.nodup_iff_pairwise_ne, List.pairwise_map]
            have nd := ro.nd
            rw [List.nodup_iff_pairwise_ne, List.pairwise_map] at nd
            exact nd.imp fun h z => h (Sum.inl.inj z)
          refine ⟨ra, _, s8 _ _ ehr, True.intro, fun od => ?_⟩
          have elF : Else ra H8 (upd H8 ra (.frz od (.dK kvs))) := .upd
          have TAF := TA8.elseR elF ehr nD (s8 _ _ ehr) True.intro
          have tuF : TupsStay H8 (upd H8 ra (.frz od (.dK kvs))) := elF.tups (s8 _ _ ehr) True.intro
          have elrF : Else ra Hr (upd H8 ra (.frz od (.dK kvs))) := (Same.else s8).trans elF
          refine ⟨_, rfl, ra, od, rfl, .inl ⟨kvs, upd_same, for_ks (fun j σ H9 => ∃ (v9 : Option V) (W : TW), σ = [some (.ref p), some (.str x), some (.ref b), some (.int hi), some (.ref pr), some (.ref D), some (.ref xa), some (.ref kq), some (.ref ra), v9, v10] ∧ TAt K w Hr H9 D W ∧ pureT W = rowT x (kk, c) ((rowS (expo kk x).toNat).take j) (totT x (M.take i)) ∧ (∀ e ∈ W, Fit (Of ns) (i * 10 + j) 2520 ((i * 10 + j) * (S * 2520)) e.2.2 ∧ 1 ≤ e.1 ∧ e.1 ≤ 9) ∧ Else ra Hr H9 ∧ H9 ra = some (.frz od (.dK kvs)) ∧ TupsStay H8 H9)
            ⟨_, W, rfl, TAF, ePu, fits, elrF, upd_same, tuF⟩ (fun j σ H9 _ ⟨_, _, _, _, _, _, _, z, _⟩ => z) ?_ ?_⟩⟩
          · rintro j k' v σ H9 hL2 ⟨v9, W, rfl, TA9, ePu5, fit9, el9, fr9, tu9⟩
            obtain ⟨e, he, ek, qa, ev, hqa⟩ := paired_get rL hL2
            subst ev
            have ek : k' = .inl e.1 := ek
            subst ek
            have mem : e ∈ rowS (expo kk x).toNat := List.mem_of_getElem? he
            obtain ⟨w1, w2, w3, w4⟩ := ro.one e mem
            have hj : j < (rowS (expo kk x).toNat).length := (List.getElem?_eq_some_iff.mp he).1
            have j10 := ro.len
            have wce : Whole 2520 (c * e.2) := (wc.1.mul w1).1
            have mce : mag 2520 (c * e.2) ≤ S * 2520 := by
              have z := (wc.1.mul w1).2
              have z2 : mag 2520 (c * e.2) = mag 1 c * mag 2520 e.2 := z
              rw [z2]
              exact Nat.mul_le_mul wc.2 w2
            have sb := tf.sb
            have ij : i * 10 + j ≤ m * 10 := by omega
            have sz0 : (i * 10 + j) * (S * 2520) ≤ m * 10 * (S * 2520) := Nat.mul_le_mul_right _ ij
            have sz1 : (i * 10 + j) * (S * 2520) < big := Nat.lt_of_le_of_lt sz0 (by omega)
            have sz2 : mag 2520 (c * e.2) < big := Nat.lt_of_le_of_lt mce (by omega)
            have S1 : S < big := by omega
            have rbc : RB 4000 c := .small (D := 1) (by decide) (by decide +kernel) wc.1 (Nat.lt_of_le_of_lt wc.2 S1)
            have rbe : RB 4000 e.2 := .small (D := 2520) (by decide) (by decide +kernel) w1 (Nat.lt_of_le_of_lt w2 (by decide +kernel))
            have okr : Of ns (restP x kk) := ⟨⟨okk.1.up.sublist List.filter_sublist, fun f hf => okk.1.one f (List.mem_filter.mp hf).1⟩, fun f hf => okk.2 f (List.mem_filter.mp hf).1⟩
            refine ⟨_, rfl, D, rfl, .inl ⟨_, .inl TA9.d⟩, _, rfl, fun a na sa => ?_⟩
            have sA : Same H9 (upd H9 a (ndO w a [])) := same_upd na
            have TAa := TA9.same sA
            refine ⟨_, .inl e.1, TAa.d, rfl, ?_, fun v hv => ?_, fun hv => ?_⟩
            · have z := nodup_len (m := [1, 2, 3, 4, 5, 6, 7, 8, 9]) TA9.nd fun k hk => by
                obtain ⟨f, hf, rfl⟩ := List.mem_map.mp hk
                have := (fit9 f hf).2
                simp only [List.mem_cons, List.not_mem_nil, or_false]
                omega
              rw [List.length_map] at z
              rw [tV_len, sizeLine_eq]
              exact Nat.lt_of_le_of_lt z (by decide)
            · obtain ⟨g, gW, g1, rfl⟩ := tV_some hv
              have TAH := TAa
              have fitW := fit9
              have puW : addT (pureT W) g.1 (restP x kk) (c * e.2) = addT (pureT W) e.1 (restP x kk) (c * e.2) := by rw [g1]
              have elH := el9.same sA
              have frH := sA _ _ fr9
              have tuH := tu9.trans (TupsStay.same sA)
              clear TA9 TAa el9 fr9 tu9
              have TG := TAH.at_ g gW
              have fg := (fitW g gW).1
              refine ⟨_, rfl, _, rfl, _, rfl, _, rfl, ra, _, rfl, .inl ⟨kvs, .inl e.1, .inr ⟨od, frH⟩, rfl, (valV_at ndk (List.mem_of_getElem? hL2)).symm⟩, xa, qa, c, e.2, 4000, 4000, rfl, SqT.keeps (SqT.keeps hq (TupsStay.same s8)) tuH, SqT.keeps hqa (elH.tups ehr True.intro), rbc, rbe, by decide, by decide, by decide, fun o H10 s10 n10 e10 => ?_⟩
              have TA10 := TAH.same s10
              refine ⟨g.2.1, kq, o, restP x kk, c * e.2, g.2.2, Of ns, i * 10 + j, 2520, (i * 10 + j) * (S * 2520), rfl, TA10.at_ g gW, fg, (pk8.stay tuH).stay (TupsStay.same s10), SqT.of e10, wce, by decide, by decide +kernel, sz1, sz2, by rw [sizeLine_eq]; omega, fun H11 p11 el11 => ?_⟩
              have TA11 := TA10.put gW el11 p11
              have nra : ra ≠ g.2.1 := fun z => by
                have y := TAH.new g gW
                rw [← z, ehr] at y
                cases y
              refine ⟨_, putW W g.1 (addM g.2.2 (restP x kk) (c * e.2)), rfl, TA11, ?_, fun f hf => ?_, (elH.same s10).trans' el11 nra (TAH.new g gW), el11 _ _ (s10 _ _ frH) nra, tuH.trans ((TupsStay.same s10).trans ?_)⟩
              · rw [rowT_take he, ← ePu5, ← puW]
                exact pure_put TAH.nd gW _ _
              · obtain ⟨h, hh, rfl⟩ := List.mem_map.mp hf
                by_cases z : h.1 = g.1
                · rw [if_pos z]
                  have y := fg.add (okr) wce
                  refine ⟨y.mono (by omega) ?_, (fitW h hh).2⟩
                  have : (i * 10 + (j + 1)) * (S * 2520) = (i * 10 + j) * (S * 2520) + S * 2520 := by
                    rw [← Nat.add_assoc, Nat.add_mul, Nat.one_mul]
                  rw [this]
                  exact Nat.add_le_add_left mce _
                · rw [if_neg z]
                  refine ⟨(fitW h hh).1.mono (by omega) ?_, (fitW h hh).2⟩
                  exact Nat.mul_le_mul_right _ (by omega)
              · obtain ⟨L9, ⟨xs9, ed9, na9⟩, _⟩ := TA10.at_ g gW
                exact el11.tups ed9 True.intro
            · have none9 := tV_none hv
              have na0 : Hr a = none := by
                cases z : Hr a with
                | none => rfl
                | some o =>
                  exfalso
                  by_cases y : a = ra
                  · rw [y, fr9] at na
                    cases na
                  · rw [el9 _ _ z y] at na
                    cases na
              have TAH := TA9.make hv na0 na sa
              have eD : Else D (upd H9 a (ndO w a [])) (upd (upd H9 a (ndO w a [])) D (.dK (putK (tV W) (.inl e.1) (.ref a)))) := .upd
              have gW : (e.1, a, ([] : Poly)) ∈ W ++ [(e.1, a, [])] := by simp
              have fitW : ∀ f ∈ W ++ [(e.1, a, ([] : Poly))], Fit (Of ns) (i * 10 + j) 2520 ((i * 10 + j) * (S * 2520)) f.2.2 ∧ 1 ≤ f.1 ∧ f.1 ≤ 9 := fun f hf => by
                rcases List.mem_append.mp hf with z | z
                · exact fit9 f z
                · rw [show f = (e.1, a, []) by simpa using z]
                  exact ⟨Fit.nil, w3, w4⟩
              have puW : addT (pureT (W ++ [(e.1, a, [])])) e.1 (restP x kk) (c * e.2) = addT (pureT W) e.1 (restP x kk) (c * e.2) := by
                have z : pureT (W ++ [(e.1, a, [])]) = pureT W ++ [(e.1, [])] := List.map_append
                rw [z]
                refine addT_end (fun f hf => ?_) _ _
                obtain ⟨h, hh, rfl⟩ := List.mem_map.mp hf
                exact none9 h hh
              have raD : ra ≠ D := fun z => by
                rw [← z, ehr] at nD
                cases nD
              have elH := (el9.same sA).trans' eD raD nD
              have frH := eD _ _ (sA _ _ fr9) raD
              have tuH := (tu9.trans (TupsStay.same sA)).trans (eD.tups TAa.d True.intro)
              have TG := TAH.at_ (e.1, a, []) gW
              have fg := (fitW (e.1, a, []) gW).1
              refine ⟨_, rfl, _, rfl, _, rfl, _, rfl, ra, _, rfl, .inl ⟨kvs, .inl e.1, .inr ⟨od, frH⟩, rfl, (valV_at ndk (List.mem_of_getElem? hL2)).symm⟩, xa, qa, c, e.2, 4000, 4000, rfl, SqT.keeps (SqT.keeps hq (TupsStay.same s8)) tuH, SqT.keeps hqa (elH.tups ehr True.intro), rbc, rbe, by decide, by decide, by decide, fun o H10 s10 n10 e10 => ?_⟩
              have TA10 := TAH.same s10
              refine ⟨a, kq, o, restP x kk, c * e.2, ([] : Poly), Of ns, i * 10 + j, 2520, (i * 10 + j) * (S * 2520), rfl, TA10.at_ (e.1, a, []) gW, fg, (pk8.stay tuH).stay (TupsStay.same s10), SqT.of e10, wce, by decide, by decide +kernel, sz1, sz2, by rw [sizeLine_eq]; omega, fun H11 p11 el11 => ?_⟩
              have TA11 := TA10.put gW el11 p11
              have nra : ra ≠ a := fun z => by
                have y := TAH.new (e.1, a, []) gW
                rw [← z, ehr] at y
                cases y
              refine ⟨_, putW (W ++ [(e.1, a, [])]) (e.1, a, ([] : Poly)).1 (addM ([] : Poly) (restP x kk) (c * e.2)), rfl, TA11, ?_, fun f hf => ?_, (elH.same s10).trans' el11 nra (TAH.new (e.1, a, []) gW), el11 _ _ (s10 _ _ frH) nra, tuH.trans ((TupsStay.same s10).trans ?_)⟩
              · rw [rowT_take he, ← ePu5, ← puW]
                exact pure_put TAH.nd gW _ _
              · obtain ⟨h, hh, rfl⟩ := List.mem_map.mp hf
                by_cases z : h.1 = (e.1, a, ([] : Poly)).1
                · rw [if_pos z]
                  have y := fg.add (okr) wce
                  refine ⟨y.mono (by omega) ?_, (fitW h hh).2⟩
                  have : (i * 10 + (j + 1)) * (S * 2520) = (i * 10 + j) * (S * 2520) + S * 2520 := by
                    rw [← Nat.add_assoc, Nat.add_mul, Nat.one_mul]
                  rw [this]
                  exact Nat.add_le_add_left mce _
                · rw [if_neg z]
                  refine ⟨(fitW h hh).1.mono (by omega) ?_, (fitW h hh).2⟩
                  exact Nat.mul_le_mul_right _ (by omega)
              · obtain ⟨L9, ⟨xs9, ed9, na9⟩, _⟩ := TA10.at_ (e.1, a, []) gW
                exact el11.tups ed9 True.intro
          · rintro σ H9 ⟨v9, W, rfl, TA9, ePu5, fit9, el9, fr9, tu9⟩
            rw [lR, List.take_length] at ePu5
            have elU : Else ra H9 (upd H9 ra (.dK kvs)) := .upd
            have sU : Same Hr (upd H9 ra (.dK kvs)) := fun y o e => by
              by_cases z : y = ra
              · subst z
                rw [upd_same]
                rw [ehr] at e
                exact e
              · rw [upd_ne z]
                exact el9 _ _ e z
            refine ⟨fr9, _, _, _, _, _, _, W, rfl, TA9.elseR elU ehr nD fr9 True.intro, ?_, fun f hf => ⟨(fit9 f hf).1.mono ?_ ?_, (fit9 f hf).2⟩, sU⟩
            · rw [totT_take hMi]
              exact ePu5
            · have := ro.len
              rw [lR]
              omega
            · refine Nat.mul_le_mul_right _ ?_
              have := ro.len
              rw [lR]
              omega
      · rintro σ H5 ⟨v2, v6, v7, v8, v9, v10, W, rfl, TA, ePu, fits, s5⟩
        rw [l1, List.take_length] at ePu
        refine ⟨_, rfl, q D W H5 ⟨TA.d, TA.nd, TA.ad, TA.ne, fun e he => s03.free (TA.new e he), TA.at_⟩ ePu (fun e he => ⟨(fits e he).1.mono (by omega) ?_, (fits e he).2⟩) (s03.trans s5) (s03.free nD)⟩
        exact Nat.mul_le_mul_right _ (by omega)
end
/-! ### a sum totalled -/
def accT (N : Poly) (T : Tot) : Poly := T.foldl (fun acc e => sumM acc (mulM e.2 (powM N e.1.toNat))) []
def totalM (x : Str) (M N : Poly) : Poly := accT N (totT x M)
theorem accT_take {N : Poly} {T : Tot} {i : Nat} {e : Int × Poly} (h : T[i]? = some e) : accT N (T.take (i + 1)) = sumM (accT N (T.take i)) (mulM e.2 (powM N e.1.toNat)) := by
  unfold accT
  rw [List.take_add_one, h, List.foldl_append]
  rfl
/-- a total's one turn: what is added -/
structure AccFit (ns : List Str) (n D S n' S' : Nat) (N : Poly) (T : Tot) : Prop where
  pw : PowFit ns n' 1 S' 9 N
  each : ∀ e ∈ T, Fit (Of ns) n D S e.2 ∧ 1 ≤ e.1 ∧ e.1 ≤ 9
  len : T.length ≤ 9
theorem AccFit.mul {ns : List Str} {n D S n' S' : Nat} {N : Poly} {T : Tot} (h : AccFit ns n D S n' S' N T) {e : Int × Poly} (he : e ∈ T) : Fit (Of ns) (n * n' ^ 9) D (S * S' ^ 9) (mulM e.2 (powM N e.1.toNat)) := by
  obtain ⟨a, b, c⟩ := h.each e he
  have z := a.mul (fit_pow h.pw.fit e.1.toNat) fun _ _ => Of.join
  rw [Nat.one_pow, Nat.mul_one] at z
  have k : e.1.toNat ≤ 9 := by omega
  exact z.mono (Nat.mul_le_mul_left _ (pow_up h.pw.n1 k)) (Nat.mul_le_mul_left _ (pow_up h.pw.s1 k))
theorem AccFit.acc {ns : List Str} {n D S n' S' : Nat} {N : Poly} : ∀ {T : Tot}, AccFit ns n D S n' S' N T → ∀ i, Fit (Of ns) (i * (n * n' ^ 9)) D (i * (S * S' ^ 9)) (accT N (T.take i)) := fun {T} h i => by
  induction i with
  | zero =>
    rw [List.take_zero]
    exact Fit.nil
  | succ i ih =>
    cases he : T[i]? with
    | none =>
      have l := List.getElem?_eq_none_iff.mp he
      rw [List.take_of_length_le l] at ih
      rw [List.take_of_length_le (by omega)]
      exact ih.mono (Nat.mul_le_mul_right _ (by omega)) (Nat.mul_le_mul_right _ (by omega))
    | some e =>
      rw [accT_take he]
      have m := h.mul (List.mem_of_getElem? he)
      have z := Fit.sum (mulM e.2 (powM N e.1.toNat)) ih m.parts
      refine z.mono ?_ ?_
      · rw [Nat.add_mul, Nat.one_mul]
        exact Nat.add_le_add_left m.len _
      · rw [Nat.add_mul, Nat.one_mul]
        exact Nat.add_le_add_left m.sz _
theorem SumAt.elseP {K : PySem.W.Frag} {w : World} {C : Addr} {H H' : Hp} {p d : Addr} {M : Poly} {L : List (Pr × V)} (h : SumAt K w C H p M) (n : ND K w H d L) (e : Else d H H') : SumAt K w C H' p M := by
  obtain ⟨dx, d1, o, L1, ep, n1, r1⟩ := h
  obtain ⟨xs, ed, na⟩ := id n
  exact ⟨dx, d1, o, L1, e _ _ ep (ne_of ep ed (by intro z; cases z)), PartsAt.elseNF n1 n e, r1.stay (e.tups ed True.intro)⟩
section
variable {P : Program} {w : World} {K : PySem.W.Frag} {mg : Str → Option Value} {base : Heap} {C : Addr}
/-- all that a total asks -/
structure TotOk (ns : List Str) (m S n' S' : Nat) (x : Str) (M N : Poly) : Prop where
  tf : TotFit ns m S x M
  pw : PowFit ns n' 1 S' 9 N
  nb : 9 * (m * 10 * n' ^ 9) < sizeLine
  sb : 9 * (m * 10 * (S * 2520) * S' ^ 9) < big
def spTotalled (K : PySem.W.Frag) (w : World) (C : Addr) : Sp := fun vs H Q _ => ∃ (p b : Addr) (x : Str) (M N : Poly) (ns : List Str) (m S n' S' : Nat), vs = [.ref p, .str x, .ref b] ∧ SumAt K w C H p M ∧ SumAt K w C H b N ∧ TotOk ns m S n' S' x M N ∧
  ∀ r H', SumAt K w C H' r (totalM x M N) → Fit (Of ns) (9 * (m * 10 * n' ^ 9)) 2520 (9 * (m * 10 * (S * 2520) * S' ^ 9)) (totalM x M N) → Same H H' → H r = none → Q (.ref r) H'
theorem ok_totalled {f : Addr} {fd : FuncData} (T : Txt K mg C) (F : DefAt K mg "totalled" "totalled" s_totalled ["given", "x", "many"] f fd) : FnOk P w K mg base CX0 7 f fd ["given", "x", "many"] (spTotalled K w C) := by
  obtain ⟨f1, fd1, D_totals_by_power⟩ := T.d_totals_by_power
  have G_totals_by_power : FnOk P w K mg base CX0 6 f1 fd1 ["given", "x"] (spTotals K w C) := ok_totals_by_power T D_totals_by_power
  obtain ⟨f3, fd3, D_powers_of⟩ := T.d_powers_of
  have G_powers_of : FnOk P w K mg base CX0 5 f3 fd3 ["base", "wanted"] (spPowers K w C) := ok_powers_of T D_powers_of
  obtain ⟨f4, fd4, D_put_all_to⟩ := T.d_put_all_to
  have G_put_all_to : FnOk P w K mg base CX0 4 f4 fd4 ["parts", "other"] (spPutAll K w C) := ok_put_all_to T D_put_all_to
  obtain ⟨f5, fd5, D_timed⟩ := T.d_timed
  have G_timed : FnOk P w K mg base CX0 4 f5 fd5 ["one", "other"] (spTimed K w C) := ok_timed T D_timed
  obtain ⟨f2, fd2, M_Sum, FI, b_Sum_init⟩ := T.mk_Sum
  have G_Sum_init : FnOk P w K mg base CX0 1 f2 fd2 ["self", "parts"] (spInit K w C) := ok_Sum_init T FI
  refine F.F.ok sc_totalled (fun vs H Q E h => ?_) (fun cdv A outer s H vs Q E hr h => ?_)
  · obtain ⟨p, b, x, M, N, ns, m, S, n', S', rfl, _⟩ := h
    rfl
  · obtain ⟨p, b, x, M, N, ns, m, S, n', S', rfl, SM, SN, ok, q⟩ := h
    refine ⟨_, (pss_cons (ps_set (i := 3) sc_totalled.nd rfl (.inl rfl) (pe_call G_totals_by_power (hr.mono (by decide)) (by rfl) D_totals_by_power.g D_totals_by_power.F.kp D_totals_by_power.b .nil pass0 (pa_cons (pv 0) (pa_cons (pv 1) pa_nil))))
      (pss_cons (ps_set (i := 4) sc_totalled.nd rfl (.inl rfl) (pe_call G_powers_of (hr.mono (by decide)) (by rfl) D_powers_of.g D_powers_of.F.kp D_powers_of.b .nil pass0 (pa_cons (pv 2) (pa_cons (pe_callB (cr_sortedDI rfl) (by rfl) T.m_sorted (by decide +kernel) (pa_cons (pv 3) pa_nil)) pa_nil))))
      (pss_cons (ps_set (i := 5) sc_totalled.nd rfl (.inl rfl) pe_newN)
      (pss_cons (ps_lock (ps_for PassesOwn.never rfl (pi_keys (pv 3)) (pg_name (i := 6) sc_totalled.nd rfl (.inl rfl)) (pss_one (ps_expr (pe_call G_put_all_to (hr.mono (by decide)) (by rfl) D_put_all_to.g D_put_all_to.F.kp D_put_all_to.b .nil pass0 (pa_cons (pv 5) (pa_cons (pe_call G_timed (hr.mono (by decide)) (by rfl) D_timed.g D_timed.F.kp D_timed.b .nil pass0 (pa_cons (pe_make M_Sum G_Sum_init (hr.mono (by decide)) (by rfl) T.g_Sum b_Sum_init .nil pass0 (pa_cons (pe_dget (room1 hr) (pv 3) (pv 6) (fun _ _ => rfl)) pa_nil)) (pa_cons (pe_dget (room1 hr) (pv 4) (pv 6) (fun _ _ => rfl)) pa_nil))) pa_nil)))))))
      (pss_one (ps_ret (pe_make M_Sum G_Sum_init (hr.mono (by decide)) (by rfl) T.g_Sum b_Sum_init .nil pass0 (pa_cons (pv 5) pa_nil)))))))), ?_⟩
    refine ⟨_, rfl, _, rfl, p, x, M, ns, m, S, rfl, SM, ok.tf, fun D W H1 TA ePu fits s1 n1 => ?_⟩
    have SN1 := SN.same s1
    have lW : W.length ≤ 9 := by
      have z := nodup_len (m := [1, 2, 3, 4, 5, 6, 7, 8, 9]) TA.nd fun k hk => by
        obtain ⟨f, hf, rfl⟩ := List.mem_map.mp hk
        have := (fits f hf).2
        simp only [List.mem_cons, List.not_mem_nil, or_false]
        omega
      rw [List.length_map] at z
      exact z
    have AF : AccFit ns (m * 10) 2520 (m * 10 * (S * 2520)) n' S' N (totT x M) := by
      rw [← ePu]
      refine ⟨ok.pw, fun e he => ?_, by rw [show (pureT W).length = W.length from List.length_map ..]; exact lW⟩
      obtain ⟨g, hg, rfl⟩ := List.mem_map.mp he
      exact fits g hg
    have kW : (tV W).map (·.1) = (W.map (·.1)).map Sum.inl := by
      unfold tV
      rw [List.map_map, List.map_map]
      rfl
    refine ⟨_, rfl, _, rfl, D, tV W, W.map (·.1), rfl, TA.d, kW, fun ks sl pm pw nsl => ?_⟩
    have s2 : Same H1 (upd H1 sl (.lst (ks.map V.int))) := same_upd nsl
    have esl : (upd H1 sl (.lst (ks.map V.int))) sl = some (.lst (ks.map V.int)) := upd_same
    have TA2 := TA.same s2
    have SN2 := SN1.same s2
    have s02 := s1.trans s2
    generalize (upd H1 sl (.lst (ks.map V.int))) = H2 at s2 esl TA2 SN2 s02
    have memk : ∀ k, k ∈ ks ↔ ∃ e ∈ W, e.1 = k := fun k => by
      rw [pm.mem_iff, List.mem_map]
    refine ⟨b, sl, N, ns, n', 1, S', 9, ks, rfl, SN2, esl, pw, fun k hk => ?_, ?_, ok.pw, by decide, fun pr H3 PA s3 n3 => ?_⟩
    · obtain ⟨e, he, rfl⟩ := (memk k).mp hk
      exact (fits e he).2
    · rw [pm.length_eq, List.length_map]
      omega
    intro t nt st
    have s4 : Same H3 (upd H3 t (ndO w t [])) := same_upd nt
    have TA4 := (TA2.same s3).same s4
    have p4 : PartsAt K w (upd H3 t (ndO w t [])) t [] := .new st
    refine ⟨D, _, TA4.d, True.intro, fun od => ?_⟩
    have elL : Else D (upd H3 t (ndO w t [])) (upd (upd H3 t (ndO w t [])) D (.frz od (.dK (tV W)))) := .upd
    have tD : t ≠ D := fun z => by
      rw [z, (TA2.same s3).d] at nt
      cases nt
    have pL := p4.elseD elL TA4.d True.intro tD
    have PAL : ∀ e ∈ W, PartsAt K w (upd (upd H3 t (ndO w t [])) D (.frz od (.dK (tV W)))) e.2.1 e.2.2 ∧ e.2.1 ≠ t := fun e he => ⟨(TA4.at_ e he).elseD elL TA4.d True.intro (TA4.ne e he), fun z => by
      obtain ⟨L9, ⟨xs9, ed9, _⟩, _⟩ := (TA2.same s3).at_ e he
      rw [z, nt] at ed9
      cases ed9⟩
    obtain ⟨pk, epr, hpk⟩ := PA
    have prD : pr ≠ D := fun z => by
      rw [z, TA2.d] at n3
      cases n3
    have prt : pr ≠ t := ne_of_none epr nt
    have PWL : ∀ e ∈ W, ∃ g, valV pk (.inl e.1) = some (.ref g) ∧ SumAt K w C (upd (upd H3 t (ndO w t [])) D (.frz od (.dK (tV W)))) g (powM N e.1.toNat) := fun e he => by
      obtain ⟨g, g1, g2⟩ := hpk e.1 ((memk _).mpr ⟨e, he, rfl⟩)
      exact ⟨g, g1, (g2.same s4).else elL TA4.d⟩
    have eprL := elL _ _ (s4 _ _ epr) prD
    have e0 : (upd (upd H3 t (ndO w t [])) D (.frz od (.dK (tV W)))) t = some (ndO w t []) := elL _ _ upd_same tD
    have nd0 : ND K w (upd (upd H3 t (ndO w t [])) D (.frz od (.dK (tV W)))) t [] := by
      obtain ⟨L9, n9, r9⟩ := pL
      cases r9
      exact n9
    refine ⟨_, rfl, D, od, rfl, .inl ⟨tV W, upd_same, for_ks (fun i σ H5 => ∃ v6 : Option V, σ = [some (.ref p), some (.str x), some (.ref b), some (.ref D), some (.ref pr), some (.ref t), v6] ∧ PartsAt K w H5 t (accT N ((totT x M).take i)) ∧ Else t (upd (upd H3 t (ndO w t [])) D (.frz od (.dK (tV W)))) H5)
      ⟨none, rfl, pL, .refl _ _⟩ (fun i σ H5 _ ⟨_, _, _, z⟩ => z _ _ upd_same tD.symm) ?_ ?_⟩⟩
    · rintro i k' v σ H5 hL ⟨v6, rfl, p5, el5⟩
      obtain ⟨e, hei, rfl, rfl⟩ : ∃ e, W[i]? = some e ∧ k' = .inl e.1 ∧ v = .ref e.2.1 := by
        unfold tV at hL
        rw [List.getElem?_map] at hL
        obtain ⟨e, he, z⟩ := Option.map_eq_some_iff.mp hL
        cases z
        exact ⟨e, he, rfl, rfl⟩
      have he : e ∈ W := List.mem_of_getElem? hei
      have eT : (totT x M)[i]? = some (e.1, e.2.2) := by
        rw [← ePu]
        unfold pureT
        rw [List.getElem?_map, hei]
        rfl
      have memT : (e.1, e.2.2) ∈ totT x M := List.mem_of_getElem? eT
      have hi : i < (totT x M).length := (List.getElem?_eq_some_iff.mp eT).1
      have i9 := AF.len
      obtain ⟨fe, e1, e9⟩ := AF.each _ memT
      obtain ⟨pe, net⟩ := PAL e he
      have pe5 := pe.elseD el5 e0 True.intro net
      have g3 : DGet H5 D (kV (.inl e.1)) (some (.ref e.2.1)) := .inl ⟨tV W, .inl e.1, .inr ⟨od, el5 _ _ upd_same tD.symm⟩, rfl, (tV_val TA.nd he).symm⟩
      refine ⟨_, rfl, _, rfl, _, rfl, D, _, rfl, g3, fun y dy ny ndy ney => ⟨y, dy, e.2.1, e.2.2, rfl, upd_same, pe5.made ny ndy, fun H6 sA kp => ⟨rfl, ?_⟩⟩⟩
      have s56 : Same H5 H6 := Same.made ny ndy kp
      obtain ⟨g, g1, g2⟩ := PWL e he
      have eprH := s56 _ _ (el5 _ _ eprL prt)
      have g4 : DGet H6 pr (kV (.inl e.1)) (some (.ref g)) := by
        have z := DGet.k (k := .inl e.1) eprH
        rwa [g1] at z
      have gN5 : SumAt K w C H5 g (powM N e.1.toNat) := SumAt.elseP g2 nd0 el5
      have gN := gN5.same s56
      have fp := fit_pow ok.pw.fit e.1.toNat
      rw [Nat.one_pow] at fp
      have k9 : e.1.toNat ≤ 9 := by omega
      have pn := pow_up ok.pw.n1 k9
      have ps := pow_up ok.pw.s1 k9
      have nb := ok.nb
      have sb := ok.sb
      have q1 : m * 10 * n' ^ e.1.toNat ≤ m * 10 * n' ^ 9 := Nat.mul_le_mul_left _ pn
      have q2 : m * 10 * (S * 2520) * S' ^ e.1.toNat ≤ m * 10 * (S * 2520) * S' ^ 9 := Nat.mul_le_mul_left _ ps
      have q3 : S' ^ e.1.toNat < big := Nat.lt_of_le_of_lt ps ok.pw.sb
      have q4 := ok.tf.sb
      refine ⟨_, rfl, _, rfl, pr, _, rfl, g4, y, g, e.2.2, powM N e.1.toNat, Of ns, _, _, 2520, 1, _, _, rfl, sA, gN, fe, fp, by decide, by decide, by decide +kernel, by omega, q3, by omega, by omega, fun _ _ => Of.join, fun a ha => ⟨ha.1, Nat.lt_of_le_of_lt ha.len ok.tf.ns⟩, fun r H7 Sr s7 nr => ?_⟩
      have fa := AF.acc i
      have fm : Fit (Of ns) (m * 10 * n' ^ 9) 2520 (m * 10 * (S * 2520) * S' ^ 9) (mulM e.2.2 (powM N e.1.toNat)) := AF.mul memT
      have s57 := s56.trans s7
      have p7 := p5.stay (.same s57) fun u z => s57 _ _ z
      have il : i ≤ 8 := by omega
      have z1 : i * (m * 10 * n' ^ 9) ≤ 8 * (m * 10 * n' ^ 9) := Nat.mul_le_mul_right _ il
      have z2 : i * (m * 10 * (S * 2520) * S' ^ 9) ≤ 8 * (m * 10 * (S * 2520) * S' ^ 9) := Nat.mul_le_mul_right _ il
      have fl := fm.len
      have fs := fm.sz
      refine ⟨t, r, _, mulM e.2.2 (powM N e.1.toNat), Of ns, _, 2520, _, rfl, p7, Sr, fa, fm.parts, by decide, by decide +kernel, by omega, by omega, fun H8 p8 el8 => ⟨_, rfl, ?_, (el5.same s57).trans el8⟩⟩
      rw [accT_take eT]
      exact p8
    · rintro σ H5 ⟨v6, rfl, p5, el5⟩
      have lT : (tV W).length = (totT x M).length := by
        rw [← ePu]
        unfold tV pureT
        rw [List.length_map, List.length_map]
      rw [lT, List.take_length] at p5
      have fzD : H5 D = some (.frz od (.dK (tV W))) := el5 _ _ upd_same tD.symm
      have elU : Else D H5 (upd H5 D (.dK (tV W))) := .upd
      have pU := p5.elseD elU fzD True.intro tD
      have s0U : Same H (upd H5 D (.dK (tV W))) := fun u o z => by
        have nu : u ≠ D := ne_of_none z n1
        rw [upd_ne nu]
        have z3 := s3 _ _ (s02 _ _ z)
        exact el5 _ _ (elL _ _ (s4 _ _ z3) nu) (ne_of_none z3 nt)
      refine ⟨fzD, _, rfl, fun y dy ny ndy ney => ⟨y, dy, t, _, rfl, upd_same, pU.made ny ndy, fun H6 sA kp => ⟨rfl, ?_⟩⟩⟩
      have fin := AF.acc 9
      rw [List.take_of_length_le AF.len] at fin
      exact q y H6 sA fin (s0U.trans (Same.made ny ndy kp)) (s0U.free ny)
end
/-! ### the ring of sums -/
theorem AllP.app {A : Pr → Prop} {M N : Poly} (h : AllP A M) (g : AllP A N) : AllP A (M ++ N) := fun x hx => (List.mem_append.mp hx).elim (h x) (g x)
def CP : Type := {M : Poly // AllP Canon M}
instance cpS : Setoid CP := ⟨fun a b => Eqv a.1 b.1, ⟨fun _ => .refl _, .symm, .trans⟩⟩
def PR : Type := Quotient cpS
def mkR (M : Poly) (h : AllP Canon M) : PR := Quotient.mk cpS ⟨M, h⟩
theorem mkR_eq {M N : Poly} {h : AllP Canon M} {g : AllP Canon N} (e : Eqv M N) : mkR M h = mkR N g := Quotient.sound e
theorem mkR_iff {M N : Poly} {h : AllP Canon M} {g : AllP Canon N} (e : mkR M h = mkR N g) : Eqv M N := Quotient.exact e
theorem mkR_ind {P : PR → Prop} (h : ∀ M hM, P (mkR M hM)) (a : PR) : P a := Quotient.ind (fun m => h m.1 m.2) a
def cst (c : Rat) : PR := mkR [([], c)] (AllP.single .nil)
def addR' : PR → PR → PR := Quotient.lift₂ (fun x y : CP => mkR (x.1 ++ y.1) (x.2.app y.2)) fun a b a' b' h g => mkR_eq fun f => by rw [lin_append, lin_append, h f, g f]
def mulR' : PR → PR → PR := Quotient.lift₂ (fun x y : CP => mkR (mulM x.1 y.1) (x.2.mul y.2 CanonJ)) fun a b a' b' h g => mkR_eq (h.mul g)
def negR' : PR → PR := Quotient.lift (fun x : CP => mkR (negM x.1) x.2.neg) fun a a' h => mkR_eq fun f => by rw [lin_neg, lin_neg, h f]
instance : Add PR := ⟨addR'⟩
instance : Mul PR := ⟨mulR'⟩
instance : Neg PR := ⟨negR'⟩
instance : Sub PR := ⟨fun a b => a + -b⟩
theorem mk_add {M N : Poly} (h : AllP Canon M) (g : AllP Canon N) : mkR M h + mkR N g = mkR (M ++ N) (h.app g) := rfl
theorem mk_mul {M N : Poly} (h : AllP Canon M) (g : AllP Canon N) : mkR M h * mkR N g = mkR (mulM M N) (h.mul g CanonJ) := rfl
theorem mk_neg {M : Poly} (h : AllP Canon M) : -mkR M h = mkR (negM M) h.neg := rfl
def powR' (a : PR) : Nat → PR
  | 0 => cst ((1 : Nat) : Rat)
  | k + 1 => powR' a k * a
instance : HPow PR Nat PR := ⟨powR'⟩
instance : NatCast PR := ⟨fun n => cst (n : Rat)⟩
instance : IntCast PR := ⟨fun n => cst (n : Rat)⟩
instance (n : Nat) : OfNat PR n := ⟨cst (n : Rat)⟩
instance : SMul Nat PR := ⟨fun n a => cst (n : Rat) * a⟩
instance : SMul Int PR := ⟨fun n a => cst (n : Rat) * a⟩
theorem cst_add (a b : Rat) : cst (a + b) = cst a + cst b := mkR_eq fun f => by
  show lin f [([], a + b)] = lin f ([([], a)] ++ [([], b)])
  rw [lin_append, lin_cons, lin_cons, lin_cons, lin_nil]
  grind
theorem cst_neg (a : Rat) : cst (-a) = -cst a := mkR_eq fun f => by
  show lin f [([], -a)] = lin f (negM [([], a)])
  rw [lin_neg, lin_cons, lin_cons, lin_nil]
  grind
theorem lin_cst (f : Pr → Rat) (a : Rat) (M : Poly) : lin f (mulM [([], a)] M) = a * lin f M := by
  rw [lin_one]
  rfl
theorem cst_mul (a b : Rat) : cst (a * b) = cst a * cst b := mkR_eq fun f => by
  show lin f [([], a * b)] = lin f (mulM [([], a)] [([], b)])
  rw [lin_cst, lin_cons, lin_cons, lin_nil]
  grind
theorem r_add_zero : ∀ a : PR, a + cst 0 = a := mkR_ind fun M h => mkR_eq fun f => by
  rw [lin_append, lin_cons, lin_nil]
  grind
theorem r_add_comm : ∀ a b : PR, a + b = b + a := fun a b => by
  revert a b
  refine mkR_ind fun M h => mkR_ind fun N g => mkR_eq fun f => ?_
  rw [lin_append, lin_append]
  grind
theorem r_add_assoc : ∀ a b c : PR, a + b + c = a + (b + c) := by
  refine mkR_ind fun M h => mkR_ind fun N g => mkR_ind fun L k => mkR_eq fun f => ?_
  rw [lin_append, lin_append, lin_append, lin_append]
  grind
theorem r_mul_comm : ∀ a b : PR, a * b = b * a := by
  refine mkR_ind fun M h => mkR_ind fun N g => mkR_eq (mul_comm' h g)
theorem r_mul_assoc : ∀ a b c : PR, a * b * c = a * (b * c) := by
  refine mkR_ind fun M h => mkR_ind fun N g => mkR_ind fun L k => mkR_eq (mul_assoc' h g k)
theorem r_one_mul : ∀ a : PR, cst 1 * a = a := mkR_ind fun M h => mkR_eq fun f => by
  rw [lin_cst]
  grind
theorem r_distrib : ∀ a b c : PR, a * (b + c) = a * b + a * c := by
  refine mkR_ind fun M h => mkR_ind fun N g => mkR_ind fun L k => mkR_eq fun f => ?_
  show lin f (mulM M (N ++ L)) = lin f (mulM M N ++ mulM M L)
  rw [lin_append, lin_mul, lin_mul, lin_mul, ← lin_addf]
  refine lin_congr fun x hx => ?_
  rw [lin_append]
theorem r_zero_mul : ∀ a : PR, cst 0 * a = cst 0 := mkR_ind fun M h => mkR_eq fun f => by
  show lin f (mulM [([], 0)] M) = lin f [([], 0)]
  rw [lin_cst, lin_cons, lin_nil]
  grind
theorem r_neg_add : ∀ a : PR, -a + a = cst 0 := mkR_ind fun M h => mkR_eq fun f => by
  show lin f (negM M ++ M) = lin f [([], 0)]
  rw [lin_append, lin_neg, lin_cons, lin_nil]
  grind
theorem r_neg_mul : ∀ a b : PR, -a * b = -(a * b) := by
  refine mkR_ind fun M h => mkR_ind fun N g => mkR_eq fun f => ?_
  show lin f (mulM (negM M) N) = lin f (negM (mulM M N))
  rw [lin_neg, lin_mul, lin_mul, lin_neg]
theorem castN (n : Nat) : ((OfNat.ofNat n : PR)) = cst (n : Rat) := rfl
instance prRing : Lean.Grind.CommRing PR where
  add_zero := r_add_zero
  add_comm := r_add_comm
  add_assoc := r_add_assoc
  mul_assoc := r_mul_assoc
  mul_comm := r_mul_comm
  mul_one := fun a => (r_mul_comm a _).trans (r_one_mul a)
  one_mul := r_one_mul
  left_distrib := r_distrib
  right_distrib := fun a b c => by rw [r_mul_comm, r_distrib, r_mul_comm c, r_mul_comm c]
  zero_mul := r_zero_mul
  mul_zero := fun a => (r_mul_comm a _).trans (r_zero_mul a)
  pow_zero := fun _ => rfl
  pow_succ := fun _ _ => rfl
  ofNat_succ := fun a => by
    show cst ((a + 1 : Nat) : Rat) = cst (a : Rat) + cst ((1 : Nat) : Rat)
    rw [← cst_add, Rat.natCast_add]
  ofNat_eq_natCast := fun _ => rfl
  nsmul_eq_natCast_mul := fun _ _ => rfl
  neg_add_cancel := r_neg_add
  sub_eq_add_neg := fun _ _ => rfl
  neg_zsmul := fun i a => by
    show cst ((-i : Int) : Rat) * a = -(cst (i : Rat) * a)
    rw [Rat.intCast_neg, cst_neg, r_neg_mul]
  zsmul_natCast_eq_nsmul := fun _ _ => rfl
  intCast_ofNat := fun _ => rfl
  intCast_neg := fun i => by
    show cst ((-i : Int) : Rat) = -cst (i : Rat)
    rw [Rat.intCast_neg, cst_neg]
example (a b : PR) : (a + b) ^ 2 = a ^ 2 + 2 * a * b + b ^ 2 := by grind
/-! ### what a total tells -/
def phi (g : Int → Pr → Rat) (T : Tot) : Rat := (T.map fun e => lin (g e.1) e.2).sum
theorem phi_nil (g : Int → Pr → Rat) : phi g [] = 0 := rfl
theorem phi_cons (g : Int → Pr → Rat) (e : Int × Poly) (T : Tot) : phi g (e :: T) = lin (g e.1) e.2 + phi g T := by
  unfold phi
  rw [List.map_cons, List.sum_cons]
theorem phi_app (g : Int → Pr → Rat) (T U : Tot) : phi g (T ++ U) = phi g T + phi g U := by
  induction T with
  | nil => rw [phi_nil, List.nil_append, Rat.zero_add]
  | cons e r ih => rw [List.cons_append, phi_cons, phi_cons, ih, Rat.add_assoc]
structure TN (T : Tot) : Prop where
  nd : (T.map (·.1)).Nodup
  po : ∀ e ∈ T, (e.2.map (·.1)).Nodup
theorem mapT_id {T : Tot} {j : Int} (h : ∀ e ∈ T, e.1 ≠ j) (k : Pr) (r : Rat) : (T.map fun e => if e.1 = j then (e.1, addM e.2 k r) else e) = T := by
  conv => rhs; rw [← List.map_id T]
  refine List.map_congr_left fun e he => ?_
  rw [if_neg (h e he)]
  rfl
theorem phi_map (g : Int → Pr → Rat) {j : Int} (k : Pr) (r : Rat) : ∀ {T : Tot}, TN T → (T.any fun e => decide (e.1 = j)) = true → phi g (T.map fun e => if e.1 = j then (e.1, addM e.2 k r) else e) = phi g T + r * g j k
  | [], _, a => by cases a
  | e :: t, h, a => by
    have nd := List.nodup_cons.mp (by simpa using h.nd : (e.1 :: t.map (·.1)).Nodup)
    have ht : TN t := ⟨nd.2, fun f hf => h.po f (by simp [hf])⟩
    rw [List.map_cons, phi_cons, phi_cons]
    by_cases z : e.1 = j
    · have no : ∀ f ∈ t, f.1 ≠ j := fun f hf q => nd.1 (by rw [z, ← q]; exact List.mem_map.mpr ⟨f, hf, rfl⟩)
      rw [if_pos z, mapT_id no]
      show lin (g e.1) (addM e.2 k r) + phi g t = _
      rw [lin_add _ (h.po e (by simp)), z]
      grind
    · rw [if_neg z, phi_map g k r ht (by rw [List.any_cons] at a; simpa [z] using a)]
      grind
theorem phi_add (g : Int → Pr → Rat) {T : Tot} (h : TN T) (j : Int) (k : Pr) (r : Rat) : phi g (addT T j k r) = phi g T + r * g j k := by
  unfold addT
  by_cases a : (T.any fun e => decide (e.1 = j)) = true
  · rw [if_pos a, phi_map g k r h a]
  · rw [if_neg a, phi_app, phi_cons, phi_nil, lin_add (M := []) _ List.nodup_nil, lin_nil]
    grind
theorem TN.add {T : Tot} (h : TN T) (j : Int) (k : Pr) (r : Rat) : TN (addT T j k r) := by
  unfold addT
  by_cases a : (T.any fun e => decide (e.1 = j)) = true
  · rw [if_pos a]
    refine ⟨?_, fun e he => ?_⟩
    · rw [List.map_map]
      have : T.map ((·.1) ∘ fun e : Int × Poly => if e.1 = j then (e.1, addM e.2 k r) else e) = T.map (·.1) := List.map_congr_left fun e _ => by
        show (if e.1 = j then (e.1, addM e.2 k r) else e).1 = e.1
        split <;> rfl
      rw [this]
      exact h.nd
    · obtain ⟨f, hf, rfl⟩ := List.mem_map.mp he
      split
      · exact nodup_addM k r (h.po f hf)
      · exact h.po f hf
  · rw [if_neg a]
    have no : ∀ f ∈ T, f.1 ≠ j := fun f hf q => a (List.any_eq_true.mpr ⟨f, hf, by simp [q]⟩)
    refine ⟨?_, fun e he => ?_⟩
    · rw [List.map_append]
      refine List.nodup_append.mpr ⟨h.nd, by simp, fun b hb c hc z => ?_⟩
      obtain ⟨e, he, ee⟩ := List.mem_map.mp hb
      have ec : c = j := by simpa using hc
      exact no e he (by rw [ee, z, ec])
    · rcases List.mem_append.mp he with z | z
      · exact h.po e z
      · rw [show e = (j, addM [] k r) by simpa using z]
        exact nodup_addM k r List.nodup_nil
theorem phi_row (g : Int → Pr → Rat) (x : Str) (y : Pr × Rat) : ∀ (R : List (Int × Rat)) {T : Tot}, TN T → TN (rowT x y R T) ∧ phi g (rowT x y R T) = phi g T + y.2 * (R.map fun e => e.2 * g e.1 (restP x y.1)).sum
  | [], T, h => ⟨h, by show phi g T = phi g T + y.2 * 0; grind⟩
  | e :: r, T, h => by
    have z := phi_row g x y r (h.add e.1 (restP x y.1) (y.2 * e.2))
    refine ⟨z.1, ?_⟩
    show phi g (rowT x y r (addT T e.1 (restP x y.1) (y.2 * e.2))) = _
    rw [z.2, phi_add g h, List.map_cons, List.sum_cons]
    grind
/-- what one product's total tells, g being what a power of the count times a product does -/
def tauG (x : Str) (g : Int → Pr → Rat) (p : Pr) : Rat := ((rowS (expo p x).toNat).map fun e => e.2 * g e.1 (restP x p)).sum
theorem phi_tot (g : Int → Pr → Rat) (x : Str) : ∀ (M : Poly) {T : Tot}, TN T → TN (M.foldl (fun T y => rowT x y (rowS (expo y.1 x).toNat) T) T) ∧ phi g (M.foldl (fun T y => rowT x y (rowS (expo y.1 x).toNat) T) T) = phi g T + lin (tauG x g) M
  | [], T, h => ⟨h, by show phi g T = phi g T + 0; grind⟩
  | y :: r, T, h => by
    obtain ⟨a, b⟩ := phi_row g x y (rowS (expo y.1 x).toNat) h
    obtain ⟨c, d⟩ := phi_tot g x r a
    refine ⟨c, ?_⟩
    rw [List.foldl_cons, d, b, lin_cons]
    show _ + y.2 * tauG x g y.1 + _ = _
    grind
theorem lin_acc (f : Pr → Rat) (N : Poly) : ∀ (T : Tot) {acc : Poly}, (acc.map (·.1)).Nodup → lin f (T.foldl (fun acc e => sumM acc (mulM e.2 (powM N e.1.toNat))) acc) = lin f acc + phi (fun j a => lin (fun b => f (joinP a b)) (powM N j.toNat)) T
  | [], acc, _ => by
    rw [phi_nil]
    show lin f acc = _
    grind
  | e :: t, acc, h => by
    rw [List.foldl_cons, lin_acc f N t (nodup_sum _ h), lin_sumM f _ h, phi_cons, lin_mul]
    grind
theorem lin_total (f : Pr → Rat) (x : Str) (M N : Poly) : lin f (totalM x M N) = lin (tauG x fun j a => lin (fun b => f (joinP a b)) (powM N j.toNat)) M := by
  unfold totalM accT totT
  rw [lin_acc (acc := []) f N _ List.nodup_nil, lin_nil, (phi_tot (T := []) _ x M ⟨List.nodup_nil, fun e h => absurd h (List.not_mem_nil)⟩).2, phi_nil]
  grind
/-! ### without a name -/
def FreeX (x : Str) (p : Pr) : Prop := Canon p ∧ ∀ e ∈ p, e.1 ≠ x
theorem FreeX.join {x : Str} {a b : Pr} (ha : FreeX x a) (hb : FreeX x b) : FreeX x (joinP a b) := ⟨hb.1.join ha.1.one, fun e he => by
  rcases join_names he with ⟨g, hg, z⟩ | ⟨g, hg, z⟩
  · rw [← z]
    exact ha.2 g hg
  · rw [← z]
    exact hb.2 g hg⟩
theorem FreeX.rest {x : Str} {p : Pr} (h : Canon p) : FreeX x (restP x p) := ⟨⟨h.up.sublist List.filter_sublist, fun e he => h.one e (List.mem_filter.mp he).1⟩, fun e he => by simpa using (List.mem_filter.mp he).2⟩
/-- the power of the name -/
def xp (x : Str) (i : Nat) : Pr := if i = 0 then [] else [(x, (i : Int))]
theorem xp_canon (x : Str) (i : Nat) : Canon (xp x i) := by
  unfold xp
  split
  · exact .nil
  · exact canon_one (e := (x, (i : Int))) (by show 1 ≤ (i : Int); omega)
theorem expo_xp (x : Str) (i : Nat) (y : Str) : expo (xp x i) y = if x = y then (i : Int) else 0 := by
  unfold xp
  split
  · rename_i z
    subst z
    show (0 : Int) = _
    split <;> rfl
  · show (if x = y then (i : Int) else 0) + 0 = _
    omega
theorem expo_rest {p : Pr} (x y : Str) : expo (restP x p) y = if x = y then 0 else expo p y := by
  induction p with
  | nil =>
    show (0 : Int) = _
    split <;> rfl
  | cons e r ih =>
    unfold restP at ih ⊢
    by_cases z : e.1 = x
    · rw [List.filter_cons_of_neg (by simp [z]), ih]
      by_cases q : x = y
      · rw [if_pos q, if_pos q]
      · rw [if_neg q, if_neg q]
        show _ = (if e.1 = y then e.2 else 0) + expo r y
        rw [if_neg (by rw [z]; exact q)]
        omega
    · rw [List.filter_cons_of_pos (by simpa using z)]
      show (if e.1 = y then e.2 else 0) + expo (r.filter _) y = _
      rw [ih]
      by_cases q : x = y
      · rw [if_pos q, if_pos q, if_neg (by rw [← q]; exact z)]
        rfl
      · rw [if_neg q, if_neg q]
        rfl
theorem FreeX.no {x : Str} {q : Pr} (h : FreeX x q) : expo q x = 0 := expo_zero h.2
theorem rest_join {x : Str} {q : Pr} (h : FreeX x q) (i : Nat) : restP x (joinP q (xp x i)) = q ∧ expo (joinP q (xp x i)) x = (i : Int) := by
  have c := (xp_canon x i).join h.1.one
  constructor
  · refine canon_eq (FreeX.rest c).1 h.1 fun y => ?_
    rw [expo_rest, expo_join, expo_xp]
    by_cases z : x = y
    · rw [if_pos z, ← z, h.no]
    · rw [if_neg z, if_neg z]
      omega
  · rw [expo_join, expo_xp, h.no, if_pos rfl]
    omega
theorem join_rest {x : Str} {p : Pr} (h : Canon p) : joinP (restP x p) (xp x (expo p x).toNat) = p := by
  refine canon_eq ((xp_canon x _).join (FreeX.rest h).1.one) h fun y => ?_
  have a := expo_nonneg h.one x
  rw [expo_join, expo_rest, expo_xp]
  by_cases z : x = y
  · rw [if_pos z, if_pos z, ← z]
    omega
  · rw [if_neg z, if_neg z]
    omega
def XF (x : Str) (a : PR) : Prop := ∃ (M : Poly) (h : AllP Canon M), a = mkR M h ∧ AllP (FreeX x) M
theorem XF.cst (x : Str) (c : Rat) : XF x (cst c) := ⟨_, _, rfl, AllP.single ⟨.nil, fun _ h => nomatch h⟩⟩
theorem XF.add {x : Str} {a b : PR} (h : XF x a) (g : XF x b) : XF x (a + b) := by
  obtain ⟨M, hM, rfl, fM⟩ := h
  obtain ⟨N, hN, rfl, fN⟩ := g
  exact ⟨M ++ N, hM.app hN, rfl, fM.app fN⟩
theorem XF.mul {x : Str} {a b : PR} (h : XF x a) (g : XF x b) : XF x (a * b) := by
  obtain ⟨M, hM, rfl, fM⟩ := h
  obtain ⟨N, hN, rfl, fN⟩ := g
  exact ⟨mulM M N, hM.mul hN CanonJ, rfl, fM.mul fN fun _ _ => FreeX.join⟩
theorem XF.of {x : Str} {M : Poly} (h : AllP Canon M) (f : AllP (FreeX x) M) : XF x (mkR M h) := ⟨M, h, rfl, f⟩
/-- a sum by the powers of the name -/
structure ByX (x : Str) (a q0 q1 q2 q3 q4 X : PR) : Prop where
  eq : a = q0 + q1 * X + q2 * X ^ 2 + q3 * X ^ 3 + q4 * X ^ 4
  f0 : XF x q0
  f1 : XF x q1
  f2 : XF x q2
  f3 : XF x q3
  f4 : XF x q4
def Xr (x : Str) : PR := mkR [([(x, 1)], 1)] (AllP.single (canon_one (e := (x, 1)) (Int.le_refl 1)))
theorem powR_mk {N : Poly} (h : AllP Canon N) : ∀ k : Nat, mkR N h ^ k = mkR (powM N k) (h.pow Canon.nil CanonJ k)
  | 0 => mkR_eq (powM_zero N).symm
  | k + 1 => by
    show mkR N h ^ k * mkR N h = _
    rw [powR_mk h k]
    rfl
theorem Xr_pow (x : Str) (i : Nat) : Xr x ^ i = mkR [(xp x i, 1)] (AllP.single (xp_canon x i)) := by
  unfold Xr
  rw [powR_mk]
  refine mkR_eq ?_
  cases i with
  | zero => exact powM_zero _
  | succ k =>
    have e : xp x (k + 1) = [(x, (k : Int) + 1)] := by
      unfold xp
      rw [if_neg (by omega)]
      rfl
    rw [e]
    exact pow_single x k
theorem byX_of (x : Str) : ∀ {M : Poly} (h : AllP Canon M), (∀ y ∈ M, (expo y.1 x).toNat < 5) → ∃ q0 q1 q2 q3 q4, ByX x (mkR M h) q0 q1 q2 q3 q4 (Xr x)
  | [], h, _ => by
    have c := XF.cst x 0
    refine ⟨cst 0, cst 0, cst 0, cst 0, cst 0, ?_, c, c, c, c, c⟩
    have e : mkR [] h = cst 0 := mkR_eq fun f => by
      rw [lin_cons, lin_nil]
      grind
    have z : cst 0 = (0 : PR) := rfl
    rw [e, z]
    grind
  | (p, r) :: M, h, hd => by
    obtain ⟨q0, q1, q2, q3, q4, b⟩ := byX_of x (M := M) (fun y hy => h y (by simp [hy])) fun y hy => hd y (by simp [hy])
    have cp := h (p, r) (by simp)
    have k5 := hd (p, r) (by simp)
    have fr := FreeX.rest (x := x) cp
    have sp : mkR ((p, r) :: M) h = cst r * (mkR [(restP x p, 1)] (AllP.single fr.1) * Xr x ^ (expo p x).toNat) + mkR M (fun y hy => h y (by simp [hy])) := by
      rw [Xr_pow]
      refine mkR_eq fun f => ?_
      show _ = lin f (mulM [([], r)] (mulM [(restP x p, 1)] [(xp x (expo p x).toNat, 1)]) ++ M)
      rw [lin_append, lin_cst, lin_one, lin_cons, lin_cons, lin_nil, join_rest cp]
      grind
    have fm : XF x (cst r * mkR [(restP x p, 1)] (AllP.single fr.1)) := (XF.cst x r).mul (.of _ (AllP.single fr))
    rw [sp, b.eq]
    obtain ⟨k, hk⟩ : ∃ k, (expo p x).toNat = k := ⟨_, rfl⟩
    rw [hk]
    have k5 : k < 5 := by rw [← hk]; exact k5
    generalize mkR [(restP x p, 1)] (AllP.single fr.1) = u at fm
    generalize cst r = c at fm
    match k, k5 with
    | 0, _ => exact ⟨q0 + c * u, q1, q2, q3, q4, by grind, b.f0.add fm, b.f1, b.f2, b.f3, b.f4⟩
    | 1, _ => exact ⟨q0, q1 + c * u, q2, q3, q4, by grind, b.f0, b.f1.add fm, b.f2, b.f3, b.f4⟩
    | 2, _ => exact ⟨q0, q1, q2 + c * u, q3, q4, by grind, b.f0, b.f1, b.f2.add fm, b.f3, b.f4⟩
    | 3, _ => exact ⟨q0, q1, q2, q3 + c * u, q4, by grind, b.f0, b.f1, b.f2, b.f3.add fm, b.f4⟩
    | 4, _ => exact ⟨q0, q1, q2, q3, q4 + c * u, by grind, b.f0, b.f1, b.f2, b.f3, b.f4.add fm⟩
/-- what does the same to each power of the name, whatever stands beside it -/
theorem lift_of {x : Str} {res M : Poly} {hr : AllP Canon res} {hM : AllP Canon M} {L : (Pr → Rat) → Pr → Rat} {S : Nat → Poly} {hS : ∀ i, AllP Canon (S i)} (h1 : ∀ f, lin f res = lin (L f) M) (h2 : ∀ f q i, FreeX x q → i < 5 → L f (joinP q (xp x i)) = lin (fun b => f (joinP q b)) (S i))
    {q0 q1 q2 q3 q4 : PR} (b : ByX x (mkR M hM) q0 q1 q2 q3 q4 (Xr x)) : mkR res hr = q0 * mkR (S 0) (hS 0) + q1 * mkR (S 1) (hS 1) + q2 * mkR (S 2) (hS 2) + q3 * mkR (S 3) (hS 3) + q4 * mkR (S 4) (hS 4) := by
  obtain ⟨e, ⟨Q0, c0, rfl, g0⟩, ⟨Q1, c1, rfl, g1⟩, ⟨Q2, c2, rfl, g2⟩, ⟨Q3, c3, rfl, g3⟩, ⟨Q4, c4, rfl, g4⟩⟩ := b
  have e : mkR M hM = mkR Q0 c0 * mkR [(xp x 0, 1)] (AllP.single (xp_canon x 0)) + mkR Q1 c1 * mkR [(xp x 1, 1)] (AllP.single (xp_canon x 1)) + mkR Q2 c2 * mkR [(xp x 2, 1)] (AllP.single (xp_canon x 2)) + mkR Q3 c3 * mkR [(xp x 3, 1)] (AllP.single (xp_canon x 3)) + mkR Q4 c4 * mkR [(xp x 4, 1)] (AllP.single (xp_canon x 4)) := by
    rw [← Xr_pow, ← Xr_pow, ← Xr_pow, ← Xr_pow, ← Xr_pow, e]
    grind
  have ev : ∀ f, lin f M = lin f ((((mulM Q0 [(xp x 0, 1)] ++ mulM Q1 [(xp x 1, 1)]) ++ mulM Q2 [(xp x 2, 1)]) ++ mulM Q3 [(xp x 3, 1)]) ++ mulM Q4 [(xp x 4, 1)]) := mkR_iff e
  refine mkR_eq fun f => ?_
  show _ = lin f ((((mulM Q0 (S 0) ++ mulM Q1 (S 1)) ++ mulM Q2 (S 2)) ++ mulM Q3 (S 3)) ++ mulM Q4 (S 4))
  have one : ∀ {Q : Poly} {i : Nat}, AllP (FreeX x) Q → i < 5 → lin (L f) (mulM Q [(xp x i, 1)]) = lin f (mulM Q (S i)) := fun {Q i} g hi => by
    rw [lin_mul, lin_mul]
    refine lin_congr fun y hy => ?_
    rw [lin_cons, lin_nil, h2 f _ i (g y hy) hi]
    grind
  rw [h1, ev]
  simp only [lin_append]
  rw [one g0 (by decide), one g1 (by decide), one g2 (by decide), one g3 (by decide), one g4 (by decide)]
/-! ### totals and what is put in, by the powers of the name -/
def scaleM (c : Rat) (M : Poly) : Poly := M.map fun b => (b.1, c * b.2)
theorem lin_scale (f : Pr → Rat) (c : Rat) (M : Poly) : lin f (scaleM c M) = c * lin f M := by
  induction M with
  | nil =>
    show (0 : Rat) = c * 0
    grind
  | cons x r ih =>
    show lin f ((x.1, c * x.2) :: scaleM c r) = _
    rw [lin_cons, lin_cons, ih]
    grind
theorem scale_can {c : Rat} {M : Poly} (h : AllP Canon M) : AllP Canon (scaleM c M) := fun y hy => by
  obtain ⟨z, hz, rfl⟩ := List.mem_map.mp hy
  exact h z hz
def sumS (R : List (Int × Rat)) (N : Poly) : Poly := R.flatMap fun e => scaleM e.2 (powM N e.1.toNat)
theorem lin_sumS (f : Pr → Rat) (N : Poly) : ∀ R : List (Int × Rat), lin f (sumS R N) = (R.map fun e => e.2 * lin f (powM N e.1.toNat)).sum
  | [] => rfl
  | e :: r => by
    show lin f (scaleM e.2 (powM N e.1.toNat) ++ sumS r N) = _
    rw [lin_append, lin_scale, lin_sumS f N r, List.map_cons, List.sum_cons]
theorem sumS_can {N : Poly} (h : AllP Canon N) (R : List (Int × Rat)) : AllP Canon (sumS R N) := fun y hy => by
  obtain ⟨e, _, hy⟩ := List.mem_flatMap.mp hy
  exact scale_can (h.pow Canon.nil CanonJ _) y hy
theorem sumS_mk {N : Poly} (h : AllP Canon N) : ∀ R : List (Int × Rat), mkR (sumS R N) (sumS_can h R) = R.foldr (fun e a => cst e.2 * mkR N h ^ e.1.toNat + a) 0
  | [] => mkR_eq fun f => by
    show lin f [] = lin f [([], ((0 : Nat) : Rat))]
    rw [lin_cons, lin_nil]
    show (0 : Rat) = 0 * _ + 0
    grind
  | e :: r => by
    rw [List.foldr_cons, ← sumS_mk h r, powR_mk h]
    refine mkR_eq fun f => ?_
    show lin f (scaleM e.2 (powM N e.1.toNat) ++ sumS r N) = lin f (mulM [([], e.2)] (powM N e.1.toNat) ++ sumS r N)
    rw [lin_append, lin_append, lin_scale, lin_cst]
/-- one of sixty parts -/
def h60 : PR := cst (1 / 60)
theorem h60_one : 60 * h60 = 1 := by
  show cst ((60 : Nat) : Rat) * cst (1 / 60) = cst ((1 : Nat) : Rat)
  rw [← cst_mul]
  congr 1
  decide +kernel
theorem cst60 (c : Rat) (n : Int) (h : c = (n : Rat) * (1 / 60)) : cst c = (n : PR) * h60 := by
  rw [h, cst_mul]
  rfl
section
variable {N : Poly} (h : AllP Canon N)
theorem s0_eq : mkR (sumS (rowS 0) N) (sumS_can h _) = mkR N h := by
  have e : rowS 0 = [(1, 1)] := by decide +kernel
  rw [sumS_mk h, e, List.foldr_cons, List.foldr_nil]
  show cst 1 * mkR N h ^ (1 : Nat) + 0 = _
  have : cst 1 = (1 : PR) := rfl
  rw [this]
  grind
theorem s1_eq : mkR (sumS (rowS 1) N) (sumS_can h _) = 30 * h60 * mkR N h ^ 2 - 30 * h60 * mkR N h := by
  have e : rowS 1 = [(2, 1 / 2), (1, -1 / 2)] := by decide +kernel
  rw [sumS_mk h, e, List.foldr_cons, List.foldr_cons, List.foldr_nil]
  show cst (1 / 2) * mkR N h ^ (2 : Nat) + (cst (-1 / 2) * mkR N h ^ (1 : Nat) + 0) = _
  rw [cst60 (1 / 2) 30 (by decide +kernel), cst60 (-1 / 2) (-30) (by decide +kernel)]
  grind
theorem s2_eq : mkR (sumS (rowS 2) N) (sumS_can h _) = 20 * h60 * mkR N h ^ 3 - 30 * h60 * mkR N h ^ 2 + 10 * h60 * mkR N h := by
  have e : rowS 2 = [(3, 1 / 3), (2, -1 / 2), (1, 1 / 6)] := by decide +kernel
  rw [sumS_mk h, e, List.foldr_cons, List.foldr_cons, List.foldr_cons, List.foldr_nil]
  show cst (1 / 3) * mkR N h ^ (3 : Nat) + (cst (-1 / 2) * mkR N h ^ (2 : Nat) + (cst (1 / 6) * mkR N h ^ (1 : Nat) + 0)) = _
  rw [cst60 (1 / 3) 20 (by decide +kernel), cst60 (-1 / 2) (-30) (by decide +kernel), cst60 (1 / 6) 10 (by decide +kernel)]
  grind
theorem s3_eq : mkR (sumS (rowS 3) N) (sumS_can h _) = 15 * h60 * mkR N h ^ 4 - 30 * h60 * mkR N h ^ 3 + 15 * h60 * mkR N h ^ 2 := by
  have e : rowS 3 = [(4, 1 / 4), (3, -1 / 2), (2, 1 / 4)] := by decide +kernel
  rw [sumS_mk h, e, List.foldr_cons, List.foldr_cons, List.foldr_cons, List.foldr_nil]
  show cst (1 / 4) * mkR N h ^ (4 : Nat) + (cst (-1 / 2) * mkR N h ^ (3 : Nat) + (cst (1 / 4) * mkR N h ^ (2 : Nat) + 0)) = _
  rw [cst60 (1 / 4) 15 (by decide +kernel), cst60 (-1 / 2) (-30) (by decide +kernel)]
  grind
theorem s4_eq : mkR (sumS (rowS 4) N) (sumS_can h _) = 12 * h60 * mkR N h ^ 5 - 30 * h60 * mkR N h ^ 4 + 20 * h60 * mkR N h ^ 3 - 2 * h60 * mkR N h := by
  have e : rowS 4 = [(5, 1 / 5), (4, -1 / 2), (3, 1 / 3), (1, -1 / 30)] := by decide +kernel
  rw [sumS_mk h, e, List.foldr_cons, List.foldr_cons, List.foldr_cons, List.foldr_cons, List.foldr_nil]
  show cst (1 / 5) * mkR N h ^ (5 : Nat) + (cst (-1 / 2) * mkR N h ^ (4 : Nat) + (cst (1 / 3) * mkR N h ^ (3 : Nat) + (cst (-1 / 30) * mkR N h ^ (1 : Nat) + 0))) = _
  rw [cst60 (1 / 5) 12 (by decide +kernel), cst60 (-1 / 2) (-30) (by decide +kernel), cst60 (1 / 3) 20 (by decide +kernel), cst60 (-1 / 30) (-2) (by decide +kernel)]
  grind
end
/-- what a total is in the ring -/
def totQ (q0 q1 q2 q3 q4 v : PR) : PR := q0 * v + q1 * (30 * h60 * v ^ 2 - 30 * h60 * v) + q2 * (20 * h60 * v ^ 3 - 30 * h60 * v ^ 2 + 10 * h60 * v) + q3 * (15 * h60 * v ^ 4 - 30 * h60 * v ^ 3 + 15 * h60 * v ^ 2) + q4 * (12 * h60 * v ^ 5 - 30 * h60 * v ^ 4 + 20 * h60 * v ^ 3 - 2 * h60 * v)
theorem tot_of {x : Str} {M N : Poly} {hr : AllP Canon (totalM x M N)} {hM : AllP Canon M} (hN : AllP Canon N) {q0 q1 q2 q3 q4 : PR} (b : ByX x (mkR M hM) q0 q1 q2 q3 q4 (Xr x)) : mkR (totalM x M N) hr = totQ q0 q1 q2 q3 q4 (mkR N hN) := by
  have z := lift_of (hr := hr) (S := fun i => sumS (rowS i) N) (hS := fun i => sumS_can hN _) (fun f => lin_total f x M N) (fun f q i hq hi => by
    obtain ⟨a, c⟩ := rest_join hq i
    rw [lin_sumS]
    unfold tauG
    rw [a, c]
    rfl) b
  rw [z, s0_eq hN, s1_eq hN, s2_eq hN, s3_eq hN, s4_eq hN]
  rfl
theorem put_of {x : Str} {M N : Poly} {hr : AllP Canon (putInM (F1 x N) M)} {hM : AllP Canon M} (hN : AllP Canon N) {q0 q1 q2 q3 q4 : PR} (b : ByX x (mkR M hM) q0 q1 q2 q3 q4 (Xr x)) : mkR (putInM (F1 x N) M) hr = q0 + q1 * mkR N hN + q2 * mkR N hN ^ 2 + q3 * mkR N hN ^ 3 + q4 * mkR N hN ^ 4 := by
  have hF : CanF (F1 x N) := fun y L e => by
    unfold F1 at e
    split at e
    · cases e
      exact hN
    · cases e
  have z := lift_of (hr := hr) (S := fun i => powM N i) (hS := fun i => hN.pow Canon.nil CanonJ i) (fun f => lin_putIn hF hM f) (fun f q i hq hi => by
    have e1 : Eqv (prodT (F1 x N) q) [(q, 1)] := prodT_same hq.1 fun e he => term_none (by
      unfold F1
      rw [if_neg (hq.2 e he)])
    have e2 : Eqv (prodT (F1 x N) (xp x i)) (powM N i) := by
      unfold xp
      split
      · rename_i z
        subst z
        exact (powM_zero N).symm
      · have t : termF (F1 x N) (x, (i : Int)) = powM N i := by
          unfold termF F1
          rw [if_pos rfl]
          rfl
        show Eqv (mulM (termF (F1 x N) (x, (i : Int))) [([], 1)]) _
        rw [t]
        exact mul_one' (hN.pow Canon.nil CanonJ i)
    rw [prodT_join hF (xp_canon x i) hq.1.one f, (e1.mul e2) f, lin_one]
    grind) b
  rw [z]
  show q0 * mkR (powM N 0) _ + q1 * mkR (powM N 1) _ + q2 * mkR (powM N 2) _ + q3 * mkR (powM N 3) _ + q4 * mkR (powM N 4) _ = _
  rw [← powR_mk hN, ← powR_mk hN, ← powR_mk hN, ← powR_mk hN, ← powR_mk hN]
  grind
/-! ### the law's pairs in the ring -/
theorem Fit.of_sub {ns ms : List Str} {n D S : Nat} {M : Poly} (h : Fit (Of ns) n D S M) (s : ∀ x ∈ ns, x ∈ ms) : Fit (Of ms) n D S M := ⟨⟨h.good.nd, h.good.nz, fun x hx => ⟨(h.good.pr x hx).1, fun e he => s _ ((h.good.pr x hx).2 e he)⟩⟩, h.len, h.wh, h.sz⟩
theorem mk_sum {M N : Poly} {hM : AllP Canon M} {hN : AllP Canon N} {h : AllP Canon (sumM M N)} (n : (M.map (·.1)).Nodup) : mkR (sumM M N) h = mkR M hM + mkR N hN := mkR_eq fun f => by
  show _ = lin f (M ++ N)
  rw [lin_sumM f N n, lin_append]
theorem mk_less {M N : Poly} {hM : AllP Canon M} {hN : AllP Canon N} {h : AllP Canon (sumM M (negM N))} (n : (M.map (·.1)).Nodup) : mkR (sumM M (negM N)) h = mkR M hM - mkR N hN := mkR_eq fun f => by
  show _ = lin f (M ++ negM N)
  rw [lin_sumM f _ n, lin_append]
theorem mk_num (n : Int) {h : AllP Canon (addM [] [] (n : Rat))} : mkR (addM [] [] (n : Rat)) h = cst (n : Rat) := mkR_eq fun f => by
  rw [numberM, lin_cons, lin_nil]
  grind
theorem fr_name {x y : Str} (h : y ≠ x) : AllP (FreeX x) [([(y, (1 : Int))], (1 : Rat))] := AllP.single ⟨canon_one (e := (y, 1)) (Int.le_refl 1), fun e he => by
  rw [show e = (y, 1) by simpa using he]
  exact h⟩
theorem ByX.add {x : Str} {a b q0 q1 q2 q3 q4 r0 r1 r2 r3 r4 X : PR} (h : ByX x a q0 q1 q2 q3 q4 X) (g : ByX x b r0 r1 r2 r3 r4 X) : ByX x (a + b) (q0 + r0) (q1 + r1) (q2 + r2) (q3 + r3) (q4 + r4) X := ⟨by rw [h.eq, g.eq]; grind, h.f0.add g.f0, h.f1.add g.f1, h.f2.add g.f2, h.f3.add g.f3, h.f4.add g.f4⟩
theorem ByX.scale {x : Str} {a q0 q1 q2 q3 q4 X u : PR} (h : ByX x a q0 q1 q2 q3 q4 X) (f : XF x u) : ByX x (u * a) (u * q0) (u * q1) (u * q2) (u * q3) (u * q4) X := ⟨by rw [h.eq]; grind, f.mul h.f0, f.mul h.f1, f.mul h.f2, f.mul h.f3, f.mul h.f4⟩
theorem XF.num (x : Str) (n : Nat) : XF x (OfNat.ofNat n : PR) := XF.cst x _
theorem XF.pow {x : Str} {a : PR} (h : XF x a) : ∀ k : Nat, XF x (a ^ k)
  | 0 => XF.cst x _
  | k + 1 => (XF.pow h k).mul h
/-- the name and something more, put in the name's place -/
theorem ByX.shift {x : Str} {a q0 q1 q2 q3 q4 X v : PR} (h : ByX x a q0 q1 q2 q3 q4 X) (f : XF x v) : ByX x (q0 + q1 * (X + v) + q2 * (X + v) ^ 2 + q3 * (X + v) ^ 3 + q4 * (X + v) ^ 4)
    (q0 + q1 * v + q2 * v ^ 2 + q3 * v ^ 3 + q4 * v ^ 4) (q1 + 2 * (q2 * v) + 3 * (q3 * v ^ 2) + 4 * (q4 * v ^ 3)) (q2 + 3 * (q3 * v) + 6 * (q4 * v ^ 2)) (q3 + 4 * (q4 * v)) q4 X := by
  have n2 := XF.num x 2
  have n3 := XF.num x 3
  have n4 := XF.num x 4
  have n6 := XF.num x 6
  refine ⟨by grind, ?_, ?_, ?_, ?_, h.f4⟩
  · exact (((h.f0.add (h.f1.mul f)).add (h.f2.mul (f.pow 2))).add (h.f3.mul (f.pow 3))).add (h.f4.mul (f.pow 4))
  · exact ((h.f1.add (n2.mul (h.f2.mul f))).add (n3.mul (h.f3.mul (f.pow 2)))).add (n4.mul (h.f4.mul (f.pow 3)))
  · exact (h.f2.add (n3.mul (h.f3.mul f))).add (n6.mul (h.f4.mul (f.pow 2)))
  · exact h.f3.add (n4.mul (h.f4.mul f))
theorem tq_add (q0 q1 q2 q3 q4 r0 r1 r2 r3 r4 v : PR) : totQ (q0 + r0) (q1 + r1) (q2 + r2) (q3 + r3) (q4 + r4) v = totQ q0 q1 q2 q3 q4 v + totQ r0 r1 r2 r3 r4 v := by
  unfold totQ
  grind
theorem tq_scale (u q0 q1 q2 q3 q4 v : PR) : totQ (u * q0) (u * q1) (u * q2) (u * q3) (u * q4) v = u * totQ q0 q1 q2 q3 q4 v := by
  unfold totQ
  grind
theorem tq_two (q0 q1 q2 q3 q4 v u : PR) : totQ q0 q1 q2 q3 q4 (v + u) = totQ q0 q1 q2 q3 q4 v + totQ (q0 + q1 * v + q2 * v ^ 2 + q3 * v ^ 3 + q4 * v ^ 4) (q1 + 2 * (q2 * v) + 3 * (q3 * v ^ 2) + 4 * (q4 * v ^ 3)) (q2 + 3 * (q3 * v) + 6 * (q4 * v ^ 2)) (q3 + 4 * (q4 * v)) q4 u := by
  have h := h60_one
  unfold totQ
  grind
theorem tq_one (q0 q1 q2 q3 q4 v : PR) : totQ q0 q1 q2 q3 q4 (v + 1) - totQ q0 q1 q2 q3 q4 v = q0 + q1 * v + q2 * v ^ 2 + q3 * v ^ 3 + q4 * v ^ 4 := by
  have h := h60_one
  unfold totQ
  grind
theorem tq_num (c v : PR) : totQ c 0 0 0 0 v = c * v := by
  unfold totQ
  grind
theorem tq_step (q0 q1 q2 q3 q4 v : PR) : totQ ((q0 + q1 * 1 + q2 * 1 ^ 2 + q3 * 1 ^ 3 + q4 * 1 ^ 4) + -1 * q0) ((q1 + 2 * (q2 * 1) + 3 * (q3 * 1 ^ 2) + 4 * (q4 * 1 ^ 3)) + -1 * q1) ((q2 + 3 * (q3 * 1) + 6 * (q4 * 1 ^ 2)) + -1 * q2) ((q3 + 4 * (q4 * 1)) + -1 * q3) (q4 + -1 * q4) v
    = (q0 + q1 * v + q2 * v ^ 2 + q3 * v ^ 3 + q4 * v ^ 4) - (q0 + q1 * 0 + q2 * 0 ^ 2 + q3 * 0 ^ 3 + q4 * 0 ^ 4) := by
  have h := h60_one
  unfold totQ
  grind
theorem tq_odd (v : PR) : totQ 1 2 0 0 0 v = v * v := by
  have h := h60_one
  unfold totQ
  grind
theorem tq_cube (v : PR) : totQ 0 0 0 1 0 v = totQ 0 1 0 0 0 v * totQ 0 1 0 0 0 v := by
  have h := h60_one
  unfold totQ
  grind
/-! ### sums that the law makes -/
theorem expo_deg {p : Pr} (h : Canon p) (x : Str) : (expo p x).toNat ≤ degP p := by
  by_cases z : expo p x = 0
  · rw [z]
    exact Nat.zero_le _
  · obtain ⟨e, he, ex⟩ := mem_of_expo z
    have a := expo_at h he
    rw [ex] at a
    rw [a]
    exact exp_le_deg he
theorem lo_powG {N : Poly} {g : Nat} (h : AllP (Lo g) N) : ∀ k, AllP (Lo (g * k)) (powM N k)
  | 0 => AllP.nil.mem_add ⟨.nil, Nat.zero_le _⟩ _
  | k + 1 => (lo_powG h k).mul h fun _ _ a b => a.join b
theorem lo_foldG {F : Str → Option Poly} {g : Nat} (hF : ∀ x N, F x = some N → AllP (Lo g) N) : ∀ (p : Pr) {acc : Poly} {a : Nat}, AllP (Lo a) acc → AllP (Lo (a + g * degP p)) (p.foldl (stepF F) acc)
  | [], _, _, h => h
  | e :: r, acc, a, h => by
    rw [List.foldl_cons]
    have e1 : g * degP (e :: r) = g * e.2.toNat + g * degP r := by
      show g * (e.2.toNat + degP r) = _
      rw [Nat.mul_add]
    unfold stepF
    cases hN : F e.1 with
    | none => exact (lo_foldG hF r h).imp fun _ => Lo.up (by rw [e1]; omega)
    | some N =>
      have z := lo_foldG hF r (h.mul (lo_powG (hF _ _ hN) e.2.toNat) fun _ _ x y => x.join y)
      exact z.imp fun _ => Lo.up (by rw [e1]; omega)
theorem degP_filterG (p : Pr) (g : Str × Int → Bool) : degP (p.filter g) ≤ degP p := by
  induction p with
  | nil => exact Nat.le_refl _
  | cons e r ih =>
    rw [List.filter_cons]
    split
    · exact Nat.add_le_add_left ih _
    · exact Nat.le_trans ih (Nat.le_add_left _ _)
theorem lo_putG {F : Str → Option Poly} {M : Poly} {g k : Nat} (hF : ∀ x N, F x = some N → AllP (Lo g) N) (h : AllP (Lo k) M) : AllP (Lo (k + g * k)) (putInM F M) := AllP.sum _ AllP.nil fun z hz => by
  obtain ⟨y, hy, hz⟩ := List.mem_flatMap.mp hz
  have hy' := h y hy
  have kk : AllP (Lo k) [(keptP F y.1, y.2)] := AllP.single ⟨keptP_can hy'.1, Nat.le_trans (degP_filterG _ _) hy'.2⟩
  exact Lo.up (Nat.add_le_add_left (Nat.mul_le_mul_left _ hy'.2) _) (lo_foldG hF y.1 kk z hz)
theorem Good.canG {ns : List Str} {M : Poly} (g : Good (Of ns) M) : AllP Canon M := fun x hx => (g.pr x hx).1
structure Sm (ns : List Str) (n S g : Nat) (M : Poly) : Prop where
  fit : Fit (Of ns) n 1 S M
  lo : AllP (Lo g) M
section
variable {ns : List Str} {n S g n' S' g' : Nat} {M N : Poly}
theorem Sm.mono (h : Sm ns n S g M) (a : n ≤ n') (b : S ≤ S') (c : g ≤ g') : Sm ns n' S' g' M := ⟨h.fit.mono a b, h.lo.imp fun _ => Lo.up c⟩
theorem Sm.num (ns : List Str) (k : Int) (h : k.natAbs ≤ S) : Sm ns 1 S 0 (addM [] [] (k : Rat)) := ⟨(Fit.number k).mono (Nat.le_refl 1) h, AllP.nil.mem_add ⟨.nil, Nat.zero_le _⟩ _⟩
theorem Sm.name {x : Str} (h : x ∈ ns) : Sm ns 1 1 1 [([(x, 1)], 1)] := ⟨Fit.name h, AllP.single ⟨canon_one (e := (x, 1)) (Int.le_refl 1), Nat.le_refl 1⟩⟩
theorem Sm.plus (h : Sm ns n S g M) (k : Sm ns n' S' g N) : Sm ns (n + n') (S + S') g (sumM M N) := ⟨h.fit.plus k.fit, AllP.sum _ h.lo k.lo⟩
theorem Sm.less (h : Sm ns n S g M) (k : Sm ns n' S' g N) : Sm ns (n + n') (S + S') g (sumM M (negM N)) := ⟨h.fit.plus k.fit.neg, AllP.sum _ h.lo k.lo.neg⟩
theorem Sm.mul (h : Sm ns n S g M) (k : Sm ns n' S' g' N) : Sm ns (n * n') (S * S') (g + g') (mulM M N) := ⟨h.fit.mul1 k.fit, h.lo.mul k.lo fun _ _ a b => a.join b⟩
theorem Sm.deg (h : Sm ns n S g M) (x : Str) : ∀ y ∈ M, (expo y.1 x).toNat ≤ g := fun y hy => Nat.le_trans (expo_deg (h.lo y hy).1 x) (h.lo y hy).2
theorem Sm.can (h : Sm ns n S g M) : AllP Canon M := h.fit.can
theorem Sm.pw {top : Nat} (h : Sm ns n S g M) (a : 1 ≤ n) (b : 1 ≤ S) (c : S ^ top < big) (d : n ^ top < sizeLine) (e : ns.length < 32) (f : g < 1000) : PowFit ns n 1 S top M := ⟨h.fit, a, by decide, b, by rw [Nat.one_pow]; decide +kernel, c, d, e, fun x hx e he => by
  have a := exp_le_deg he
  have b := (h.lo x hx).2
  omega⟩
theorem Sm.totOk {x : Str} (h : Sm ns n S g M) (k : Sm ns n' S' g' N) (e : ns.length < 32) (a : g < 9) (b : n < 100000 ∧ n * 10 * (S * 2520) + S * 2520 < big ∧ 1 ≤ n' ∧ 1 ≤ S' ∧ S' ^ 9 < big ∧ n' ^ 9 < sizeLine ∧ g' < 1000 ∧ 9 * (n * 10 * n' ^ 9) < sizeLine ∧ 9 * (n * 10 * (S * 2520) * S' ^ 9) < big) : TotOk ns n S n' S' x M N :=
  let ⟨b1, b2, b3, b4, b5, b6, b7, b8, b9⟩ := b
  ⟨⟨h.fit, fun y hy => Nat.lt_of_le_of_lt (h.deg x y hy) a, e, b1, b2⟩, k.pw b3 b4 b5 b6 e b7, b8, b9⟩
theorem F1_some {x z : Str} {L : Poly} (e : F1 x N z = some L) : L = N := by
  unfold F1 at e
  split at e
  · cases e
    rfl
  · cases e
theorem Sm.inFit {x : Str} {top : Nat} (h : Sm ns n S top M) (k : Sm ns n' S' g' N) (e : ns.length < 32) (b : 1 ≤ n' ∧ 1 ≤ S' ∧ S' ^ top < big ∧ n' ^ top < sizeLine ∧ g' < 1000 ∧ top < 900 ∧ S * S' ^ top < big ∧ n * n' ^ top < sizeLine) : InFit ns (F1 x N) M n 1 S n' S' top :=
  let ⟨b1, b2, b3, b4, b5, b6, b7, b8⟩ := b
  ⟨⟨fun z L q => by rw [F1_some q]; exact k.pw b1 b2 b3 b4 e b5, b1, b2, b4, b3, e, b6⟩, h.fit, by decide, by decide +kernel, b7, b8, fun y hy => (h.lo y hy).2⟩
theorem Sm.put {x : Str} {top : Nat} (h : Sm ns n S top M) (k : Sm ns n' S' g' N) (i : InFit ns (F1 x N) M n 1 S n' S' top) : Sm ns (n * n' ^ top) (S * S' ^ top) (top + g' * top) (putInM (F1 x N) M) :=
  ⟨i.res, lo_putG (fun z L q => by rw [F1_some q]; exact k.lo) h.lo⟩
theorem Sm.byX (h : Sm ns n S 4 M) (x : Str) : ∃ q0 q1 q2 q3 q4, ByX x (mkR M h.can) q0 q1 q2 q3 q4 (Xr x) := byX_of x h.can fun y hy => Nat.lt_succ_of_le (h.deg x y hy)
theorem eq_ring {A B : Pr → Prop} {M N : Poly} (a : Good A M) (b : Good B N) {hM : AllP Canon M} {hN : AllP Canon N} (e : mkR M hM = mkR N hN) : eqM M N = true := eqM_of a b (mkR_iff e)
end
section
variable {ns : List Str} {x : Str} {n1 s1 n2 s2 n3 s3 g3 n4 s4 g4 a b c d a' b' D D' D2 : Nat} {M1 M2 N L : Poly} {A B : Pr → Prop}
theorem p28_1 (h1 : Sm ns n1 s1 4 M1) (h2 : Sm ns n2 s2 4 M2) (k : Sm ns n3 s3 g3 N) (t : Fit (Of ns) a D b (totalM x (sumM M1 M2) N)) (t1 : Fit (Of ns) c D2 d (totalM x M1 N)) (t2 : Fit (Of ns) a' D' b' (totalM x M2 N)) (g : Good (Of ns) (sumM (totalM x M1 N) (totalM x M2 N))) : eqM (totalM x (sumM M1 M2) N) (sumM (totalM x M1 N) (totalM x M2 N)) = true := by
  obtain ⟨q0, q1, q2, q3, q4, b1⟩ := h1.byX x
  obtain ⟨r0, r1, r2, r3, r4, b2⟩ := h2.byX x
  have b3 := b1.add b2
  rw [← mk_sum (h := (h1.plus h2).can) h1.fit.nd] at b3
  refine eq_ring t.good g (hM := t.can) (hN := g.canG) ?_
  rw [mk_sum (hM := t1.can) (hN := t2.can) t1.nd, tot_of k.can b1, tot_of k.can b2, tot_of k.can b3, tq_add]
theorem p28_2 (v : Int) (h1 : Sm ns n1 s1 4 M1) (k : Sm ns n3 s3 g3 N) (t : Fit (Of ns) a D b (totalM x (mulM (addM [] [] (v : Rat)) M1) N)) (t1 : Fit (Of ns) c D2 d (totalM x M1 N)) (g : Good (Of ns) (mulM (addM [] [] (v : Rat)) (totalM x M1 N))) : eqM (totalM x (mulM (addM [] [] (v : Rat)) M1) N) (mulM (addM [] [] (v : Rat)) (totalM x M1 N)) = true := by
  obtain ⟨q0, q1, q2, q3, q4, b1⟩ := h1.byX x
  have cn := (Sm.num ns v (Nat.le_refl _)).can
  have b3 := b1.scale (XF.cst x (v : Rat))
  rw [← mk_num v (h := cn), mk_mul] at b3
  refine eq_ring t.good g (hM := t.can) (hN := g.canG) ?_
  rw [← mk_mul cn t1.can, tot_of k.can b1, tot_of k.can b3, mk_num v, tq_scale]
theorem p28_3 {y : Str} (hy : y ∈ ns) (ne : y ≠ x) (h1 : Sm ns n1 s1 4 M1) (k : Sm ns n3 s3 g3 N) (t : Fit (Of ns) a D b (totalM x (mulM [([(y, 1)], 1)] M1) N)) (t1 : Fit (Of ns) c D2 d (totalM x M1 N)) (g : Good (Of ns) (mulM [([(y, 1)], 1)] (totalM x M1 N))) : eqM (totalM x (mulM [([(y, 1)], 1)] M1) N) (mulM [([(y, 1)], 1)] (totalM x M1 N)) = true := by
  obtain ⟨q0, q1, q2, q3, q4, b1⟩ := h1.byX x
  have cn := (Sm.name hy).can
  have b3 := b1.scale (XF.of cn (fr_name ne))
  rw [mk_mul] at b3
  refine eq_ring t.good g (hM := t.can) (hN := g.canG) ?_
  rw [← mk_mul cn t1.can, tot_of k.can b1, tot_of k.can b3, tq_scale]
theorem p28_4 (hx : x ∈ ns) (h1 : Sm ns n1 s1 4 M1) (k : Sm ns n3 s3 1 N) (fN : AllP (FreeX x) N) (l : Sm ns n4 s4 1 L) (t : Fit (Of ns) a D b (totalM x M1 (sumM N L))) (t1 : Fit (Of ns) c D2 d (totalM x M1 N)) {p : AllP Canon (putInM (F1 x (sumM [([(x, 1)], 1)] N)) M1)} (t2 : Fit (Of ns) a' D' b' (totalM x (putInM (F1 x (sumM [([(x, 1)], 1)] N)) M1) L)) (g : Good (Of ns) (sumM (totalM x M1 N) (totalM x (putInM (F1 x (sumM [([(x, 1)], 1)] N)) M1) L))) :
    eqM (totalM x M1 (sumM N L)) (sumM (totalM x M1 N) (totalM x (putInM (F1 x (sumM [([(x, 1)], 1)] N)) M1) L)) = true := by
  obtain ⟨q0, q1, q2, q3, q4, b1⟩ := h1.byX x
  have sx := (Sm.name hx).plus k
  have b3 := b1.shift (v := mkR N k.can) (XF.of k.can fN)
  have e3 := put_of (hr := p) sx.can b1
  have es : mkR (sumM [([(x, 1)], 1)] N) sx.can = Xr x + mkR N k.can := mk_sum (Sm.name hx).fit.nd
  rw [es] at e3
  rw [← e3] at b3
  refine eq_ring t.good g (hM := t.can) (hN := g.canG) ?_
  rw [mk_sum (hM := t1.can) (hN := t2.can) t1.nd, tot_of k.can b1, tot_of l.can b3, tot_of (k.plus l).can b1, mk_sum (hM := k.can) (hN := l.can) k.fit.nd, tq_two]
theorem p28_5 (h1 : Sm ns n1 s1 4 M1) (k : Sm ns n3 s3 g3 N) (w : Sm ns n4 s4 g3 (addM [] [] ((1 : Int) : Rat))) (t : Fit (Of ns) a D b (totalM x M1 (sumM N (addM [] [] ((1 : Int) : Rat))))) (t1 : Fit (Of ns) c D2 d (totalM x M1 N)) (g : Good (Of ns) (sumM (totalM x M1 (sumM N (addM [] [] ((1 : Int) : Rat)))) (negM (totalM x M1 N)))) (p : Good (Of ns) (putInM (F1 x N) M1)) :
    eqM (sumM (totalM x M1 (sumM N (addM [] [] ((1 : Int) : Rat)))) (negM (totalM x M1 N))) (putInM (F1 x N) M1) = true := by
  obtain ⟨q0, q1, q2, q3, q4, b1⟩ := h1.byX x
  refine eq_ring g p (hM := g.canG) (hN := p.canG) ?_
  rw [mk_less (hM := t.can) (hN := t1.can) t.nd, put_of k.can b1, tot_of k.can b1, tot_of (k.plus w).can b1, mk_sum (hM := k.can) (hN := w.can) k.fit.nd, mk_num 1]
  exact tq_one q0 q1 q2 q3 q4 (mkR N k.can)
theorem byX_num (v : Int) {h : AllP Canon (addM [] [] (v : Rat))} : ByX x (mkR (addM [] [] (v : Rat)) h) (cst (v : Rat)) 0 0 0 0 (Xr x) := ⟨by rw [mk_num]; grind, XF.cst x _, XF.num x 0, XF.num x 0, XF.num x 0, XF.num x 0⟩
theorem p28_6 (v : Int) (l : Sm ns n4 s4 g4 L) (t : Fit (Of ns) a D b (totalM x (addM [] [] (v : Rat)) L)) (g : Good (Of ns) (mulM (addM [] [] (v : Rat)) L)) : eqM (totalM x (addM [] [] (v : Rat)) L) (mulM (addM [] [] (v : Rat)) L) = true := by
  have cn := (Sm.num ns v (Nat.le_refl _)).can
  refine eq_ring t.good g (hM := t.can) (hN := g.canG) ?_
  rw [← mk_mul cn l.can, tot_of l.can (byX_num v (h := cn)), mk_num v, tq_num]
theorem p28_7 (hx : x ∈ ns) (h1 : Sm ns n1 s1 4 M1) (k : Sm ns n3 s3 g3 N) (P1 : Sm ns a b c (putInM (F1 x (sumM [([(x, 1)], 1)] (addM [] [] ((1 : Int) : Rat)))) M1)) (hs : AllP Canon (sumM (putInM (F1 x (sumM [([(x, 1)], 1)] (addM [] [] ((1 : Int) : Rat)))) M1) (negM M1)))
    (t : Fit (Of ns) a' D b' (totalM x (sumM (putInM (F1 x (sumM [([(x, 1)], 1)] (addM [] [] ((1 : Int) : Rat)))) M1) (negM M1)) N)) (P2 : Sm ns n2 s2 d (putInM (F1 x N) M1)) (P3 : Sm ns n4 s4 g4 (putInM (F1 x (addM [] [] ((0 : Int) : Rat))) M1)) (g : Good (Of ns) (sumM (putInM (F1 x N) M1) (negM (putInM (F1 x (addM [] [] ((0 : Int) : Rat))) M1)))) :
    eqM (totalM x (sumM (putInM (F1 x (sumM [([(x, 1)], 1)] (addM [] [] ((1 : Int) : Rat)))) M1) (negM M1)) N) (sumM (putInM (F1 x N) M1) (negM (putInM (F1 x (addM [] [] ((0 : Int) : Rat))) M1))) = true := by
  obtain ⟨q0, q1, q2, q3, q4, b1⟩ := h1.byX x
  have c1 := (Sm.num ns 1 (Nat.le_refl _)).can
  have c0 := (Sm.num ns 0 (Nat.le_refl _)).can
  have sx : AllP Canon (sumM [([(x, 1)], 1)] (addM [] [] ((1 : Int) : Rat))) := AllP.sum _ (Sm.name hx).can c1
  have b3 := b1.shift (v := (1 : PR)) (XF.num x 1)
  have e3 := put_of (hr := P1.can) sx b1
  have es : mkR (sumM [([(x, 1)], 1)] (addM [] [] ((1 : Int) : Rat))) sx = Xr x + 1 := by
    rw [mk_sum (hM := (Sm.name hx).can) (hN := c1) (Sm.name hx).fit.nd, mk_num 1]
    rfl
  rw [es] at e3
  rw [← e3] at b3
  have m1 : XF x (-1 : PR) := by
    have z := XF.cst x ((-1 : Int) : Rat)
    have y : cst ((-1 : Int) : Rat) = (-1 : PR) := by
      show cst (-1) = -cst 1
      exact cst_neg 1
    rwa [y] at z
  have b4 := b3.add (b1.scale m1)
  have e4 : mkR (sumM (putInM (F1 x (sumM [([(x, 1)], 1)] (addM [] [] ((1 : Int) : Rat)))) M1) (negM M1)) hs = mkR (putInM (F1 x (sumM [([(x, 1)], 1)] (addM [] [] ((1 : Int) : Rat)))) M1) P1.can + -1 * mkR M1 h1.can := by
    rw [mk_less (hM := P1.can) (hN := h1.can) P1.fit.nd]
    grind
  rw [← e4] at b4
  refine eq_ring t.good g (hM := t.can) (hN := g.canG) ?_
  rw [mk_less (hM := P2.can) (hN := P3.can) P2.fit.nd, tot_of k.can b4, put_of k.can b1, put_of c0 b1, mk_num 0]
  exact tq_step q0 q1 q2 q3 q4 (mkR N k.can)
theorem p28_8 (hx : x ∈ ns) (k : Sm ns n3 s3 g3 N) {O : Poly} (hO : O = sumM (mulM (addM [] [] ((2 : Int) : Rat)) [([(x, 1)], 1)]) (addM [] [] ((1 : Int) : Rat))) (o : Sm ns a b c O) (t : Fit (Of ns) a' D b' (totalM x O N)) (g : Good (Of ns) (mulM N N)) : eqM (totalM x O N) (mulM N N) = true := by
  subst hO
  have c1 := (Sm.num ns 1 (Nat.le_refl _)).can
  have c2 := Sm.num ns 2 (Nat.le_refl _)
  have cx := Sm.name hx
  have b3 : ByX x (mkR (sumM (mulM (addM [] [] ((2 : Int) : Rat)) [([(x, 1)], 1)]) (addM [] [] ((1 : Int) : Rat))) o.can) 1 2 0 0 0 (Xr x) := by
    refine ⟨?_, XF.num x 1, XF.num x 2, XF.num x 0, XF.num x 0, XF.num x 0⟩
    rw [mk_sum (hM := (c2.mul cx).can) (hN := c1) (c2.mul cx).fit.nd, ← mk_mul c2.can cx.can, mk_num 1, mk_num 2]
    show (2 : PR) * Xr x + 1 = _
    grind
  refine eq_ring t.good g (hM := t.can) (hN := g.canG) ?_
  rw [← mk_mul k.can k.can, tot_of k.can b3, tq_odd]
theorem p28_9 (hx : x ∈ ns) (k : Sm ns n3 s3 g3 N) (o : Sm ns a b c (mulM [([(x, 1)], 1)] (mulM [([(x, 1)], 1)] [([(x, 1)], 1)]))) (t : Fit (Of ns) a' D b' (totalM x (mulM [([(x, 1)], 1)] (mulM [([(x, 1)], 1)] [([(x, 1)], 1)])) N)) (t1 : Fit (Of ns) n1 D' s1 (totalM x [([(x, 1)], 1)] N)) (g : Good (Of ns) (mulM (totalM x [([(x, 1)], 1)] N) (totalM x [([(x, 1)], 1)] N))) :
    eqM (totalM x (mulM [([(x, 1)], 1)] (mulM [([(x, 1)], 1)] [([(x, 1)], 1)])) N) (mulM (totalM x [([(x, 1)], 1)] N) (totalM x [([(x, 1)], 1)] N)) = true := by
  have cx := Sm.name hx
  have z0 := XF.num x 0
  have z1 := XF.num x 1
  have b3 : ByX x (mkR (mulM [([(x, 1)], 1)] (mulM [([(x, 1)], 1)] [([(x, 1)], 1)])) o.can) 0 0 0 1 0 (Xr x) := by
    refine ⟨?_, z0, z0, z0, z1, z0⟩
    rw [← mk_mul cx.can (cx.mul cx).can, ← mk_mul cx.can cx.can]
    show Xr x * (Xr x * Xr x) = _
    grind
  have b1 : ByX x (mkR [([(x, 1)], 1)] cx.can) 0 1 0 0 0 (Xr x) := by
    refine ⟨?_, z0, z1, z0, z0, z0⟩
    show Xr x = _
    grind
  refine eq_ring t.good g (hM := t.can) (hN := g.canG) ?_
  rw [← mk_mul t1.can t1.can, tot_of k.can b3, tot_of k.can b1, tq_cube]
end
/-! ### one sum, as often as the other tells: many parts, but of few products -/
theorem crossM_partsC {A1 A2 B : Pr → Prop} {M N : Poly} {D E : Nat} (hM : ∀ x ∈ M, A1 x.1 ∧ Whole D x.2) (hN : ∀ x ∈ N, A2 x.1 ∧ Whole E x.2) (hA : ∀ a b, A1 a → A2 b → B (joinP a b)) : ∀ x ∈ crossM M N, B x.1 ∧ Whole (D * E) x.2 := by
  intro z hz
  obtain ⟨x, hx, hz⟩ := List.mem_flatMap.mp hz
  obtain ⟨y, hy, e⟩ := List.mem_map.mp hz
  subst e
  exact ⟨hA _ _ (hM x hx).1 (hN y hy).1, ((hM x hx).2.mul (hN y hy).2).1⟩
section
variable {P : Program} {w : World} {K : PySem.W.Frag} {mg : Str → Option Value} {base : Heap} {C : Addr}
def spTimedC (K : PySem.W.Frag) (w : World) (C : Addr) : Sp := fun vs H Q _ => ∃ (p q : Addr) (M N : Poly) (A1 A2 B : Pr → Prop) (n m D E S R : Nat), vs = [.ref p, .ref q] ∧ SumAt K w C H p M ∧ SumAt K w C H q N ∧ Fit A1 n D S M ∧ Fit A2 m E R N ∧ 0 < D ∧ 0 < E ∧ D * E < big ∧ S < big ∧ R < big ∧ S * R < big ∧ (∀ L : Poly, Good B L → L.length < sizeLine) ∧
  (∀ a b, A1 a → A2 b → B (joinP a b)) ∧ (∀ a, A1 a → Canon a ∧ a.length < 32) ∧ (∀ a, A2 a → Canon a ∧ a.length < 32) ∧ ∀ x H', SumAt K w C H' x (mulM M N) → Same H H' → H x = none → Q (.ref x) H'
theorem ok_timedC {f : Addr} {fd : FuncData} (T : Txt K mg C) (F : DefAt K mg "timed" "timed" s_timed ["one", "other"] f fd) : FnOk P w K mg base CX0 4 f fd ["one", "other"] (spTimedC K w C) := by
  obtain ⟨f1, fd1, D_put_to⟩ := T.d_put_to
  have G_put_to : FnOk P w K mg base CX0 3 f1 fd1 ["shares", "key", "part"] (spPut K w) := ok_put_to T D_put_to
  obtain ⟨f3, fd3, D_times⟩ := T.d_times
  have G_times : FnOk P w K mg base CX0 2 f3 fd3 ["one", "other"] (spRat K (· * ·)) := ok_times T D_times
  obtain ⟨f4, fd4, D_joined⟩ := T.d_joined
  have G_joined : FnOk P w K mg base CX0 1 f4 fd4 ["one", "other"] (spJoin K) := ok_joined T D_joined
  obtain ⟨f2, fd2, M_Sum, FI, b_Sum_init⟩ := T.mk_Sum
  have G_Sum_init : FnOk P w K mg base CX0 1 f2 fd2 ["self", "parts"] (spInit K w C) := ok_Sum_init T FI
  refine F.F.ok sc_timed (fun vs H Q E h => ?_) (fun cdv A outer s H vs Q E hr h => ?_)
  · obtain ⟨p, q, M, N, A1, A2, B, n, m, D, E, S, R, rfl, _⟩ := h
    rfl
  · obtain ⟨p, q, M, N, A1, A2, B, n, m, D, E', S, R, rfl, ap, aq, fM, fN, hD, hE, hDE, hS, hR, hSR, hcap, hB, hC1, hC2, k⟩ := h
    obtain ⟨dx, d1, o1, L1, e1, n1, r1⟩ := id ap
    obtain ⟨dy, d2, o2, L2, e2, n2, r2⟩ := id aq
    have l1 : L1.length = M.length := Paired.length r1
    have l2 : L2.length = N.length := Paired.length r2
    have hD0 : D < big := Nat.lt_of_le_of_lt (Nat.le_mul_of_pos_right D hE) hDE
    have hE0 : E' < big := Nat.lt_of_le_of_lt (Nat.le_mul_of_pos_left E' hD) hDE
    have cp := crossM_partsC fM.parts fN.parts hB
    have csz : szM (D * E') (crossM M N) ≤ S * R := by rw [szM_cross fM.wh fN.wh]; exact Nat.mul_le_mul fM.sz fN.sz
    have cln : (crossM M N).length ≤ n * m := by rw [crossM_len]; exact Nat.mul_le_mul fM.len fN.len
    refine ⟨_, (pss_cons (ps_set (i := 2) sc_timed.nd rfl (.inl rfl) pe_newN)
      (pss_cons (ps_for PassesOwn.never rfl (pi_itemsN (pe_fld (pv 0) rfl)) (pg_tup (by rfl) (pgs_cons (pg_name (i := 3) sc_timed.nd rfl (.inl rfl)) (pgs_cons (pg_name (i := 4) sc_timed.nd rfl (.inl rfl)) pgs_nil))) (pss_one (ps_for PassesOwn.never rfl (pi_itemsN (pe_fld (pv 1) rfl)) (pg_tup (by rfl) (pgs_cons (pg_name (i := 5) sc_timed.nd rfl (.inl rfl)) (pgs_cons (pg_name (i := 6) sc_timed.nd rfl (.inl rfl)) pgs_nil))) (pss_one (ps_expr (pe_call G_put_to (hr.mono (by decide)) (by rfl) D_put_to.g D_put_to.F.kp D_put_to.b .nil pass0 (pa_cons (pv 2) (pa_cons (pe_call G_joined (hr.mono (by decide)) (by rfl) D_joined.g D_joined.F.kp D_joined.b .nil pass0 (pa_cons (pv 3) (pa_cons (pv 5) pa_nil))) (pa_cons (pe_call G_times (hr.mono (by decide)) (by rfl) D_times.g D_times.F.kp D_times.b .nil pass0 (pa_cons (pv 4) (pa_cons (pv 6) pa_nil))) pa_nil)))))))))
      (pss_one (ps_ret (pe_make M_Sum G_Sum_init (hr.mono (by decide)) (by rfl) T.g_Sum b_Sum_init .nil pass0 (pa_cons (pv 2) pa_nil)))))), ?_⟩
    intro D' nD sD
    have s0 : Same H (upd H D' (ndO w D' [])) := same_upd nD
    have e0 : (upd H D' (ndO w D' [])) D' = some (ndO w D' []) := upd_same
    have nd0 : ND K w (upd H D' (ndO w D' [])) D' [] := .new sD
    have n1' := n1.stay (.same s0) fun o e => s0 _ _ e
    have n2' := n2.stay (.same s0) fun o e => s0 _ _ e
    have r1' := r1.stay (.same s0)
    have r2' := r2.stay (.same s0)
    have e1' := s0 _ _ e1
    have e2' := s0 _ _ e2
    refine ⟨_, rfl, p, C, dx, _, _, rfl, e1', T.cl_Sum, T.n_Sum_parts, sumF_parts _, d1, o1, L1, rfl, n1', for_itemsN (fun i σ H3 => ∃ v3 v4 v5 v6 : Option V, σ = [some (.ref p), some (.ref q), some (.ref D'), v3, v4, v5, v6] ∧ PartsAt K w H3 D' (sumM [] (crossM (M.take i) N)) ∧ Else D' (upd H D' (ndO w D' [])) H3)
      ⟨none, none, none, none, rfl, ⟨[], nd0, .nil⟩, .refl _ _⟩ (fun i σ H3 _ ⟨_, _, _, _, _, _, z⟩ => PartsAt.elseNF n1' nd0 z) ?_ ?_⟩
    · rintro i kk v σ H3 Tt b hL ⟨v3, v4, v5, v6, rfl, pM, el⟩ nT hb
      obtain ⟨x, r, hMi, rfl, hq⟩ := r1'.at_ hL
      have memM : (kk, r) ∈ M := List.mem_of_getElem? hMi
      have sT : Same H3 (upd H3 Tt (.tup [.ref b, .ref x])) := same_upd nT
      refine ⟨Tt, [.ref b, .ref x], rfl, SqT.of upd_same, rfl, _, [.ref x], rfl, _, [], rfl, rfl, ?_⟩
      have el3 : Else D' (upd H D' (ndO w D' [])) (upd H3 Tt (.tup [.ref b, .ref x])) := el.same sT
      have hb3 : ProdAt K (upd H3 Tt (.tup [.ref b, .ref x])) b kk := hb.stay (.same sT)
      have hq3 : SqT K (upd H3 Tt (.tup [.ref b, .ref x])) x (ratV r) := SqT.keeps hq (el3.tups e0 True.intro)
      have p3 := pM.stay (.same sT) fun u e => sT _ _ e
      generalize (upd H3 Tt (.tup [.ref b, .ref x])) = H4 at el3 hb3 hq3 p3
      obtain ⟨L3, nd3, r3⟩ := id p3
      obtain ⟨xs3, ed3, na3⟩ := id nd3
      have n24 := PartsAt.elseNF n2' nd0 el3
      have pq2 : q ≠ D' := ne_of e2' e0 (by intro z; cases z)
      refine ⟨_, rfl, q, C, dy, _, _, rfl, el3 _ _ e2' pq2, T.cl_Sum, T.n_Sum_parts, sumF_parts _, d2, o2, L2, rfl, n24, for_itemsN (fun j σ H5 => ∃ v5 v6 : Option V, σ = [some (.ref p), some (.ref q), some (.ref D'), some (.ref b), some (.ref x), v5, v6] ∧ PartsAt K w H5 D' (sumM [] (crossM (M.take i) N ++ (rowM (kk, r) N).take j)) ∧ Else D' H4 H5)
        ⟨v5, v6, rfl, by rw [List.take_zero, List.append_nil]; exact p3, .refl _ _⟩ (fun j σ H5 _ ⟨_, _, _, _, z⟩ => PartsAt.elseNF n24 nd3 z) ?_ ?_⟩
      · rintro j k2 v2 σ H5 Tu b2 hL2 ⟨v5, v6, rfl, pM2, el5⟩ nU hb2
        obtain ⟨x2, r2r, hNj, rfl, hq2⟩ := r2'.at_ hL2
        have memN : (k2, r2r) ∈ N := List.mem_of_getElem? hNj
        have sU : Same H5 (upd H5 Tu (.tup [.ref b2, .ref x2])) := same_upd nU
        refine ⟨Tu, [.ref b2, .ref x2], rfl, SqT.of upd_same, rfl, _, [.ref x2], rfl, _, [], rfl, rfl, ?_⟩
        have el6 : Else D' H4 (upd H5 Tu (.tup [.ref b2, .ref x2])) := el5.same sU
        have t46 : TupsStay H4 (upd H5 Tu (.tup [.ref b2, .ref x2])) := el6.tups ed3 True.intro
        have t26 : TupsStay (upd H D' (ndO w D' [])) (upd H5 Tu (.tup [.ref b2, .ref x2])) := (el3.trans el6).tups e0 True.intro
        have hb6 : ProdAt K (upd H5 Tu (.tup [.ref b2, .ref x2])) b kk := hb3.stay t46
        have hq6 : SqT K (upd H5 Tu (.tup [.ref b2, .ref x2])) x (ratV r) := SqT.keeps hq3 t46
        have hb26 : ProdAt K (upd H5 Tu (.tup [.ref b2, .ref x2])) b2 k2 := hb2.stay (.same sU)
        have hq26 : SqT K (upd H5 Tu (.tup [.ref b2, .ref x2])) x2 (ratV r2r) := SqT.keeps hq2 t26
        have p6 := pM2.stay (.same sU) fun u e => sU _ _ e
        generalize (upd H5 Tu (.tup [.ref b2, .ref x2])) = H6 at el6 hb6 hq6 hb26 hq26 p6
        have a1 := hC1 _ (fM.parts _ memM).1
        have a2 := hC2 _ (fN.parts _ memN).1
        refine ⟨_, rfl, _, rfl, _, rfl, b, b2, kk, k2, rfl, hb6, hb26, a1.1, a2.1, Nat.lt_of_lt_of_le (Nat.add_lt_add a1.2 a2.2) (by decide), fun jr H7 pj s67 => ?_⟩
        have wr := fM.one (x := (kk, r)) memM
        have wr2 := fN.one (x := (k2, r2r)) memN
        refine ⟨_, rfl, _, rfl, x, x2, r, r2r, 4000, 4000, rfl, SqT.keeps hq6 (TupsStay.same s67), SqT.keeps hq26 (TupsStay.same s67), .small hD hD0 wr.1 (Nat.lt_of_le_of_lt wr.2 hS), .small hE hE0 wr2.1 (Nat.lt_of_le_of_lt wr2.2 hR), by decide, by decide, by decide, fun t H8 s78 nt et => ?_⟩
        have s68 := s67.trans s78
        have at3 : (rowM (kk, r) N)[j]? = some (joinP kk k2, r * r2r) := rowM_at hNj
        have pre1 : crossM (M.take i) N ++ (rowM (kk, r) N).take (j + 1) <+: crossM M N := by
          refine List.IsPrefix.trans ?_ (crossM_pre M N (i + 1))
          rw [crossM_take hMi]
          exact (List.prefix_append_right_inj _).mpr (List.take_prefix _ _)
        have mem3 : (joinP kk k2, r * r2r) ∈ crossM M N := pre1.subset (List.mem_append_right _ (by rw [List.take_add_one, at3]; simp))
        have pre0 : crossM (M.take i) N ++ (rowM (kk, r) N).take j <+: crossM M N := by
          refine List.IsPrefix.trans ?_ (crossM_pre M N (i + 1))
          rw [crossM_take hMi]
          exact (List.prefix_append_right_inj _).mpr (List.take_prefix _ _)
        have fi := Fit.sum (crossM (M.take i) N ++ (rowM (kk, r) N).take j) (Fit.nil (A := B) (n := 0) (D := D * E') (S := 0)) fun y hy => cp y (pre0.subset hy)
        have fi : Fit B (sumM [] (crossM (M.take i) N ++ (rowM (kk, r) N).take j)).length _ _ _ := ⟨fi.good, Nat.le_refl _, fi.wh, fi.sz⟩
        have capi := hcap _ fi.good
        have sp := szM_pre (D := D * E') pre0
        have mg3 : mag (D * E') (r * r2r) ≤ szM (D * E') (crossM M N) := mag_le_szM (x := (joinP kk k2, r * r2r)) mem3
        refine ⟨D', jr, t, joinP kk k2, r * r2r, _, B, _, D * E', _, rfl, p6.stay (.same s68) fun u e => s68 _ _ e, fi, pj.stay (.same s78), SqT.of et, (cp _ mem3).2, Nat.mul_pos hD hE, hDE, by omega, by omega, by omega, fun H' pM' el' => ?_⟩
        refine ⟨_, _, rfl, ?_, (el6.same s68).trans el'⟩
        rw [List.take_add_one, at3, ← List.append_assoc, sumM_append]
        exact pM'
      · rintro σ H5 ⟨v5, v6, rfl, pM2, el5⟩
        rw [l2, ← rowM_len (kk, r) N, List.take_length, ← crossM_take hMi] at pM2
        exact ⟨_, _, _, _, rfl, pM2, el3.trans el5⟩
    · rintro σ H3 ⟨v3, v4, v5, v6, rfl, pM, el⟩
      rw [l1, List.take_length] at pM
      have s3 : Same H H3 := Else.fresh nD s0 el
      refine ⟨_, rfl, fun x dx nx ndx nex => ⟨x, dx, D', _, rfl, upd_same, pM.made nx ndx, fun H4 sA kp => ⟨rfl, ?_⟩⟩⟩
      exact k x H4 sA (s3.trans (Same.made nx ndx kp)) (s3.free nx)
end
/-! ### how many products there are of so many names, up to a power -/
def OfG (ns : List Str) (g : Nat) (p : Pr) : Prop := Of ns p ∧ degP p ≤ g
def vecs (g : Nat) : Nat → List (List Nat)
  | 0 => [[]]
  | k + 1 => (List.range (g + 1)).flatMap fun i => (vecs g k).map fun v => i :: v
theorem flat_len {α β : Type} (f : α → List β) (n : Nat) : ∀ {l : List α}, (∀ x ∈ l, (f x).length = n) → (l.flatMap f).length = l.length * n
  | [], _ => by
    rw [List.flatMap_nil, List.length_nil, List.length_nil, Nat.zero_mul]
  | x :: r, h => by
    rw [List.flatMap_cons, List.length_append, h x (by simp), flat_len f n fun y hy => h y (by simp [hy]), List.length_cons, Nat.succ_mul, Nat.add_comm]
theorem vecs_len (g : Nat) : ∀ k, (vecs g k).length = (g + 1) ^ k
  | 0 => rfl
  | k + 1 => by
    show ((List.range (g + 1)).flatMap fun i => (vecs g k).map fun v => i :: v).length = _
    rw [flat_len _ ((g + 1) ^ k) fun i _ => by rw [List.length_map, vecs_len g k], List.length_range, Nat.pow_succ, Nat.mul_comm]
theorem vecs_mem (g : Nat) (f : Str → Nat) : ∀ {ns : List Str}, (∀ x ∈ ns, f x ≤ g) → ns.map f ∈ vecs g ns.length
  | [], _ => by simp [vecs]
  | x :: r, h => by
    have ih := vecs_mem g f (ns := r) fun y hy => h y (by simp [hy])
    show f x :: r.map f ∈ (List.range (g + 1)).flatMap fun i => (vecs g r.length).map fun v => i :: v
    exact List.mem_flatMap.mpr ⟨f x, List.mem_range.mpr (Nat.lt_succ_of_le (h x (by simp))), List.mem_map.mpr ⟨_, ih, rfl⟩⟩
theorem map_eq_at {f f' : Str → Nat} : ∀ {ns : List Str}, ns.map f = ns.map f' → ∀ x ∈ ns, f x = f' x
  | [], _, _, h => by cases h
  | y :: r, e, x, h => by
    rw [List.map_cons, List.map_cons] at e
    obtain ⟨e1, e2⟩ := List.cons.inj e
    rcases List.mem_cons.mp h with z | z
    · rw [z]
      exact e1
    · exact map_eq_at e2 x z
theorem vec_inj {ns : List Str} {p q : Pr} (hp : Of ns p) (hq : Of ns q) (e : (ns.map fun x => (expo p x).toNat) = ns.map fun x => (expo q x).toNat) : p = q := by
  refine canon_eq hp.1 hq.1 fun x => ?_
  by_cases z : x ∈ ns
  · have a := map_eq_at e x z
    have b := expo_nonneg hp.1.one x
    have c := expo_nonneg hq.1.one x
    omega
  · rw [expo_zero fun e he q => z (by rw [← q]; exact hp.2 e he), expo_zero fun e he r => z (by rw [← r]; exact hq.2 e he)]
theorem count {ns : List Str} {g : Nat} {L : Poly} (h : Good (OfG ns g) L) : L.length ≤ (g + 1) ^ ns.length := by
  have n1 : (L.map fun y => ns.map fun x => (expo y.1 x).toNat).Nodup := by
    have nd := h.nd
    rw [List.nodup_iff_pairwise_ne, List.pairwise_map] at nd ⊢
    exact List.Pairwise.imp_of_mem (fun {a b} ha hb ne q => ne (vec_inj (h.pr a ha).1 (h.pr b hb).1 q)) nd
  have z := nodup_len (m := vecs g ns.length) n1 fun v hv => by
    obtain ⟨y, hy, rfl⟩ := List.mem_map.mp hv
    refine vecs_mem g _ fun x _ => Nat.le_trans ?_ (h.pr y hy).2
    exact expo_deg (h.pr y hy).1.1 x
  rw [List.length_map, vecs_len] at z
  exact z
theorem OfG.join {ns : List Str} {g k : Nat} {a b : Pr} (ha : OfG ns g a) (hb : OfG ns k b) : OfG ns (g + k) (joinP a b) := ⟨ha.1.join hb.1, by rw [degP_join hb.1.1 ha.1.1.one]; exact Nat.add_le_add ha.2 hb.2⟩
theorem OfG.up {ns : List Str} {g k : Nat} (h : g ≤ k) {a : Pr} (ha : OfG ns g a) : OfG ns k a := ⟨ha.1, Nat.le_trans ha.2 h⟩
theorem Fit.lo {ns : List Str} {n D S g : Nat} {M : Poly} (h : Fit (Of ns) n D S M) (l : AllP (Lo g) M) : Fit (OfG ns g) n D S M := ⟨⟨h.good.nd, h.good.nz, fun x hx => ⟨h.good.pr x hx, (l x hx).2⟩⟩, h.len, h.wh, h.sz⟩
theorem Fit.few {A : Pr → Prop} {n D S c : Nat} {M : Poly} (h : Fit A n D S M) (k : M.length ≤ c) : Fit A c D S M := ⟨h.good, k, h.wh, h.sz⟩
theorem Fit.imp {A B : Pr → Prop} {n D S : Nat} {M : Poly} (h : Fit A n D S M) (k : ∀ p, A p → B p) : Fit B n D S M := ⟨⟨h.good.nd, h.good.nz, fun x hx => k _ (h.good.pr x hx)⟩, h.len, h.wh, h.sz⟩
/-- products of a total's parts keep to the power of what is totalled -/
theorem addT_all {A : Pr → Prop} {T : Tot} (h : ∀ e ∈ T, AllP A e.2) {k : Pr} (hk : A k) (j : Int) (r : Rat) : ∀ e ∈ addT T j k r, AllP A e.2 := by
  unfold addT
  by_cases a : (T.any fun e => decide (e.1 = j)) = true
  · rw [if_pos a]
    intro e he
    obtain ⟨f, hf, rfl⟩ := List.mem_map.mp he
    split
    · exact (h f hf).mem_add hk r
    · exact h f hf
  · rw [if_neg a]
    intro e he
    rcases List.mem_append.mp he with z | z
    · exact h e z
    · rw [show e = (j, addM [] k r) by simpa using z]
      exact AllP.nil.mem_add hk r
theorem rowT_all {A : Pr → Prop} {x : Str} {y : Pr × Rat} (hk : A (restP x y.1)) : ∀ (R : List (Int × Rat)) {T : Tot}, (∀ e ∈ T, AllP A e.2) → ∀ e ∈ rowT x y R T, AllP A e.2
  | [], _, h => h
  | e :: r, _, h => rowT_all hk r (addT_all h hk e.1 _)
theorem totT_all {A : Pr → Prop} {x : Str} : ∀ (M : Poly) {T : Tot}, (∀ y ∈ M, A (restP x y.1)) → (∀ e ∈ T, AllP A e.2) → ∀ e ∈ M.foldl (fun T y => rowT x y (rowS (expo y.1 x).toNat) T) T, AllP A e.2
  | [], _, _, h => h
  | y :: r, _, hM, h => totT_all r (fun z hz => hM z (by simp [hz])) (rowT_all (hM y (by simp)) _ h)
theorem lo_rest {x : Str} {g : Nat} {p : Pr} (h : Lo g p) : Lo g (restP x p) := ⟨(FreeX.rest h.1).1, Nat.le_trans (degP_filterG _ _) h.2⟩
theorem totT_lo {x : Str} {g : Nat} {M : Poly} (h : AllP (Lo g) M) : ∀ e ∈ totT x M, AllP (Lo g) e.2 := totT_all M (fun y hy => lo_rest (h y hy)) fun e he => absurd he (List.not_mem_nil)
/-! ### totals of many parts, but of few products -/
structure AccFitC (ns : List Str) (n D S g n' S' g' : Nat) (N : Poly) (T : Tot) : Prop where
  pw : PowFit ns n' 1 S' 9 N
  lo : AllP (Lo g') N
  each : ∀ e ∈ T, Fit (OfG ns g) n D S e.2 ∧ 1 ≤ e.1 ∧ e.1 ≤ 9
  len : T.length ≤ 9
theorem AccFitC.mul {ns : List Str} {n D S g n' S' g' : Nat} {N : Poly} {T : Tot} (h : AccFitC ns n D S g n' S' g' N T) {e : Int × Poly} (he : e ∈ T) : Fit (OfG ns (g + g' * 9)) ((g + g' * 9 + 1) ^ ns.length) D (S * S' ^ 9) (mulM e.2 (powM N e.1.toNat)) := by
  obtain ⟨a, b, c⟩ := h.each e he
  have k : e.1.toNat ≤ 9 := by omega
  have z := (a.imp fun p q => q.1).mul (fit_pow h.pw.fit e.1.toNat) fun _ _ => Of.join
  rw [Nat.one_pow, Nat.mul_one] at z
  have l : AllP (Lo (g + g' * 9)) (mulM e.2 (powM N e.1.toNat)) := AllP.mul (A := Lo g) (fun x hx => ⟨(a.good.pr x hx).1.1, (a.good.pr x hx).2⟩) ((lo_powG h.lo e.1.toNat).imp fun _ => Lo.up (Nat.mul_le_mul_left _ k)) fun _ _ x y => x.join y
  have y := z.lo l
  exact (y.few (count y.good)).mono (Nat.le_refl _) (Nat.mul_le_mul_left _ (pow_up h.pw.s1 k))
theorem AccFitC.acc {ns : List Str} {n D S g n' S' g' : Nat} {N : Poly} : ∀ {T : Tot}, AccFitC ns n D S g n' S' g' N T → ∀ i, Fit (OfG ns (g + g' * 9)) ((g + g' * 9 + 1) ^ ns.length) D (i * (S * S' ^ 9)) (accT N (T.take i)) := fun {T} h i => by
  induction i with
  | zero =>
    rw [List.take_zero]
    exact Fit.nil
  | succ i ih =>
    cases he : T[i]? with
    | none =>
      have l := List.getElem?_eq_none_iff.mp he
      rw [List.take_of_length_le l] at ih
      rw [List.take_of_length_le (by omega)]
      exact ih.mono (Nat.le_refl _) (Nat.mul_le_mul_right _ (by omega))
    | some e =>
      rw [accT_take he]
      have m := h.mul (List.mem_of_getElem? he)
      have z := Fit.sum (mulM e.2 (powM N e.1.toNat)) ih m.parts
      refine (z.few (count z.good)).mono (Nat.le_refl _) ?_
      rw [Nat.add_mul, Nat.one_mul]
      exact Nat.add_le_add_left m.sz _
section
variable {P : Program} {w : World} {K : PySem.W.Frag} {mg : Str → Option Value} {base : Heap} {C : Addr}
/-- all that a total asks -/
structure TotOkC (ns : List Str) (m S g n' S' g' : Nat) (x : Str) (M N : Poly) : Prop where
  tf : TotFit ns m S x M
  pw : PowFit ns n' 1 S' 9 N
  lo : AllP (Lo g) M
  lo2 : AllP (Lo g') N
  cap : 2 * (g + g' * 9 + 1) ^ ns.length < sizeLine
  sb : 9 * (m * 10 * (S * 2520) * S' ^ 9) < big
def spTotalledC (K : PySem.W.Frag) (w : World) (C : Addr) : Sp := fun vs H Q _ => ∃ (p b : Addr) (x : Str) (M N : Poly) (ns : List Str) (m S g n' S' g' : Nat), vs = [.ref p, .str x, .ref b] ∧ SumAt K w C H p M ∧ SumAt K w C H b N ∧ TotOkC ns m S g n' S' g' x M N ∧
  ∀ r H', SumAt K w C H' r (totalM x M N) → Fit (OfG ns (g + g' * 9)) ((g + g' * 9 + 1) ^ ns.length) 2520 (9 * (m * 10 * (S * 2520) * S' ^ 9)) (totalM x M N) → Same H H' → H r = none → Q (.ref r) H'
theorem ok_totalledC {f : Addr} {fd : FuncData} (T : Txt K mg C) (F : DefAt K mg "totalled" "totalled" s_totalled ["given", "x", "many"] f fd) : FnOk P w K mg base CX0 7 f fd ["given", "x", "many"] (spTotalledC K w C) := by
  obtain ⟨f1, fd1, D_totals_by_power⟩ := T.d_totals_by_power
  have G_totals_by_power : FnOk P w K mg base CX0 6 f1 fd1 ["given", "x"] (spTotals K w C) := ok_totals_by_power T D_totals_by_power
  obtain ⟨f3, fd3, D_powers_of⟩ := T.d_powers_of
  have G_powers_of : FnOk P w K mg base CX0 5 f3 fd3 ["base", "wanted"] (spPowers K w C) := ok_powers_of T D_powers_of
  obtain ⟨f4, fd4, D_put_all_to⟩ := T.d_put_all_to
  have G_put_all_to : FnOk P w K mg base CX0 4 f4 fd4 ["parts", "other"] (spPutAll K w C) := ok_put_all_to T D_put_all_to
  obtain ⟨f5, fd5, D_timed⟩ := T.d_timed
  have G_timed : FnOk P w K mg base CX0 4 f5 fd5 ["one", "other"] (spTimedC K w C) := ok_timedC T D_timed
  obtain ⟨f2, fd2, M_Sum, FI, b_Sum_init⟩ := T.mk_Sum
  have G_Sum_init : FnOk P w K mg base CX0 1 f2 fd2 ["self", "parts"] (spInit K w C) := ok_Sum_init T FI
  refine F.F.ok sc_totalled (fun vs H Q E h => ?_) (fun cdv A outer s H vs Q E hr h => ?_)
  · obtain ⟨p, b, x, M, N, ns, m, S, g, n', S', g', rfl, _⟩ := h
    rfl
  · obtain ⟨p, b, x, M, N, ns, m, S, gg, n', S', g', rfl, SM, SN, ok, q⟩ := h
    refine ⟨_, (pss_cons (ps_set (i := 3) sc_totalled.nd rfl (.inl rfl) (pe_call G_totals_by_power (hr.mono (by decide)) (by rfl) D_totals_by_power.g D_totals_by_power.F.kp D_totals_by_power.b .nil pass0 (pa_cons (pv 0) (pa_cons (pv 1) pa_nil))))
      (pss_cons (ps_set (i := 4) sc_totalled.nd rfl (.inl rfl) (pe_call G_powers_of (hr.mono (by decide)) (by rfl) D_powers_of.g D_powers_of.F.kp D_powers_of.b .nil pass0 (pa_cons (pv 2) (pa_cons (pe_callB (cr_sortedDI rfl) (by rfl) T.m_sorted (by decide +kernel) (pa_cons (pv 3) pa_nil)) pa_nil))))
      (pss_cons (ps_set (i := 5) sc_totalled.nd rfl (.inl rfl) pe_newN)
      (pss_cons (ps_lock (ps_for PassesOwn.never rfl (pi_keys (pv 3)) (pg_name (i := 6) sc_totalled.nd rfl (.inl rfl)) (pss_one (ps_expr (pe_call G_put_all_to (hr.mono (by decide)) (by rfl) D_put_all_to.g D_put_all_to.F.kp D_put_all_to.b .nil pass0 (pa_cons (pv 5) (pa_cons (pe_call G_timed (hr.mono (by decide)) (by rfl) D_timed.g D_timed.F.kp D_timed.b .nil pass0 (pa_cons (pe_make M_Sum G_Sum_init (hr.mono (by decide)) (by rfl) T.g_Sum b_Sum_init .nil pass0 (pa_cons (pe_dget (room1 hr) (pv 3) (pv 6) (fun _ _ => rfl)) pa_nil)) (pa_cons (pe_dget (room1 hr) (pv 4) (pv 6) (fun _ _ => rfl)) pa_nil))) pa_nil)))))))
      (pss_one (ps_ret (pe_make M_Sum G_Sum_init (hr.mono (by decide)) (by rfl) T.g_Sum b_Sum_init .nil pass0 (pa_cons (pv 5) pa_nil)))))))), ?_⟩
    refine ⟨_, rfl, _, rfl, p, x, M, ns, m, S, rfl, SM, ok.tf, fun D W H1 TA ePu fits s1 n1 => ?_⟩
    have SN1 := SN.same s1
    have lW : W.length ≤ 9 := by
      have z := nodup_len (m := [1, 2, 3, 4, 5, 6, 7, 8, 9]) TA.nd fun k hk => by
        obtain ⟨f, hf, rfl⟩ := List.mem_map.mp hk
        have := (fits f hf).2
        simp only [List.mem_cons, List.not_mem_nil, or_false]
        omega
      rw [List.length_map] at z
      exact z
    have AF : AccFitC ns (m * 10) 2520 (m * 10 * (S * 2520)) gg n' S' g' N (totT x M) := by
      rw [← ePu]
      refine ⟨ok.pw, ok.lo2, fun e he => ?_, by rw [show (pureT W).length = W.length from List.length_map ..]; exact lW⟩
      have el : AllP (Lo gg) e.2 := totT_lo ok.lo e (by rw [← ePu]; exact he)
      obtain ⟨g, hg, rfl⟩ := List.mem_map.mp he
      exact ⟨(fits g hg).1.lo el, (fits g hg).2⟩
    have kW : (tV W).map (·.1) = (W.map (·.1)).map Sum.inl := by
      unfold tV
      rw [List.map_map, List.map_map]
      rfl
    refine ⟨_, rfl, _, rfl, D, tV W, W.map (·.1), rfl, TA.d, kW, fun ks sl pm pw nsl => ?_⟩
    have s2 : Same H1 (upd H1 sl (.lst (ks.map V.int))) := same_upd nsl
    have esl : (upd H1 sl (.lst (ks.map V.int))) sl = some (.lst (ks.map V.int)) := upd_same
    have TA2 := TA.same s2
    have SN2 := SN1.same s2
    have s02 := s1.trans s2
    generalize (upd H1 sl (.lst (ks.map V.int))) = H2 at s2 esl TA2 SN2 s02
    have memk : ∀ k, k ∈ ks ↔ ∃ e ∈ W, e.1 = k := fun k => by
      rw [pm.mem_iff, List.mem_map]
    refine ⟨b, sl, N, ns, n', 1, S', 9, ks, rfl, SN2, esl, pw, fun k hk => ?_, ?_, ok.pw, by decide, fun pr H3 PA s3 n3 => ?_⟩
    · obtain ⟨e, he, rfl⟩ := (memk k).mp hk
      exact (fits e he).2
    · rw [pm.length_eq, List.length_map]
      omega
    intro t nt st
    have s4 : Same H3 (upd H3 t (ndO w t [])) := same_upd nt
    have TA4 := (TA2.same s3).same s4
    have p4 : PartsAt K w (upd H3 t (ndO w t [])) t [] := .new st
    refine ⟨D, _, TA4.d, True.intro, fun od => ?_⟩
    have elL : Else D (upd H3 t (ndO w t [])) (upd (upd H3 t (ndO w t [])) D (.frz od (.dK (tV W)))) := .upd
    have tD : t ≠ D := fun z => by
      rw [z, (TA2.same s3).d] at nt
      cases nt
    have pL := p4.elseD elL TA4.d True.intro tD
    have PAL : ∀ e ∈ W, PartsAt K w (upd (upd H3 t (ndO w t [])) D (.frz od (.dK (tV W)))) e.2.1 e.2.2 ∧ e.2.1 ≠ t := fun e he => ⟨(TA4.at_ e he).elseD elL TA4.d True.intro (TA4.ne e he), fun z => by
      obtain ⟨L9, ⟨xs9, ed9, _⟩, _⟩ := (TA2.same s3).at_ e he
      rw [z, nt] at ed9
      cases ed9⟩
    obtain ⟨pk, epr, hpk⟩ := PA
    have prD : pr ≠ D := fun z => by
      rw [z, TA2.d] at n3
      cases n3
    have prt : pr ≠ t := ne_of_none epr nt
    have PWL : ∀ e ∈ W, ∃ g, valV pk (.inl e.1) = some (.ref g) ∧ SumAt K w C (upd (upd H3 t (ndO w t [])) D (.frz od (.dK (tV W)))) g (powM N e.1.toNat) := fun e he => by
      obtain ⟨g, g1, g2⟩ := hpk e.1 ((memk _).mpr ⟨e, he, rfl⟩)
      exact ⟨g, g1, (g2.same s4).else elL TA4.d⟩
    have eprL := elL _ _ (s4 _ _ epr) prD
    have e0 : (upd (upd H3 t (ndO w t [])) D (.frz od (.dK (tV W)))) t = some (ndO w t []) := elL _ _ upd_same tD
    have nd0 : ND K w (upd (upd H3 t (ndO w t [])) D (.frz od (.dK (tV W)))) t [] := by
      obtain ⟨L9, n9, r9⟩ := pL
      cases r9
      exact n9
    refine ⟨_, rfl, D, od, rfl, .inl ⟨tV W, upd_same, for_ks (fun i σ H5 => ∃ v6 : Option V, σ = [some (.ref p), some (.str x), some (.ref b), some (.ref D), some (.ref pr), some (.ref t), v6] ∧ PartsAt K w H5 t (accT N ((totT x M).take i)) ∧ Else t (upd (upd H3 t (ndO w t [])) D (.frz od (.dK (tV W)))) H5)
      ⟨none, rfl, pL, .refl _ _⟩ (fun i σ H5 _ ⟨_, _, _, z⟩ => z _ _ upd_same tD.symm) ?_ ?_⟩⟩
    · rintro i k' v σ H5 hL ⟨v6, rfl, p5, el5⟩
      obtain ⟨e, hei, rfl, rfl⟩ : ∃ e, W[i]? = some e ∧ k' = .inl e.1 ∧ v = .ref e.2.1 := by
        unfold tV at hL
        rw [List.getElem?_map] at hL
        obtain ⟨e, he, z⟩ := Option.map_eq_some_iff.mp hL
        cases z
        exact ⟨e, he, rfl, rfl⟩
      have he : e ∈ W := List.mem_of_getElem? hei
      have eT : (totT x M)[i]? = some (e.1, e.2.2) := by
        rw [← ePu]
        unfold pureT
        rw [List.getElem?_map, hei]
        rfl
      have memT : (e.1, e.2.2) ∈ totT x M := List.mem_of_getElem? eT
      have hi : i < (totT x M).length := (List.getElem?_eq_some_iff.mp eT).1
      have i9 := AF.len
      obtain ⟨fe, e1, e9⟩ := AF.each _ memT
      obtain ⟨pe, net⟩ := PAL e he
      have pe5 := pe.elseD el5 e0 True.intro net
      have g3 : DGet H5 D (kV (.inl e.1)) (some (.ref e.2.1)) := .inl ⟨tV W, .inl e.1, .inr ⟨od, el5 _ _ upd_same tD.symm⟩, rfl, (tV_val TA.nd he).symm⟩
      refine ⟨_, rfl, _, rfl, _, rfl, D, _, rfl, g3, fun y dy ny ndy ney => ⟨y, dy, e.2.1, e.2.2, rfl, upd_same, pe5.made ny ndy, fun H6 sA kp => ⟨rfl, ?_⟩⟩⟩
      have s56 : Same H5 H6 := Same.made ny ndy kp
      obtain ⟨g, g1, g2⟩ := PWL e he
      have eprH := s56 _ _ (el5 _ _ eprL prt)
      have g4 : DGet H6 pr (kV (.inl e.1)) (some (.ref g)) := by
        have z := DGet.k (k := .inl e.1) eprH
        rwa [g1] at z
      have gN5 : SumAt K w C H5 g (powM N e.1.toNat) := SumAt.elseP g2 nd0 el5
      have gN := gN5.same s56
      have fp := fit_pow ok.pw.fit e.1.toNat
      rw [Nat.one_pow] at fp
      have fp := (fp.lo ((lo_powG ok.lo2 e.1.toNat).imp fun _ => Lo.up (Nat.mul_le_mul_left _ (show e.1.toNat ≤ 9 by omega)))).few (Nat.le_refl _)
      have k9 : e.1.toNat ≤ 9 := by omega
      have ps := pow_up ok.pw.s1 k9
      have sb := ok.sb
      have q2 : m * 10 * (S * 2520) * S' ^ e.1.toNat ≤ m * 10 * (S * 2520) * S' ^ 9 := Nat.mul_le_mul_left _ ps
      have q3 : S' ^ e.1.toNat < big := Nat.lt_of_le_of_lt ps ok.pw.sb
      have q4 := ok.tf.sb
      refine ⟨_, rfl, _, rfl, pr, _, rfl, g4, y, g, e.2.2, powM N e.1.toNat, OfG ns gg, OfG ns (g' * 9), OfG ns (gg + g' * 9), _, _, 2520, 1, _, _, rfl, sA, gN, fe, fp, by decide, by decide, by decide +kernel, by omega, q3, by omega, fun L hL => Nat.lt_of_le_of_lt (count hL) (by have := ok.cap; omega), fun _ _ => OfG.join, fun a ha => ⟨ha.1.1, Nat.lt_of_le_of_lt ha.1.len ok.tf.ns⟩, fun a ha => ⟨ha.1.1, Nat.lt_of_le_of_lt ha.1.len ok.tf.ns⟩, fun r H7 Sr s7 nr => ?_⟩
      have fa := AF.acc i
      have fm : Fit (OfG ns (gg + g' * 9)) ((gg + g' * 9 + 1) ^ ns.length) 2520 (m * 10 * (S * 2520) * S' ^ 9) (mulM e.2.2 (powM N e.1.toNat)) := AF.mul memT
      have fa2 := Fit.sum (mulM e.2.2 (powM N e.1.toNat)) (AF.acc i) fm.parts
      have s57 := s56.trans s7
      have p7 := p5.stay (.same s57) fun u z => s57 _ _ z
      have il : i ≤ 8 := by omega
      have z2 : i * (m * 10 * (S * 2520) * S' ^ 9) ≤ 8 * (m * 10 * (S * 2520) * S' ^ 9) := Nat.mul_le_mul_right _ il
      have fl := fm.len
      have cap2 := ok.cap
      have fs := fm.sz
      refine ⟨t, r, _, mulM e.2.2 (powM N e.1.toNat), OfG ns (gg + g' * 9), _, 2520, _, rfl, p7, Sr, fa, fm.parts, by decide, by decide +kernel, by omega, by omega, fun H8 p8 el8 => ⟨_, rfl, ?_, (el5.same s57).trans el8⟩⟩
      rw [accT_take eT]
      exact p8
    · rintro σ H5 ⟨v6, rfl, p5, el5⟩
      have lT : (tV W).length = (totT x M).length := by
        rw [← ePu]
        unfold tV pureT
        rw [List.length_map, List.length_map]
      rw [lT, List.take_length] at p5
      have fzD : H5 D = some (.frz od (.dK (tV W))) := el5 _ _ upd_same tD.symm
      have elU : Else D H5 (upd H5 D (.dK (tV W))) := .upd
      have pU := p5.elseD elU fzD True.intro tD
      have s0U : Same H (upd H5 D (.dK (tV W))) := fun u o z => by
        have nu : u ≠ D := ne_of_none z n1
        rw [upd_ne nu]
        have z3 := s3 _ _ (s02 _ _ z)
        exact el5 _ _ (elL _ _ (s4 _ _ z3) nu) (ne_of_none z3 nt)
      refine ⟨fzD, _, rfl, fun y dy ny ndy ney => ⟨y, dy, t, _, rfl, upd_same, pU.made ny ndy, fun H6 sA kp => ⟨rfl, ?_⟩⟩⟩
      have fin := AF.acc 9
      rw [List.take_of_length_le AF.len] at fin
      exact q y H6 sA fin (s0U.trans (Same.made ny ndy kp)) (s0U.free ny)
end
/-! ### a tree at a point -/
def valT (L : Pr) : Tr → Int
  | .num n => n
  | .name x => expo L x
  | .bin o a b => match o with
    | .add => valT L a + valT L b
    | .less => valT L a - valT L b
    | .times => valT L a * valT L b
theorem valT_le {ns : List Str} {L : Pr} (hL : ∀ x, (expo L x).natAbs ≤ 1000000) : ∀ {t : Tr} {d : Nat}, TrOk ns d t → (valT L t).natAbs ≤ sT d
  | .num n, d, h => by
    have hn : n.natAbs ≤ 1000000 := by
      cases d <;> exact h
    exact Nat.le_trans hn (sT_up (d := 0) (Nat.zero_le d))
  | .name x, d, h => Nat.le_trans (hL x) (sT_up (d := 0) (Nat.zero_le d))
  | .bin o a b, 0, h => False.elim h
  | .bin o a b, d + 1, ⟨ha, hb⟩ => by
    have fa := valT_le hL ha
    have fb := valT_le hL hb
    have two := add_le_sq (sT_two d)
    cases o with
    | add =>
      show (valT L a + valT L b).natAbs ≤ sT d * sT d
      omega
    | less =>
      show (valT L a - valT L b).natAbs ≤ sT d * sT d
      omega
    | times =>
      show (valT L a * valT L b).natAbs ≤ sT d * sT d
      rw [Int.natAbs_mul]
      exact Nat.mul_le_mul fa fb
theorem sT_small {d : Nat} (h : d ≤ 3) : sT d < 2 ^ 1000 := Nat.lt_of_le_of_lt (sT_up h) (by decide +kernel)
section
variable {P : Program} {w : World} {K : PySem.W.Frag} {mg : Str → Option Value} {base : Heap} {C : Addr}
def spAt (K : PySem.W.Frag) : Nat → Sp
  | 0 => fun _ _ _ _ => False
  | d + 1 => fun vs H Q _ => ∃ (p pd : Addr) (t : Tr) (ns : List Str) (L : Pr), vs = [.ref p, .ref pd] ∧ TreeAt K H p t ∧ TrOk ns d t ∧ d ≤ 4 ∧ H pd = some (.dK (dSI L)) ∧ (L.map (·.1)).Nodup ∧ (∀ x, (expo L x).natAbs ≤ 1000000) ∧ Q (.int (valT L t)) H
theorem ok_law_at {f : Addr} {fd : FuncData} (T : Txt K mg C) (F : DefAt K mg "_law_at" "_law_at" s_law_at ["_law_tree_here", "_law_point_here"] f fd) : ∀ d, FnOk P w K mg base CX0 d f fd ["_law_tree_here", "_law_point_here"] (spAt K d)
  | 0 => ⟨fun _ _ _ _ h => False.elim h, fun _ _ _ _ _ _ _ _ _ _ _ _ _ h => False.elim h⟩
  | d + 1 => by
    have G_law_at := ok_law_at T F d
    have D_law_at := F
    refine F.F.ok sc_law_at (fun vs H Q E h => ?_) (fun cdv A outer s H vs Q E hr h => ?_)
    · obtain ⟨p, pd, t, ns, L, rfl, _⟩ := h
      rfl
    · obtain ⟨p, pd, t, ns, L, rfl, tr, ok, hd, ed, nL, hL, q⟩ := h
      refine ⟨_, (pss_cons (ps_if (pt_cmpR op_eq (pe_ix ix_tup (pv 0) pe_int (fun _ _ => rfl)) pe_str (nomark _)) (pss_one (ps_ret (pe_ix ix_tup (pv 0) pe_int (fun _ _ => rfl)))) pss_nil)
      (pss_cons (ps_if (pt_cmpR op_eq (pe_ix ix_tup (pv 0) pe_int (fun _ _ => rfl)) pe_str (nomark _)) (pss_one (ps_ret (pe_dget2 (room1 hr) (pv 1) (pe_ix ix_tup (pv 0) pe_int (fun _ _ => rfl)) pe_int ⟨rfl, rfl, rfl, rfl⟩))) pss_nil)
      (pss_cons (ps_set (i := 2) sc_law_at.nd rfl (.inl rfl) (pe_call G_law_at (hr.mono (by omega)) (by rfl) D_law_at.g D_law_at.F.kp D_law_at.b .nil pass0 (pa_cons (pe_ix ix_tup (pv 0) pe_int (fun _ _ => rfl)) (pa_cons (pv 1) pa_nil))))
      (pss_cons (ps_set (i := 3) sc_law_at.nd rfl (.inl rfl) (pe_call G_law_at (hr.mono (by omega)) (by rfl) D_law_at.g D_law_at.F.kp D_law_at.b .nil pass0 (pa_cons (pe_ix ix_tup (pv 0) pe_int (fun _ _ => rfl)) (pa_cons (pv 1) pa_nil))))
      (pss_cons (ps_if (pt_cmpR op_eq (pe_ix ix_tup (pv 0) pe_int (fun _ _ => rfl)) pe_str (nomark _)) (pss_one (ps_ret (pe_op op_add (pv 2) (pv 3)))) pss_nil)
      (pss_one (ps_ret (pe_ifExp (pt_cmpR op_eq (pe_ix ix_tup (pv 0) pe_int (fun _ _ => rfl)) pe_str (nomark _)) (pe_op op_sub (pv 2) (pv 3)) (pe_op op_mulW (pv 2) (pv 3)))))))))), ?_⟩
      cases t with
      | num n =>
        refine ⟨_, rfl, p, _, _, _, rfl, rfl, tr, atI_nat (j := 0) rfl, rfl, _, rfl, ite2 (fun e => ?_) (fun e => absurd (by decide) e)⟩
        exact ⟨_, rfl, p, _, _, _, rfl, rfl, tr, atI_nat (j := 1) rfl, q⟩
      | name x =>
        refine ⟨_, rfl, p, _, _, _, rfl, rfl, tr, atI_nat (j := 0) rfl, rfl, _, rfl, ite2 (fun e => absurd e (by decide)) (fun e => ?_)⟩
        refine ⟨_, rfl, p, _, _, _, rfl, rfl, tr, atI_nat (j := 0) rfl, rfl, _, rfl, ite2 (fun e => ?_) (fun e => absurd (by decide) e)⟩
        refine ⟨_, rfl, pd, rfl, .inl ⟨_, .inl ed⟩, _, rfl, p, _, _, _, rfl, rfl, tr, atI_nat (j := 1) rfl, _, DGet.k (k := .inr x) ed, ?_⟩
        rw [valV_dSI nL]
        exact q
      | bin o a b =>
        cases d with
        | zero => exact False.elim ok
        | succ d =>
          obtain ⟨pa, pb, tp, ta, tb⟩ := tr
          obtain ⟨oa, ob⟩ := ok
          have va := Nat.lt_of_le_of_lt (valT_le hL oa) (sT_small (by omega))
          have vb := Nat.lt_of_le_of_lt (valT_le hL ob) (sT_small (by omega))
          have n0 : ¬ decide (V.str (opS o) = V.str "num") = true := by cases o <;> decide
          have n1 : ¬ decide (V.str (opS o) = V.str "name") = true := by cases o <;> decide
          refine ⟨_, rfl, p, _, _, _, rfl, rfl, tp, atI_nat (j := 0) rfl, rfl, _, rfl, ite2 (fun e => absurd e n0) (fun e => ?_)⟩
          refine ⟨_, rfl, p, _, _, _, rfl, rfl, tp, atI_nat (j := 0) rfl, rfl, _, rfl, ite2 (fun e => absurd e n1) (fun e => ?_)⟩
          refine ⟨_, rfl, p, _, _, _, rfl, rfl, tp, atI_nat (j := 1) rfl, _, rfl, pa, pd, a, ns, L, rfl, ta, oa, by omega, ed, nL, hL, ?_⟩
          refine ⟨_, rfl, p, _, _, _, rfl, rfl, tp, atI_nat (j := 2) rfl, _, rfl, pb, pd, b, ns, L, rfl, tb, ob, by omega, ed, nL, hL, ?_⟩
          cases o with
          | add =>
            refine ⟨_, rfl, p, _, _, _, rfl, rfl, tp, atI_nat (j := 0) rfl, rfl, _, rfl, ite2 (fun e => ?_) (fun e => absurd (by decide) e)⟩
            exact ⟨_, rfl, _, rfl, _, _, rfl, rfl, q⟩
          | less =>
            refine ⟨_, rfl, p, _, _, _, rfl, rfl, tp, atI_nat (j := 0) rfl, rfl, _, rfl, ite2 (fun e => absurd e (by decide)) (fun e => ?_)⟩
            refine ⟨_, rfl, p, _, _, _, rfl, rfl, tp, atI_nat (j := 0) rfl, rfl, _, rfl, ite2 (fun e => ?_) (fun e => absurd (by decide) e)⟩
            exact ⟨_, rfl, _, rfl, _, _, rfl, rfl, q⟩
          | times =>
            refine ⟨_, rfl, p, _, _, _, rfl, rfl, tp, atI_nat (j := 0) rfl, rfl, _, rfl, ite2 (fun e => absurd e (by decide)) (fun e => ?_)⟩
            refine ⟨_, rfl, p, _, _, _, rfl, rfl, tp, atI_nat (j := 0) rfl, rfl, _, rfl, ite2 (fun e => absurd e (by decide)) (fun e => ?_)⟩
            exact ⟨_, rfl, _, rfl, _, _, rfl, rfl, mulOk (a := 1000) (b := 1000) va vb (by decide) (by decide) (by decide), q⟩
/-- the sum of a tree's numbers for a name as 0, 1, .. -/
def byT (t : Tr) (x : Str) (L : Pr) : Nat → Int
  | 0 => 0
  | n + 1 => byT t x L n + valT (putS L x n) t
def spTurns (K : PySem.W.Frag) : Sp := fun vs H Q _ => ∃ (p pd : Addr) (x : Str) (n : Nat) (t : Tr) (ns : List Str) (L : Pr), vs = [.ref p, .str x, .int (n : Int), .ref pd] ∧ TreeAt K H p t ∧ TrOk ns 3 t ∧ n ≤ 30 ∧ H pd = some (.dK (dSI L)) ∧ PointOk ns L ∧ ns.length < 1000 ∧ x ∈ ns ∧ ∀ H', Same H H' → Q (.int (byT t x L n)) H'
theorem point_small {ns : List Str} {L : Pr} (h : PointOk ns L) (x : Str) : (expo L x).natAbs ≤ 1000000 := by
  by_cases z : expo L x = 0
  · rw [z]
    decide
  · obtain ⟨e, he, ex⟩ := mem_of_expo z
    have nd := h.nd
    have : expo L x = e.2 := by
      rw [← ex]
      clear z ex
      have le := h.le
      clear h
      induction L with
      | nil => cases he
      | cons f r ih =>
        rw [List.map_cons] at nd
        obtain ⟨n1, n2⟩ := List.nodup_cons.mp nd
        rcases List.mem_cons.mp he with y | y
        · subst y
          show (if e.1 = e.1 then e.2 else 0) + expo r e.1 = e.2
          rw [if_pos rfl, expo_zero fun g hg q => n1 (by rw [← q]; exact List.mem_map.mpr ⟨g, hg, rfl⟩)]
          omega
        · show (if f.1 = e.1 then f.2 else 0) + expo r e.1 = e.2
          rw [if_neg fun q => n1 (by rw [q]; exact List.mem_map.mpr ⟨e, y, rfl⟩), ih y n2 fun g hg => le g (by simp [hg])]
          omega
    rw [this]
    exact h.le e he
theorem putS_put (L : Pr) (x : Str) (v u : Int) : putS (putS L x v) x u = putS L x u := by
  unfold putS
  by_cases a : (L.any fun e => decide (e.1 = x)) = true
  · rw [if_pos a]
    have b : ((L.map fun e => if e.1 = x then (e.1, v) else e).any fun e => decide (e.1 = x)) = true := by
      obtain ⟨f, hf, z⟩ := List.any_eq_true.mp a
      refine List.any_eq_true.mpr ⟨(f.1, v), List.mem_map.mpr ⟨f, hf, ?_⟩, z⟩
      rw [if_pos (by simpa using z)]
    rw [if_pos b, if_pos a, List.map_map]
    refine List.map_congr_left fun e _ => ?_
    show (fun e : Str × Int => if e.1 = x then (e.1, u) else e) (if e.1 = x then (e.1, v) else e) = _
    by_cases z : e.1 = x
    · rw [if_pos z]
      show (if e.1 = x then (e.1, u) else (e.1, v)) = _
      rw [if_pos z, if_pos z]
    · rw [if_neg z]
  · rw [if_neg a]
    have no : ∀ e ∈ L, e.1 ≠ x := fun e he z => a (List.any_eq_true.mpr ⟨e, he, by simp [z]⟩)
    have b : ((L ++ [(x, v)]).any fun e => decide (e.1 = x)) = true := by simp
    rw [if_pos b, if_neg a, List.map_append]
    have e1 : (L.map fun e => if e.1 = x then (e.1, u) else e) = L := by
      conv => rhs; rw [← List.map_id L]
      refine List.map_congr_left fun e he => ?_
      rw [if_neg (no e he)]
      rfl
    rw [e1]
    simp
theorem ok_law_by_turns {f : Addr} {fd : FuncData} (T : Txt K mg C) (F : DefAt K mg "_law_by_turns" "_law_by_turns" s_law_by_turns ["_law_tree_here", "_law_x", "_law_many", "_law_point_here"] f fd) : FnOk P w K mg base CX0 6 f fd ["_law_tree_here", "_law_x", "_law_many", "_law_point_here"] (spTurns K) := by
  obtain ⟨f1, fd1, D_law_at⟩ := T.d_law_at
  have G_law_at : FnOk P w K mg base CX0 4 f1 fd1 ["_law_tree_here", "_law_point_here"] (spAt K 4) := ok_law_at T D_law_at 4
  refine F.F.ok sc_law_by_turns (fun vs H Q E h => ?_) (fun cdv A outer s H vs Q E hr h => ?_)
  · obtain ⟨p, pd, x, n, t, ns, L, rfl, _⟩ := h
    rfl
  · obtain ⟨p, pd, x, n, t, ns, L, rfl, tr, ok, hn, ed, po, hns, hx, q⟩ := h
    refine ⟨_, (pss_cons (ps_set (i := 4) sc_law_by_turns.nd rfl (.inl rfl) pe_int)
      (pss_cons (ps_set (i := 5) sc_law_by_turns.nd rfl (.inl rfl) (pe_callTy call_dictD (by rfl) T.m_dict (by decide +kernel) (pa_cons (pv 3) pa_nil)))
      (pss_cons (ps_for PassesOwn.never rfl (pi_range1 rfl T.m_range (pa_cons (pv 2) pa_nil)) (pg_name (i := 6) sc_law_by_turns.nd rfl (.inl rfl)) (pss_cons (ps_dput (room1 hr) (pv 5) (pv 1) (pv 6) rfl) (pss_one (ps_set (i := 4) sc_law_by_turns.nd rfl (.inl rfl) (pe_op op_add (pv 4) (pe_call G_law_at (hr.mono (by decide)) (by rfl) D_law_at.g D_law_at.F.kp D_law_at.b .nil pass0 (pa_cons (pv 0) (pa_cons (pv 5) pa_nil))))))))
      (pss_one (ps_ret (pv 4)))))), ?_⟩
    refine ⟨_, rfl, pd, _, rfl, .inl ed, fun db ndb => ?_⟩
    have sb : Same H (upd H db (.dK (dSI L))) := same_upd ndb
    refine ⟨_, rfl, (n : Int), rfl, by omega, by omega, for_range (lo := 0) (n := (n : Int).toNat) (fun i σ H2 => ∃ (v6 : Option V) (L2 : Pr), σ = [some (.ref p), some (.str x), some (.int (n : Int)), some (.ref pd), some (.int (byT t x L i)), some (.ref db), v6] ∧ H2 db = some (.dK (dSI L2)) ∧ PointOk ns L2 ∧ (∀ u, putS L2 x u = putS L x u) ∧ Same H H2) ⟨none, L, rfl, upd_same, po, fun _ => rfl, sb⟩ ?_ ?_⟩
    · rintro i σ H2 hi ⟨v6, L2, rfl, e2, po2, pu, s2⟩
      have hin : i < n := by omega
      have len2 : (dSI L2).length < sizeLine := by
        rw [dSI_len]
        have z := nodup_len (m := ns) po2.nd fun y hy => by
          obtain ⟨e, he, ee⟩ := List.mem_map.mp hy
          rw [← ee]
          exact po2.of e he
        rw [List.length_map] at z
        rw [sizeLine_eq]
        omega
      have e0 : (0 : Int) + (i : Int) = (i : Int) := by omega
      refine ⟨_, rfl, _, rfl, _, rfl, db, _, rfl, DPut.k (k := .inr x) e2 len2, ?_⟩
      rw [dSI_put, e0, pu]
      have po3 : PointOk ns (putS L x (i : Int)) := by
        rw [← pu]
        exact po2.put hx (by omega)
      have el : Else db H2 (upd H2 db (.dK (dSI (putS L x (i : Int))))) := .upd
      have s3 : Same H (upd H2 db (.dK (dSI (putS L x (i : Int))))) := Else.fresh ndb s2 el
      refine ⟨_, rfl, _, rfl, _, rfl, p, db, t, ns, putS L x (i : Int), rfl, tr.stay (TupsStay.same s3), ok, by decide, upd_same, po3.nd, point_small po3, _, _, rfl, rfl, ?_⟩
      refine ⟨_, _, rfl, upd_same, po3, fun u => putS_put L x _ u, s3⟩
    · rintro σ H2 ⟨v6, L2, rfl, e2, po2, pu, s2⟩
      exact ⟨_, rfl, q H2 s2⟩
end
/-! ### the slope of each row -/
def h2520 : PR := cst (1 / 2520)
theorem h2520_one : 2520 * h2520 = 1 := by
  show cst ((2520 : Nat) : Rat) * cst (1 / 2520) = cst ((1 : Nat) : Rat)
  rw [← cst_mul]
  congr 1
  decide +kernel
theorem cstD (c : Rat) (n : Int) (h : c = (n : Rat) * (1 / 2520)) : cst c = (n : PR) * h2520 := by
  rw [h, cst_mul]
  rfl
def rowR (R : List (Int × Rat)) (v : PR) : PR := R.foldr (fun e a => cst e.2 * v ^ e.1.toNat + a) 0
def rowQ (R : List (Int × Rat)) (v : Rat) : Rat := R.foldr (fun e a => e.2 * v ^ e.1.toNat + a) 0
theorem slope0 (v : PR) : rowR (rowS 0) (v + 1) - rowR (rowS 0) v = v ^ 0 := by
  have e : rowS 0 = [(1, 1)] := by decide +kernel
  rw [e]
  show (cst (1) * (v + 1) ^ (1 : Nat) + 0) - (cst (1) * v ^ (1 : Nat) + 0) = _
  have h := h2520_one
  rw [cstD (1) (2520) (by decide +kernel)]
  grind
theorem slopeQ0 (v : Rat) : rowQ (rowS 0) (v + 1) - rowQ (rowS 0) v = v ^ 0 := by
  have e : rowS 0 = [(1, 1)] := by decide +kernel
  rw [e]
  show ((1 : Rat) * (v + 1) ^ (1 : Nat) + 0) - ((1 : Rat) * v ^ (1 : Nat) + 0) = _
  grind
theorem slope1 (v : PR) : rowR (rowS 1) (v + 1) - rowR (rowS 1) v = v ^ 1 := by
  have e : rowS 1 = [(2, 1 / 2), (1, -1 / 2)] := by decide +kernel
  rw [e]
  show (cst (1 / 2) * (v + 1) ^ (2 : Nat) + (cst (-1 / 2) * (v + 1) ^ (1 : Nat) + 0)) - (cst (1 / 2) * v ^ (2 : Nat) + (cst (-1 / 2) * v ^ (1 : Nat) + 0)) = _
  have h := h2520_one
  rw [cstD (1 / 2) (1260) (by decide +kernel)]
  rw [cstD (-1 / 2) (-1260) (by decide +kernel)]
  grind
theorem slopeQ1 (v : Rat) : rowQ (rowS 1) (v + 1) - rowQ (rowS 1) v = v ^ 1 := by
  have e : rowS 1 = [(2, 1 / 2), (1, -1 / 2)] := by decide +kernel
  rw [e]
  show ((1 / 2 : Rat) * (v + 1) ^ (2 : Nat) + ((-1 / 2 : Rat) * (v + 1) ^ (1 : Nat) + 0)) - ((1 / 2 : Rat) * v ^ (2 : Nat) + ((-1 / 2 : Rat) * v ^ (1 : Nat) + 0)) = _
  grind
theorem slope2 (v : PR) : rowR (rowS 2) (v + 1) - rowR (rowS 2) v = v ^ 2 := by
  have e : rowS 2 = [(3, 1 / 3), (2, -1 / 2), (1, 1 / 6)] := by decide +kernel
  rw [e]
  show (cst (1 / 3) * (v + 1) ^ (3 : Nat) + (cst (-1 / 2) * (v + 1) ^ (2 : Nat) + (cst (1 / 6) * (v + 1) ^ (1 : Nat) + 0))) - (cst (1 / 3) * v ^ (3 : Nat) + (cst (-1 / 2) * v ^ (2 : Nat) + (cst (1 / 6) * v ^ (1 : Nat) + 0))) = _
  have h := h2520_one
  rw [cstD (1 / 3) (840) (by decide +kernel)]
  rw [cstD (-1 / 2) (-1260) (by decide +kernel)]
  rw [cstD (1 / 6) (420) (by decide +kernel)]
  grind
theorem slopeQ2 (v : Rat) : rowQ (rowS 2) (v + 1) - rowQ (rowS 2) v = v ^ 2 := by
  have e : rowS 2 = [(3, 1 / 3), (2, -1 / 2), (1, 1 / 6)] := by decide +kernel
  rw [e]
  show ((1 / 3 : Rat) * (v + 1) ^ (3 : Nat) + ((-1 / 2 : Rat) * (v + 1) ^ (2 : Nat) + ((1 / 6 : Rat) * (v + 1) ^ (1 : Nat) + 0))) - ((1 / 3 : Rat) * v ^ (3 : Nat) + ((-1 / 2 : Rat) * v ^ (2 : Nat) + ((1 / 6 : Rat) * v ^ (1 : Nat) + 0))) = _
  grind
theorem slope3 (v : PR) : rowR (rowS 3) (v + 1) - rowR (rowS 3) v = v ^ 3 := by
  have e : rowS 3 = [(4, 1 / 4), (3, -1 / 2), (2, 1 / 4)] := by decide +kernel
  rw [e]
  show (cst (1 / 4) * (v + 1) ^ (4 : Nat) + (cst (-1 / 2) * (v + 1) ^ (3 : Nat) + (cst (1 / 4) * (v + 1) ^ (2 : Nat) + 0))) - (cst (1 / 4) * v ^ (4 : Nat) + (cst (-1 / 2) * v ^ (3 : Nat) + (cst (1 / 4) * v ^ (2 : Nat) + 0))) = _
  have h := h2520_one
  rw [cstD (1 / 4) (630) (by decide +kernel)]
  rw [cstD (-1 / 2) (-1260) (by decide +kernel)]
  grind
theorem slopeQ3 (v : Rat) : rowQ (rowS 3) (v + 1) - rowQ (rowS 3) v = v ^ 3 := by
  have e : rowS 3 = [(4, 1 / 4), (3, -1 / 2), (2, 1 / 4)] := by decide +kernel
  rw [e]
  show ((1 / 4 : Rat) * (v + 1) ^ (4 : Nat) + ((-1 / 2 : Rat) * (v + 1) ^ (3 : Nat) + ((1 / 4 : Rat) * (v + 1) ^ (2 : Nat) + 0))) - ((1 / 4 : Rat) * v ^ (4 : Nat) + ((-1 / 2 : Rat) * v ^ (3 : Nat) + ((1 / 4 : Rat) * v ^ (2 : Nat) + 0))) = _
  grind
theorem slope4 (v : PR) : rowR (rowS 4) (v + 1) - rowR (rowS 4) v = v ^ 4 := by
  have e : rowS 4 = [(5, 1 / 5), (4, -1 / 2), (3, 1 / 3), (1, -1 / 30)] := by decide +kernel
  rw [e]
  show (cst (1 / 5) * (v + 1) ^ (5 : Nat) + (cst (-1 / 2) * (v + 1) ^ (4 : Nat) + (cst (1 / 3) * (v + 1) ^ (3 : Nat) + (cst (-1 / 30) * (v + 1) ^ (1 : Nat) + 0)))) - (cst (1 / 5) * v ^ (5 : Nat) + (cst (-1 / 2) * v ^ (4 : Nat) + (cst (1 / 3) * v ^ (3 : Nat) + (cst (-1 / 30) * v ^ (1 : Nat) + 0)))) = _
  have h := h2520_one
  rw [cstD (1 / 5) (504) (by decide +kernel)]
  rw [cstD (-1 / 2) (-1260) (by decide +kernel)]
  rw [cstD (1 / 3) (840) (by decide +kernel)]
  rw [cstD (-1 / 30) (-84) (by decide +kernel)]
  grind
theorem slopeQ4 (v : Rat) : rowQ (rowS 4) (v + 1) - rowQ (rowS 4) v = v ^ 4 := by
  have e : rowS 4 = [(5, 1 / 5), (4, -1 / 2), (3, 1 / 3), (1, -1 / 30)] := by decide +kernel
  rw [e]
  show ((1 / 5 : Rat) * (v + 1) ^ (5 : Nat) + ((-1 / 2 : Rat) * (v + 1) ^ (4 : Nat) + ((1 / 3 : Rat) * (v + 1) ^ (3 : Nat) + ((-1 / 30 : Rat) * (v + 1) ^ (1 : Nat) + 0)))) - ((1 / 5 : Rat) * v ^ (5 : Nat) + ((-1 / 2 : Rat) * v ^ (4 : Nat) + ((1 / 3 : Rat) * v ^ (3 : Nat) + ((-1 / 30 : Rat) * v ^ (1 : Nat) + 0)))) = _
  grind
theorem slope5 (v : PR) : rowR (rowS 5) (v + 1) - rowR (rowS 5) v = v ^ 5 := by
  have e : rowS 5 = [(6, 1 / 6), (5, -1 / 2), (4, 5 / 12), (2, -1 / 12)] := by decide +kernel
  rw [e]
  show (cst (1 / 6) * (v + 1) ^ (6 : Nat) + (cst (-1 / 2) * (v + 1) ^ (5 : Nat) + (cst (5 / 12) * (v + 1) ^ (4 : Nat) + (cst (-1 / 12) * (v + 1) ^ (2 : Nat) + 0)))) - (cst (1 / 6) * v ^ (6 : Nat) + (cst (-1 / 2) * v ^ (5 : Nat) + (cst (5 / 12) * v ^ (4 : Nat) + (cst (-1 / 12) * v ^ (2 : Nat) + 0)))) = _
  have h := h2520_one
  rw [cstD (1 / 6) (420) (by decide +kernel)]
  rw [cstD (-1 / 2) (-1260) (by decide +kernel)]
  rw [cstD (5 / 12) (1050) (by decide +kernel)]
  rw [cstD (-1 / 12) (-210) (by decide +kernel)]
  grind
theorem slopeQ5 (v : Rat) : rowQ (rowS 5) (v + 1) - rowQ (rowS 5) v = v ^ 5 := by
  have e : rowS 5 = [(6, 1 / 6), (5, -1 / 2), (4, 5 / 12), (2, -1 / 12)] := by decide +kernel
  rw [e]
  show ((1 / 6 : Rat) * (v + 1) ^ (6 : Nat) + ((-1 / 2 : Rat) * (v + 1) ^ (5 : Nat) + ((5 / 12 : Rat) * (v + 1) ^ (4 : Nat) + ((-1 / 12 : Rat) * (v + 1) ^ (2 : Nat) + 0)))) - ((1 / 6 : Rat) * v ^ (6 : Nat) + ((-1 / 2 : Rat) * v ^ (5 : Nat) + ((5 / 12 : Rat) * v ^ (4 : Nat) + ((-1 / 12 : Rat) * v ^ (2 : Nat) + 0)))) = _
  grind
theorem slope6 (v : PR) : rowR (rowS 6) (v + 1) - rowR (rowS 6) v = v ^ 6 := by
  have e : rowS 6 = [(7, 1 / 7), (6, -1 / 2), (5, 1 / 2), (3, -1 / 6), (1, 1 / 42)] := by decide +kernel
  rw [e]
  show (cst (1 / 7) * (v + 1) ^ (7 : Nat) + (cst (-1 / 2) * (v + 1) ^ (6 : Nat) + (cst (1 / 2) * (v + 1) ^ (5 : Nat) + (cst (-1 / 6) * (v + 1) ^ (3 : Nat) + (cst (1 / 42) * (v + 1) ^ (1 : Nat) + 0))))) - (cst (1 / 7) * v ^ (7 : Nat) + (cst (-1 / 2) * v ^ (6 : Nat) + (cst (1 / 2) * v ^ (5 : Nat) + (cst (-1 / 6) * v ^ (3 : Nat) + (cst (1 / 42) * v ^ (1 : Nat) + 0))))) = _
  have h := h2520_one
  rw [cstD (1 / 7) (360) (by decide +kernel)]
  rw [cstD (-1 / 2) (-1260) (by decide +kernel)]
  rw [cstD (1 / 2) (1260) (by decide +kernel)]
  rw [cstD (-1 / 6) (-420) (by decide +kernel)]
  rw [cstD (1 / 42) (60) (by decide +kernel)]
  grind
theorem slopeQ6 (v : Rat) : rowQ (rowS 6) (v + 1) - rowQ (rowS 6) v = v ^ 6 := by
  have e : rowS 6 = [(7, 1 / 7), (6, -1 / 2), (5, 1 / 2), (3, -1 / 6), (1, 1 / 42)] := by decide +kernel
  rw [e]
  show ((1 / 7 : Rat) * (v + 1) ^ (7 : Nat) + ((-1 / 2 : Rat) * (v + 1) ^ (6 : Nat) + ((1 / 2 : Rat) * (v + 1) ^ (5 : Nat) + ((-1 / 6 : Rat) * (v + 1) ^ (3 : Nat) + ((1 / 42 : Rat) * (v + 1) ^ (1 : Nat) + 0))))) - ((1 / 7 : Rat) * v ^ (7 : Nat) + ((-1 / 2 : Rat) * v ^ (6 : Nat) + ((1 / 2 : Rat) * v ^ (5 : Nat) + ((-1 / 6 : Rat) * v ^ (3 : Nat) + ((1 / 42 : Rat) * v ^ (1 : Nat) + 0))))) = _
  grind
theorem slope7 (v : PR) : rowR (rowS 7) (v + 1) - rowR (rowS 7) v = v ^ 7 := by
  have e : rowS 7 = [(8, 1 / 8), (7, -1 / 2), (6, 7 / 12), (4, -7 / 24), (2, 1 / 12)] := by decide +kernel
  rw [e]
  show (cst (1 / 8) * (v + 1) ^ (8 : Nat) + (cst (-1 / 2) * (v + 1) ^ (7 : Nat) + (cst (7 / 12) * (v + 1) ^ (6 : Nat) + (cst (-7 / 24) * (v + 1) ^ (4 : Nat) + (cst (1 / 12) * (v + 1) ^ (2 : Nat) + 0))))) - (cst (1 / 8) * v ^ (8 : Nat) + (cst (-1 / 2) * v ^ (7 : Nat) + (cst (7 / 12) * v ^ (6 : Nat) + (cst (-7 / 24) * v ^ (4 : Nat) + (cst (1 / 12) * v ^ (2 : Nat) + 0))))) = _
  have h := h2520_one
  rw [cstD (1 / 8) (315) (by decide +kernel)]
  rw [cstD (-1 / 2) (-1260) (by decide +kernel)]
  rw [cstD (7 / 12) (1470) (by decide +kernel)]
  rw [cstD (-7 / 24) (-735) (by decide +kernel)]
  rw [cstD (1 / 12) (210) (by decide +kernel)]
  grind
theorem slopeQ7 (v : Rat) : rowQ (rowS 7) (v + 1) - rowQ (rowS 7) v = v ^ 7 := by
  have e : rowS 7 = [(8, 1 / 8), (7, -1 / 2), (6, 7 / 12), (4, -7 / 24), (2, 1 / 12)] := by decide +kernel
  rw [e]
  show ((1 / 8 : Rat) * (v + 1) ^ (8 : Nat) + ((-1 / 2 : Rat) * (v + 1) ^ (7 : Nat) + ((7 / 12 : Rat) * (v + 1) ^ (6 : Nat) + ((-7 / 24 : Rat) * (v + 1) ^ (4 : Nat) + ((1 / 12 : Rat) * (v + 1) ^ (2 : Nat) + 0))))) - ((1 / 8 : Rat) * v ^ (8 : Nat) + ((-1 / 2 : Rat) * v ^ (7 : Nat) + ((7 / 12 : Rat) * v ^ (6 : Nat) + ((-7 / 24 : Rat) * v ^ (4 : Nat) + ((1 / 12 : Rat) * v ^ (2 : Nat) + 0))))) = _
  grind
theorem slope8 (v : PR) : rowR (rowS 8) (v + 1) - rowR (rowS 8) v = v ^ 8 := by
  have e : rowS 8 = [(9, 1 / 9), (8, -1 / 2), (7, 2 / 3), (5, -7 / 15), (3, 2 / 9), (1, -1 / 30)] := by decide +kernel
  rw [e]
  show (cst (1 / 9) * (v + 1) ^ (9 : Nat) + (cst (-1 / 2) * (v + 1) ^ (8 : Nat) + (cst (2 / 3) * (v + 1) ^ (7 : Nat) + (cst (-7 / 15) * (v + 1) ^ (5 : Nat) + (cst (2 / 9) * (v + 1) ^ (3 : Nat) + (cst (-1 / 30) * (v + 1) ^ (1 : Nat) + 0)))))) - (cst (1 / 9) * v ^ (9 : Nat) + (cst (-1 / 2) * v ^ (8 : Nat) + (cst (2 / 3) * v ^ (7 : Nat) + (cst (-7 / 15) * v ^ (5 : Nat) + (cst (2 / 9) * v ^ (3 : Nat) + (cst (-1 / 30) * v ^ (1 : Nat) + 0)))))) = _
  have h := h2520_one
  rw [cstD (1 / 9) (280) (by decide +kernel)]
  rw [cstD (-1 / 2) (-1260) (by decide +kernel)]
  rw [cstD (2 / 3) (1680) (by decide +kernel)]
  rw [cstD (-7 / 15) (-1176) (by decide +kernel)]
  rw [cstD (2 / 9) (560) (by decide +kernel)]
  rw [cstD (-1 / 30) (-84) (by decide +kernel)]
  grind
theorem slopeQ8 (v : Rat) : rowQ (rowS 8) (v + 1) - rowQ (rowS 8) v = v ^ 8 := by
  have e : rowS 8 = [(9, 1 / 9), (8, -1 / 2), (7, 2 / 3), (5, -7 / 15), (3, 2 / 9), (1, -1 / 30)] := by decide +kernel
  rw [e]
  show ((1 / 9 : Rat) * (v + 1) ^ (9 : Nat) + ((-1 / 2 : Rat) * (v + 1) ^ (8 : Nat) + ((2 / 3 : Rat) * (v + 1) ^ (7 : Nat) + ((-7 / 15 : Rat) * (v + 1) ^ (5 : Nat) + ((2 / 9 : Rat) * (v + 1) ^ (3 : Nat) + ((-1 / 30 : Rat) * (v + 1) ^ (1 : Nat) + 0)))))) - ((1 / 9 : Rat) * v ^ (9 : Nat) + ((-1 / 2 : Rat) * v ^ (8 : Nat) + ((2 / 3 : Rat) * v ^ (7 : Nat) + ((-7 / 15 : Rat) * v ^ (5 : Nat) + ((2 / 9 : Rat) * v ^ (3 : Nat) + ((-1 / 30 : Rat) * v ^ (1 : Nat) + 0)))))) = _
  grind
theorem slope {k : Nat} (h : k < 9) (v : PR) : rowR (rowS k) (v + 1) - rowR (rowS k) v = v ^ k := by
  match k, h with
  | 0, _ => exact slope0 v
  | 1, _ => exact slope1 v
  | 2, _ => exact slope2 v
  | 3, _ => exact slope3 v
  | 4, _ => exact slope4 v
  | 5, _ => exact slope5 v
  | 6, _ => exact slope6 v
  | 7, _ => exact slope7 v
  | 8, _ => exact slope8 v
theorem slopeQ {k : Nat} (h : k < 9) (v : Rat) : rowQ (rowS k) (v + 1) - rowQ (rowS k) v = v ^ k := by
  match k, h with
  | 0, _ => exact slopeQ0 v
  | 1, _ => exact slopeQ1 v
  | 2, _ => exact slopeQ2 v
  | 3, _ => exact slopeQ3 v
  | 4, _ => exact slopeQ4 v
  | 5, _ => exact slopeQ5 v
  | 6, _ => exact slopeQ6 v
  | 7, _ => exact slopeQ7 v
  | 8, _ => exact slopeQ8 v
/-! ### what a total is at a point, and by one turn more -/
theorem foldr_sum (R : List (Int × Rat)) (g : Int × Rat → Rat) : R.foldr (fun e a => g e + a) 0 = (R.map g).sum := by
  induction R with
  | nil => rfl
  | cons e r ih => rw [List.foldr_cons, ih, List.map_cons, List.sum_cons]
theorem rowQ_sum (R : List (Int × Rat)) (v : Rat) : rowQ R v = (R.map fun e => e.2 * v ^ e.1.toNat).sum := foldr_sum R fun e => e.2 * v ^ e.1.toNat
theorem zero_pow {k : Nat} (h : 1 ≤ k) : (0 : Rat) ^ k = 0 := by
  obtain ⟨j, rfl⟩ : ∃ j, k = j + 1 := ⟨k - 1, by omega⟩
  rw [Rat.pow_succ, Rat.mul_zero]
theorem rowQ_zero {k : Nat} (h : k < 9) : rowQ (rowS k) 0 = 0 := by
  rw [rowQ_sum]
  have ro := (row_ok h).one
  generalize rowS k = R at ro
  induction R with
  | nil => rfl
  | cons e r ih =>
    have z := (ro e (by simp)).2.2.1
    rw [List.map_cons, List.sum_cons, ih fun f hf => ro f (by simp [hf]), zero_pow (by omega)]
    grind
/-- the powers of 0, 1, .. added -/
def powQ (k : Nat) : Nat → Rat
  | 0 => 0
  | n + 1 => powQ k n + ((n : Int) : Rat) ^ k
theorem rowQ_pow {k : Nat} (h : k < 9) : ∀ n : Nat, rowQ (rowS k) ((n : Int) : Rat) = powQ k n
  | 0 => rowQ_zero h
  | n + 1 => by
    have s := slopeQ h ((n : Int) : Rat)
    have e : (((n + 1 : Nat) : Int) : Rat) = ((n : Int) : Rat) + 1 := by
      rw [Int.natCast_add, Rat.intCast_add]
      rfl
    rw [rowQ_pow h n] at s
    rw [e]
    show _ = powQ k n + ((n : Int) : Rat) ^ k
    grind
theorem evalI_rest (v : Str → Int) {x : Str} {p : Pr} (h : Canon p) : evalI v p = evalI v (restP x p) * v x ^ (expo p x).toNat := by
  have e := join_rest (x := x) h
  have a := evalI_join v (xp_canon x (expo p x).toNat) (FreeX.rest (x := x) h).1.one
  rw [e] at a
  rw [a]
  congr 1
  unfold xp
  split
  · rename_i z
    rw [z, Int.pow_zero]
    rfl
  · show v x ^ (((expo p x).toNat : Nat) : Int).toNat * 1 = _
    rw [Int.mul_one]
    congr 1
theorem evalI_free {v v' : Str → Int} {x : Str} {p : Pr} (hv : ∀ y, y ≠ x → v y = v' y) (h : ∀ e ∈ p, e.1 ≠ x) : evalI v p = evalI v' p := by
  induction p with
  | nil => rfl
  | cons e r ih =>
    show v e.1 ^ e.2.toNat * evalI v r = v' e.1 ^ e.2.toNat * evalI v' r
    rw [hv _ (h e (by simp)), ih fun f hf => h f (by simp [hf])]
theorem ratPow (t : Int) (k : Nat) : ((t ^ k : Int) : Rat) = (t : Rat) ^ k := by
  induction k with
  | zero =>
    rw [Int.pow_zero, Rat.pow_zero]
    rfl
  | succ k ih => rw [Int.pow_succ, Rat.pow_succ, Rat.intCast_mul, ih]
/-- a total at a point: what the sum is there for the name as 0, 1, .., added -/
theorem ev_total {x : Str} {M N : Poly} (hM : AllP Canon M) (hd : ∀ y ∈ M, (expo y.1 x).toNat < 9) (hN : AllP Canon N) (v : Str → Int) (vs : Nat → Str → Int) (hv : ∀ i y, y ≠ x → vs i y = v y) (hx : ∀ i, vs i x = (i : Int)) {n : Nat} (hn : evM v N = ((n : Int) : Rat)) :
    ∀ {tot : Nat → Rat}, tot 0 = 0 → (∀ i, tot (i + 1) = tot i + evM (vs i) M) → evM v (totalM x M N) = tot n := fun {tot} t0 t1 => by
  have e1 : evM v (totalM x M N) = lin (fun p => (evalI v (restP x p) : Rat) * powQ (expo p x).toNat n) M := by
    show lin _ (totalM x M N) = _
    rw [lin_total]
    refine lin_congr fun y hy => ?_
    have c := hM y hy
    have fr := FreeX.rest (x := x) c
    unfold tauG
    rw [← rowQ_pow (hd y hy) n, rowQ_sum]
    have each : ∀ e : Int × Rat, e.2 * lin (fun b => (evalI v (joinP (restP x y.1) b) : Rat)) (powM N e.1.toNat) = (evalI v (restP x y.1) : Rat) * (e.2 * ((n : Int) : Rat) ^ e.1.toNat) := fun e => by
      have z : lin (fun b => (evalI v (joinP (restP x y.1) b) : Rat)) (powM N e.1.toNat) = (evalI v (restP x y.1) : Rat) * evM v (powM N e.1.toNat) := by
        rw [← lin_mulc]
        refine lin_congr fun b hb => ?_
        rw [evalI_join v ((hN.pow Canon.nil CanonJ e.1.toNat) b hb) fr.1.one, Rat.intCast_mul]
      rw [z, evM_pow v hN hn, ratPow]
      grind
    generalize rowS (expo y.1 x).toNat = R
    induction R with
    | nil =>
      show (0 : Rat) = _ * 0
      grind
    | cons e r ih =>
      rw [List.map_cons, List.map_cons, List.sum_cons, List.sum_cons, ih, each]
      grind
  rw [e1]
  clear e1 hn
  induction n with
  | zero =>
    rw [t0]
    have z : lin (fun p => (evalI v (restP x p) : Rat) * powQ (expo p x).toNat 0) M = lin (fun _ => 0) M := lin_congr fun y _ => by
      show _ * (0 : Rat) = 0
      grind
    rw [z, lin_zero]
  | succ n ih =>
    rw [t1, ← ih]
    show _ = _ + lin (fun p => (evalI (vs n) p : Rat)) M
    rw [← lin_addf]
    refine lin_congr fun y hy => ?_
    have c := hM y hy
    rw [evalI_rest (vs n) (x := x) c, hx, evalI_free (v := vs n) (v' := v) (x := x) (fun y hy => hv n y hy) (FreeX.rest c).2, Rat.intCast_mul, ratPow]
    show _ * (powQ _ n + _) = _
    grind
/-- one more of the count -/
theorem tot_more {x : Str} {M N : Poly} {s : Poly} (hM : AllP Canon M) (hd : ∀ y ∈ M, (expo y.1 x).toNat < 9) (hN : AllP Canon N) (hs : AllP Canon s) (es : mkR s hs = mkR N hN + 1) (f : Pr → Rat) : lin f (totalM x M s) - lin f (totalM x M N) = lin f (putInM (F1 x N) M) := by
  have hF : CanF (F1 x N) := fun y L e => by
    unfold F1 at e
    split at e
    · cases e
      exact hN
    · cases e
  rw [lin_total, lin_total, lin_putIn hF hM]
  have m1 : ∀ (g : Pr → Rat), lin g M = lin g M := fun _ => rfl
  have sub : ∀ (f g : Pr → Rat), lin f M - lin g M = lin (fun p => f p - g p) M := fun f g => by
    have a := lin_addf (fun p => f p - g p) g M
    have b : (fun p => f p - g p + g p) = f := by
      funext p
      grind
    rw [b] at a
    grind
  rw [sub]
  refine lin_congr fun y hy => ?_
  have c := hM y hy
  have fr := FreeX.rest (x := x) c
  have k9 := hd y hy
  have one : ∀ (L : Poly), tauG x (fun j a => lin (fun b => f (joinP a b)) (powM L j.toNat)) y.1 = lin (fun b => f (joinP (restP x y.1) b)) (sumS (rowS (expo y.1 x).toNat) L) := fun L => by
    rw [lin_sumS]
    rfl
  rw [one, one]
  have rs := slope k9 (mkR N hN)
  have a1 : rowR (rowS (expo y.1 x).toNat) (mkR N hN + 1) = mkR (sumS (rowS (expo y.1 x).toNat) s) (sumS_can hs _) := by
    rw [sumS_mk hs, es]
    rfl
  have a2 : rowR (rowS (expo y.1 x).toNat) (mkR N hN) = mkR (sumS (rowS (expo y.1 x).toNat) N) (sumS_can hN _) := by
    rw [sumS_mk hN]
    rfl
  rw [a1, a2, powR_mk hN] at rs
  have e3 : mkR (sumS (rowS (expo y.1 x).toNat) s) (sumS_can hs _) = mkR (powM N (expo y.1 x).toNat) (hN.pow Canon.nil CanonJ _) + mkR (sumS (rowS (expo y.1 x).toNat) N) (sumS_can hN _) := by
    rw [← rs]
    grind
  have e4 : Eqv (sumS (rowS (expo y.1 x).toNat) s) (powM N (expo y.1 x).toNat ++ sumS (rowS (expo y.1 x).toNat) N) := mkR_iff e3
  rw [e4, lin_append]
  have p1 : Eqv (prodT (F1 x N) (restP x y.1)) [(restP x y.1, 1)] := prodT_same fr.1 fun e he => term_none (by
    unfold F1
    rw [if_neg (fr.2 e he)])
  have p2 : Eqv (prodT (F1 x N) (xp x (expo y.1 x).toNat)) (powM N (expo y.1 x).toNat) := by
    unfold xp
    split
    · rename_i z
      rw [z]
      exact (powM_zero N).symm
    · have t : termF (F1 x N) (x, ((expo y.1 x).toNat : Int)) = powM N (expo y.1 x).toNat := by
        unfold termF F1
        rw [if_pos rfl]
        rfl
      show Eqv (mulM (termF (F1 x N) (x, ((expo y.1 x).toNat : Int))) [([], 1)]) _
      rw [t]
      exact mul_one' (hN.pow Canon.nil CanonJ _)
  have p3 : Eqv (prodT (F1 x N) y.1) (mulM [(restP x y.1, 1)] (powM N (expo y.1 x).toNat)) := by
    have z := prodT_join hF (xp_canon x (expo y.1 x).toNat) (p := restP x y.1) fr.1.one
    rw [join_rest c] at z
    exact z.trans (p1.mul p2)
  rw [p3 f, lin_one]
  grind
/-- over no turns -/
theorem tot_none {x : Str} {M : Poly} (hd : ∀ y ∈ M, (expo y.1 x).toNat < 9) (f : Pr → Rat) : lin f (totalM x M []) = 0 := by
  rw [lin_total]
  have z : lin (tauG x fun j a => lin (fun b => f (joinP a b)) (powM [] j.toNat)) M = lin (fun _ => 0) M := lin_congr fun y hy => by
    unfold tauG
    have ro := (row_ok (hd y hy)).one
    generalize rowS (expo y.1 x).toNat = R at ro
    induction R with
    | nil => rfl
    | cons e r ih =>
      have one := (ro e (by simp)).2.2.1
      rw [List.map_cons, List.sum_cons, ih fun g hg => ro g (by simp [hg])]
      show e.2 * lin (fun b => f (joinP (restP x y.1) b)) (powM [] e.1.toNat) + 0 = 0
      rw [powM_none (by omega), lin_nil]
      grind
  rw [z, lin_zero]
theorem ev_tree (L : Pr) {ns : List Str} : ∀ {t : Tr} {d : Nat}, TrOk ns d t → evM (expo L) (polyT t) = (valT L t : Rat)
  | .num n, d, _ => by
    show lin _ (addM [] [] (n : Rat)) = _
    rw [numberM]
    show (n : Rat) * ((1 : Int) : Rat) = (n : Rat)
    have : ((1 : Int) : Rat) = 1 := rfl
    rw [this, Rat.mul_one]
  | .name x, d, _ => by
    show lin _ [([(x, 1)], 1)] = _
    rw [lin_cons, lin_nil]
    show (1 : Rat) * ((expo L x ^ (1 : Int).toNat * 1 : Int) : Rat) + 0 = (expo L x : Rat)
    have : expo L x ^ (1 : Int).toNat * 1 = expo L x := by
      rw [Int.mul_one]
      exact Int.pow_succ _ 0 |>.trans (by rw [Int.pow_zero, Int.one_mul])
    rw [this]
    grind
  | .bin o a b, 0, h => False.elim h
  | .bin o a b, d + 1, ⟨ha, hb⟩ => by
    have ea := ev_tree L ha
    have eb := ev_tree L hb
    have fa := fit_tree ha
    have fb := fit_tree hb
    cases o with
    | add =>
      show lin _ (sumM (polyT a) (polyT b)) = ((valT L a + valT L b : Int) : Rat)
      rw [lin_sumM _ _ fa.nd, Rat.intCast_add, ← ea, ← eb]
    | less =>
      show lin _ (sumM (polyT a) (negM (polyT b))) = ((valT L a - valT L b : Int) : Rat)
      rw [lin_sumM _ _ fa.nd, lin_neg, Rat.intCast_sub, ← ea, ← eb]
      grind
    | times =>
      show evM _ (mulM (polyT a) (polyT b)) = ((valT L a * valT L b : Int) : Rat)
      rw [evM_mul _ fa.can fb.can, Rat.intCast_mul, ← ea, ← eb]
section
variable {P : Program} {w : World} {K : PySem.W.Frag} {mg : Str → Option Value} {base : Heap} {C : Addr}
theorem SumAt.but {H H' : Hp} {p h c : Addr} {M : Poly} {s k : Int} {cs : List Int} (S : SumAt K w C H p M) (B : But h c H H') (A : HAt H h c s k cs) : SumAt K w C H' p M := by
  obtain ⟨dx, d1, o, L, a1, ⟨xs, a2, a3⟩, a4⟩ := S
  have tt := B.tups A
  exact ⟨dx, d1, o, L, B _ _ a1 (ne_of a1 A.h (by intro z; cases z)) (ne_of a1 A.c (by intro z; cases z)), ⟨xs, B _ _ a2 (ne_of a2 A.h (by intro z; cases z)) (ne_of a2 A.c (by intro z; cases z)), a3.stay tt⟩, a4.stay tt⟩
theorem fn_or {CX : CXT} {k : Nat} {f : Addr} {fd : FuncData} {ps : List Str} {sp sp' : Sp} (F : FnOk P w K mg base CX k f fd ps sp) (G : FnOk P w K mg base CX k f fd ps sp') : FnOk P w K mg base CX k f fd ps (fun vs H Q E => sp vs H Q E ∨ sp' vs H Q E) :=
  ⟨fun vs H Q E q => q.elim (F.len vs H Q E) (G.len vs H Q E), fun A outer s H args us vs Q E hr he hb hv hs => hs.elim (F.run A outer s H args us vs Q E hr he hb hv) (G.run A outer s H args us vs Q E hr he hb hv)⟩
theorem TrOk.up {ns : List Str} : ∀ {t : Tr} {d : Nat}, TrOk ns d t → TrOk ns (d + 1) t
  | .num n, d, h => TrOk.num (by cases d <;> exact h) _
  | .name x, d, h => TrOk.name (by cases d <;> exact h) _
  | .bin _ _ _, 0, h => False.elim h
  | .bin _ _ _, _ + 1, ⟨a, b⟩ => ⟨a.up, b.up⟩
theorem evalB_pow {v : Str → Int} {B : Nat} (h : ∀ x, max 1 (v x).natAbs ≤ B) : ∀ p : Pr, evalB v p ≤ B ^ degP p
  | [] => Nat.le_refl 1
  | e :: r => by
    show (max 1 (v e.1).natAbs) ^ e.2.toNat * evalB v r ≤ B ^ (e.2.toNat + degP r)
    rw [Nat.pow_add]
    exact Nat.mul_le_mul (Nat.pow_le_pow_left (h e.1) _) (evalB_pow h r)
theorem expo_set {L : Pr} (hn : (L.map (·.1)).Nodup) (x : Str) (t : Int) (y : Str) : expo (putS L x t) y = if y = x then t else expo L y := by
  have a := expo_put hn x (t - expo L x) y
  have e : expo L x + (t - expo L x) = t := by omega
  rw [e] at a
  rw [a]
  by_cases z : y = x
  · rw [if_pos z, if_pos z.symm, z]
    omega
  · rw [if_neg z, if_neg fun q => z q.symm]
    omega
theorem sm_tree {ns : List Str} {t : Tr} {d : Nat} (h : TrOk ns d t) : Sm ns (nT d) (sT d) (2 ^ d) (polyT t) := ⟨fit_tree h, lo_tree h⟩
theorem Sm.totOkC {ns : List Str} {n S g n' S' g' : Nat} {M N : Poly} {x : Str} (h : Sm ns n S g M) (k : Sm ns n' S' g' N) (e : ns.length < 32) (a : g < 9) (b : n < 100000 ∧ n * 10 * (S * 2520) + S * 2520 < big ∧ 1 ≤ n' ∧ 1 ≤ S' ∧ S' ^ 9 < big ∧ n' ^ 9 < sizeLine ∧ g' < 1000 ∧ 9 * (n * 10 * (S * 2520) * S' ^ 9) < big) (c : 2 * (g + g' * 9 + 1) ^ ns.length < sizeLine) : TotOkC ns n S g n' S' g' x M N :=
  let ⟨b1, b2, b3, b4, b5, b6, b7, b8⟩ := b
  ⟨⟨h.fit, fun y hy => Nat.lt_of_le_of_lt (h.deg x y hy) a, e, b1, b2⟩, k.pw b3 b4 b5 b6 e b7, h.lo, k.lo, c, b8⟩
theorem opt3 {r : Int} (h0 : 0 ≤ r) (h3 : r < 3) (a b c : V) : ∃ v, v ∈ [a, b, c] ∧ atI [a, b, c] r = some v := by
  have : r = 0 ∨ r = 1 ∨ r = 2 := by omega
  rcases this with h | h | h
  · subst h
    exact ⟨a, by simp, rfl⟩
  · subst h
    exact ⟨b, by simp, rfl⟩
  · subst h
    exact ⟨c, by simp, rfl⟩
theorem opt4 {ns : List Str} {r : Int} (h0 : 0 ≤ r) (h4 : r < 4) (hl : ns.length = 4) : ∃ x, x ∈ ns ∧ atI (ns.map V.str) r = some (.str x) := by
  match ns, hl with
  | [a, b, c, d], _ =>
    have : r = 0 ∨ r = 1 ∨ r = 2 ∨ r = 3 := by omega
    rcases this with h | h | h | h
    · subst h
      exact ⟨a, by simp, rfl⟩
    · subst h
      exact ⟨b, by simp, rfl⟩
    · subst h
      exact ⟨c, by simp, rfl⟩
    · subst h
      exact ⟨d, by simp, rfl⟩
def spLaw (K : PySem.W.Frag) : Sp := fun vs H Q _ => ∃ (a : Addr) (ns : List Int), vs = [.ref a] ∧ SqL K H a (ns.map V.int) ∧ ns.length ≤ 63 ∧ ∀ H', Q (.bl true) H'
set_option maxHeartbeats 4000000 in
theorem ok_law {f : Addr} {fd : FuncData} (T : Txt K mg C) (FF : DefAt K mg "law" "law" s_law ["_law_script"] f fd) : FnOk P w K mg base CX0 20 f fd ["_law_script"] (spLaw K) := by
  obtain ⟨f0, fd0, D_law_names⟩ := T.d_law_names
  have G_law_names : FnOk P w K mg base CX0 2 f0 fd0 ["_law_h"] (spNames K) := ok_law_names T D_law_names
  obtain ⟨f1, fd1, D_law_tree⟩ := T.d_law_tree
  have G_law_tree : FnOk P w K mg base CX0 6 f1 fd1 ["_law_h", "_law_names_here", "_law_deep"] (fun vs H Q E => spTree K 4 vs H Q E ∨ spTree K 2 vs H Q E) := fn_or (ok_law_tree T D_law_tree 4) ((ok_law_tree T D_law_tree 2).mono (by decide))
  obtain ⟨f2, fd2, D_law_sum⟩ := T.d_law_sum
  have G_law_sum : FnOk P w K mg base CX0 10 f2 fd2 ["_law_tree_here"] (fun vs H Q E => spLSum K w C 4 vs H Q E ∨ spLSum K w C 3 vs H Q E) := fn_or (ok_law_sum T D_law_sum 4) ((ok_law_sum T D_law_sum 3).mono (by decide))
  obtain ⟨f3, fd3, D_added⟩ := T.d_added
  have G_added : FnOk P w K mg base CX0 5 f3 fd3 ["one", "other"] (spAdded K w C) := ok_added T D_added
  obtain ⟨f4, fd4, D_lessened⟩ := T.d_lessened
  have G_lessened : FnOk P w K mg base CX0 5 f4 fd4 ["one", "other"] (spLessened K w C) := ok_lessened T D_lessened
  obtain ⟨f6, fd6, D_sum_of_number⟩ := T.d_sum_of_number
  have G_sum_of_number : FnOk P w K mg base CX0 4 f6 fd6 ["n"] (spNumber K w C) := ok_sum_of_number T D_sum_of_number
  obtain ⟨f8, fd8, D_put_in⟩ := T.d_put_in
  have G_put_in : FnOk P w K mg base CX0 7 f8 fd8 ["given", "filling"] (spPutIn K w C) := ok_put_in T D_put_in
  obtain ⟨f9, fd9, D_same⟩ := T.d_same
  have G_same : FnOk P w K mg base CX0 1 f9 fd9 ["one", "other"] (spSame K w C) := ok_same T D_same
  obtain ⟨f10, fd10, D_totalled⟩ := T.d_totalled
  have G_totalled : FnOk P w K mg base CX0 7 f10 fd10 ["given", "x", "many"] (spTotalledC K w C) := ok_totalledC T D_totalled
  obtain ⟨f11, fd11, D_law_next⟩ := T.d_law_next
  have G_law_next : FnOk P w K mg base CX0 1 f11 fd11 ["_law_h", "_law_many"] spNext := ok_law_next T D_law_next
  obtain ⟨f12, fd12, D_worth⟩ := T.d_worth
  have G_worth : FnOk P w K mg base CX0 3 f12 fd12 ["given", "names"] (spWorth K w C) := ok_worth T D_worth
  obtain ⟨f13, fd13, D_law_point⟩ := T.d_law_point
  have G_law_point : FnOk P w K mg base CX0 2 f13 fd13 ["_law_h", "_law_names_here"] (spPoint K) := ok_law_point T D_law_point
  obtain ⟨f14, fd14, D_law_at⟩ := T.d_law_at
  have G_law_at : FnOk P w K mg base CX0 3 f14 fd14 ["_law_tree_here", "_law_point_here"] (spAt K 3) := ok_law_at T D_law_at 3
  obtain ⟨f15, fd15, D_law_by_turns⟩ := T.d_law_by_turns
  have G_law_by_turns : FnOk P w K mg base CX0 6 f15 fd15 ["_law_tree_here", "_law_x", "_law_many", "_law_point_here"] (spTurns K) := ok_law_by_turns T D_law_by_turns
  refine FF.F.ok sc_law (fun vs H Q E h => ?_) (fun cdv A outer s H vs Q E hr h => ?_)
  · obtain ⟨a, ns, rfl, _⟩ := h
    rfl
  · obtain ⟨a0, ns, rfl, hS, hlen, q⟩ := h
    refine ⟨_, (pss_cons (ps_set (i := 1) sc_law.nd rfl (.inl rfl) (pe_lst (pa_cons pe_int (pa_cons (pe_callTy call_list_of (by rfl) T.m_list (by decide +kernel) (pa_cons (pv 0) pa_nil)) (pa_cons pe_int pa_nil)))))
      (pss_cons (ps_set (i := 2) sc_law.nd rfl (.inl rfl) (pe_slice sl_list (pe_call G_law_names (hr.mono (by decide)) (by rfl) D_law_names.g D_law_names.F.kp D_law_names.b .nil pass0 (pa_cons (pv 1) pa_nil)) po_none (po_some pe_int)))
      (pss_cons (ps_set (i := 3) sc_law.nd rfl (.inl rfl) (pe_call G_law_tree (hr.mono (by decide)) (by rfl) D_law_tree.g D_law_tree.F.kp D_law_tree.b .nil pass0 (pa_cons (pv 1) (pa_cons (pv 2) (pa_cons pe_int pa_nil)))))
      (pss_cons (ps_set (i := 4) sc_law.nd rfl (.inl rfl) (pe_ix ix_list (pv 2) (pe_call G_law_next (hr.mono (by decide)) (by rfl) D_law_next.g D_law_next.F.kp D_law_next.b .nil pass0 (pa_cons (pv 1) (pa_cons pe_int pa_nil))) (fun _ _ => rfl)))
      (pss_cons (ps_set (i := 5) sc_law.nd rfl (.inl rfl) (pe_call G_law_tree (hr.mono (by decide)) (by rfl) D_law_tree.g D_law_tree.F.kp D_law_tree.b .nil pass0 (pa_cons (pv 1) (pa_cons (pv 2) (pa_cons pe_int pa_nil)))))
      (pss_cons (ps_set (i := 6) sc_law.nd rfl (.inl rfl) (pe_lst (pa_cons (pe_tup (pa_cons pe_str (pa_cons (pe_call G_law_next (hr.mono (by decide)) (by rfl) D_law_next.g D_law_next.F.kp D_law_next.b .nil pass0 (pa_cons (pv 1) (pa_cons pe_int pa_nil))) pa_nil))) (pa_cons (pe_tup (pa_cons pe_str (pa_cons (pv 5) (pa_cons (pv 5) pa_nil)))) pa_nil))))
      (pss_cons (ps_expr (pe_bm PySem.F.plainAttrs_list PySem.F.slot_list_append PySem.F.type_list_append mt_append (pv 6) (pa_cons (pe_tup (pa_cons pe_str (pa_cons (pe_tup (pa_cons pe_str (pa_cons (pe_ix ix_list (pv 2) pe_int (fun _ _ => rfl)) pa_nil))) (pa_cons (pe_tup (pa_cons pe_str (pa_cons (pe_call G_law_next (hr.mono (by decide)) (by rfl) D_law_next.g D_law_next.F.kp D_law_next.b .nil pass0 (pa_cons (pv 1) (pa_cons pe_int pa_nil))) pa_nil))) pa_nil)))) pa_nil)))
      (pss_cons (ps_set (i := 7) sc_law.nd rfl (.inl rfl) (pe_ix ix_list (pv 6) (pe_call G_law_next (hr.mono (by decide)) (by rfl) D_law_next.g D_law_next.F.kp D_law_next.b .nil pass0 (pa_cons (pv 1) (pa_cons pe_int pa_nil))) (fun _ _ => rfl)))
      (pss_cons (ps_set (i := 8) sc_law.nd rfl (.inl rfl) (pe_call G_law_sum (hr.mono (by decide)) (by rfl) D_law_sum.g D_law_sum.F.kp D_law_sum.b .nil pass0 (pa_cons (pv 3) pa_nil)))
      (pss_cons (ps_set (i := 9) sc_law.nd rfl (.inl rfl) (pe_call G_law_sum (hr.mono (by decide)) (by rfl) D_law_sum.g D_law_sum.F.kp D_law_sum.b .nil pass0 (pa_cons (pv 7) pa_nil)))
      (pss_cons (ps_set (i := 10) sc_law.nd rfl (.inl rfl) (pe_call G_totalled (hr.mono (by decide)) (by rfl) D_totalled.g D_totalled.F.kp D_totalled.b .nil pass0 (pa_cons (pv 8) (pa_cons (pv 4) (pa_cons (pv 9) pa_nil)))))
      (pss_cons (ps_for PassesOwn.never rfl (pi_range1 rfl T.m_range (pa_cons pe_int pa_nil)) (pg_name (i := 11) sc_law.nd rfl (.inl rfl)) (pss_cons (ps_set (i := 12) sc_law.nd rfl (.inl rfl) (pe_call G_law_point (hr.mono (by decide)) (by rfl) D_law_point.g D_law_point.F.kp D_law_point.b .nil pass0 (pa_cons (pv 1) (pa_cons (pv 2) pa_nil)))) (pss_cons (ps_if (pt_cmpR op_gt (pv 11) pe_int (nomark _)) (pss_cons (ps_dput (room1 hr) (pv 12) (pe_ix ix_list (pv 2) pe_int (fun _ _ => rfl)) (pe_call G_law_next (hr.mono (by decide)) (by rfl) D_law_next.g D_law_next.F.kp D_law_next.b .nil pass0 (pa_cons (pv 1) (pa_cons pe_int pa_nil))) rfl) (pss_one (ps_dput (room1 hr) (pv 12) (pe_ix ix_list (pv 2) pe_int (fun _ _ => rfl)) (pe_call G_law_next (hr.mono (by decide)) (by rfl) D_law_next.g D_law_next.F.kp D_law_next.b .nil pass0 (pa_cons (pv 1) (pa_cons pe_int pa_nil))) rfl))) pss_nil) (pss_cons (ps_set (i := 13) sc_law.nd rfl (.inl rfl) (pe_call G_law_at (hr.mono (by decide)) (by rfl) D_law_at.g D_law_at.F.kp D_law_at.b .nil pass0 (pa_cons (pv 7) (pa_cons (pv 12) pa_nil)))) (pss_one (ps_if (pt_chain op_le op_le pe_int (pv 13) pe_int) (pss_one (ps_if (pt_cmpR (op_neD hr.units) (pe_call G_worth (hr.mono (by decide)) (by rfl) D_worth.g D_worth.F.kp D_worth.b .nil pass0 (pa_cons (pv 10) (pa_cons (pv 12) pa_nil))) (pe_tup (pa_cons (pe_call G_law_by_turns (hr.mono (by decide)) (by rfl) D_law_by_turns.g D_law_by_turns.F.kp D_law_by_turns.b .nil pass0 (pa_cons (pv 3) (pa_cons (pv 4) (pa_cons (pv 13) (pa_cons (pv 12) pa_nil))))) (pa_cons pe_int pa_nil))) (nomark _)) (pss_one (ps_ret pe_bl)) pss_nil)) pss_nil))))))
      (pss_cons (ps_set (i := 14) sc_law.nd rfl (.inl rfl) (pe_call G_totalled (hr.mono (by decide)) (by rfl) D_totalled.g D_totalled.F.kp D_totalled.b .nil pass0 (pa_cons (pv 8) (pa_cons (pv 4) (pa_cons (pe_call G_added (hr.mono (by decide)) (by rfl) D_added.g D_added.F.kp D_added.b .nil pass0 (pa_cons (pv 9) (pa_cons (pe_call G_sum_of_number (hr.mono (by decide)) (by rfl) D_sum_of_number.g D_sum_of_number.F.kp D_sum_of_number.b .nil pass0 (pa_cons pe_int pa_nil)) pa_nil))) pa_nil)))))
      (pss_cons (ps_if (pt_cmpR op_isnot_bl (pe_call G_same (hr.mono (by decide)) (by rfl) D_same.g D_same.F.kp D_same.b .nil pass0 (pa_cons (pe_call G_lessened (hr.mono (by decide)) (by rfl) D_lessened.g D_lessened.F.kp D_lessened.b .nil pass0 (pa_cons (pv 14) (pa_cons (pv 10) pa_nil))) (pa_cons (pe_call G_put_in (hr.mono (by decide)) (by rfl) D_put_in.g D_put_in.F.kp D_put_in.b .nil pass0 (pa_cons (pv 8) (pa_cons (pe_disp (pps_cons (pv 4) (pv 9) pps_nil) rfl rfl (by simp) (by simp)) pa_nil))) pa_nil))) pe_bl (nomark _)) (pss_one (ps_ret pe_bl)) pss_nil)
      (pss_one (ps_ret (pe_cmpR (op_eqN (room72 hr)) (pe_fld (pe_call G_totalled (hr.mono (by decide)) (by rfl) D_totalled.g D_totalled.F.kp D_totalled.b .nil pass0 (pa_cons (pv 8) (pa_cons (pv 4) (pa_cons (pe_call G_sum_of_number (hr.mono (by decide)) (by rfl) D_sum_of_number.g D_sum_of_number.F.kp D_sum_of_number.b .nil pass0 (pa_cons pe_int pa_nil)) pa_nil)))) rfl) pe_newN (nomark _)))))))))))))))))), ?_⟩
    refine ⟨_, rfl, a0, _, rfl, .inl hS, fun c hc => ⟨(by show 3 ≤ sizeLine; decide), fun h hh => ?_⟩⟩
    have A0 : HAt (upd (upd H c (.lst (ns.map V.int))) h (.lst [.int 19, .ref c, .int 0])) h c 19 0 ns := by
      have nhc : c ≠ h := ne_of_none upd_same hh
      exact ⟨upd_same, by rw [upd_ne nhc]; exact upd_same, hlen⟩
    refine ⟨_, rfl, h, c, _, _, _, rfl, A0, fun s2 k2 cs2 nm ln H3 nok A3 B3 nl nlh nlc el => ?_⟩
    refine ⟨4, rfl, ln, _, rfl, SqL.of el, fun l4 nl4 => ?_⟩
    have ec : cutV (nm.map V.str) none (some 4) = (nm.take 4).map V.str := by
      unfold cutV
      have e0 : HT.sIx (nm.map V.str).length 0 none = 0 := rfl
      have e1 : HT.sIx (nm.map V.str).length (nm.map V.str).length (some 4) = 4 := by
        rw [List.length_map, nok.len]
        rfl
      rw [e0, e1, List.drop_zero, List.map_take]
    rw [ec]
    have hl4 : l4 ≠ h := (ne_of_none A3.h nl4).symm
    have hc4 : l4 ≠ c := (ne_of_none A3.c nl4).symm
    obtain ⟨na, nb, nc', n3, enh⟩ : ∃ x y z t, nm.take 4 = [x, y, z, t] := by
      match nm, nok.len with
      | [x, y, z, t, _, _, _], _ => exact ⟨x, y, z, t, rfl⟩
    have s34 : Same H3 (upd H3 l4 (.lst ((nm.take 4).map V.str))) := same_upd nl4
    have A := A3.same s34
    have el4 : (upd H3 l4 (.lst ((nm.take 4).map V.str))) l4 = some (.lst ((nm.take 4).map V.str)) := upd_same
    generalize (upd H3 l4 (.lst ((nm.take 4).map V.str))) = H4 at A el4
    have hnh : (nm.take 4).length = 4 := by rw [enh]; rfl
    revert el4 hnh enh
    generalize nm.take 4 = nh
    intro enh el4 hnh
    have h32 : nh.length < 32 := by omega
    have at0 : atI (nh.map V.str) 0 = some (.str na) := by rw [enh]; rfl
    have at3 : atI (nh.map V.str) 3 = some (.str n3) := by rw [enh]; rfl
    have mem0 : na ∈ nh := by rw [enh]; simp
    have mem3 : n3 ∈ nh := by rw [enh]; simp
    clear A3 B3 el ec s34 A0
    -- a tree, a name
    refine ⟨_, rfl, _, rfl, .inl ⟨h, c, l4, _, _, _, nh, rfl, A, el4, hl4, hc4, by omega, by omega, fun s5 k5 cs5 p1 t1 H5 A5 B5 T1 ok1 => ?_⟩⟩
    have el5 := B5 _ _ el4 hl4 hc4
    refine ⟨_, rfl, _, rfl, h, c, _, _, 4, _, rfl, by decide, by decide, A5, fun s6 k6 cs6 r6 H6 r60 r64 A6 B6 => ?_⟩
    have el6 := B6 _ _ el5 hl4 hc4
    have T1 := T1.stay (B6.tups A5)
    obtain ⟨x, hx, atx⟩ := opt4 r60 r64 hnh
    refine ⟨l4, _, _, _, rfl, rfl, SqL.of el6, atx, ?_⟩
    -- another tree, three ways
    refine ⟨_, rfl, _, rfl, .inr ⟨h, c, l4, _, _, _, nh, rfl, A6, el6, hl4, hc4, by omega, by omega, fun s7 k7 cs7 p2 t2 H7 A7 B7 T2 ok2 => ?_⟩⟩
    have el7 := B7 _ _ el6 hl4 hc4
    have T1 := T1.stay (B7.tups A6)
    refine ⟨_, rfl, h, c, _, _, 31, _, rfl, by decide, by decide, A7, fun s8 k8 cs8 r8 H8 r80 r831 A8 B8 => ⟨(by show 2 ≤ sizeLine; decide), fun ta nta => ?_⟩⟩
    have el8 := B8 _ _ el7 hl4 hc4
    have T1 := T1.stay (B8.tups A7)
    have T2 := T2.stay (B8.tups A7)
    have sa : Same H8 (upd H8 ta (.tup [.str "num", .int r8])) := same_upd nta
    have Ta : TreeAt K (upd H8 ta (.tup [.str "num", .int r8])) ta (.num r8) := SqT.of upd_same
    have A := A8.same sa
    have el := sa _ _ el8
    have T1 := T1.stay (TupsStay.same sa)
    have T2 := T2.stay (TupsStay.same sa)
    generalize (upd H8 ta (.tup [.str "num", .int r8])) = H9 at sa Ta A el T1 T2
    refine ⟨_, rfl, _, rfl, (by show 3 ≤ sizeLine; decide), fun tb ntb => ⟨(by show 2 ≤ sizeLine; decide), fun P nP => ?_⟩⟩
    have sb : Same H9 (upd H9 tb (.tup [.str "times", .ref p2, .ref p2])) := same_upd ntb
    have Tb : TreeAt K (upd H9 tb (.tup [.str "times", .ref p2, .ref p2])) tb (.bin .times t2 t2) := ⟨p2, p2, SqT.of upd_same, T2.stay (TupsStay.same sb), T2.stay (TupsStay.same sb)⟩
    have A := A.same sb
    have el := sb _ _ el
    have T1 := T1.stay (TupsStay.same sb)
    have Ta := Ta.stay (TupsStay.same sb)
    generalize (upd H9 tb (.tup [.str "times", .ref p2, .ref p2])) = H10 at sb Tb A el T1 Ta nP
    have sP : Same H10 (upd H10 P (.lst [.ref ta, .ref tb])) := same_upd nP
    have nPh : P ≠ h := (ne_of_none A.h nP).symm
    have nPc : P ≠ c := (ne_of_none A.c nP).symm
    have nPl : l4 ≠ P := ne_of_none el nP
    have eP : (upd H10 P (.lst [.ref ta, .ref tb])) P = some (.lst [.ref ta, .ref tb]) := upd_same
    have A := A.same sP
    have el := sP _ _ el
    have T1 := T1.stay (TupsStay.same sP)
    have Ta := Ta.stay (TupsStay.same sP)
    have Tb := Tb.stay (TupsStay.same sP)
    generalize (upd H10 P (.lst [.ref ta, .ref tb])) = H11 at sP eP A el T1 Ta Tb
    refine ⟨_, rfl, .inl ⟨rfl, _, SqL.of eP⟩, _, rfl, l4, _, _, _, rfl, rfl, SqL.of el, at3, (by show 2 ≤ sizeLine; decide), fun tn ntn => ?_⟩
    have sn : Same H11 (upd H11 tn (.tup [.str "name", .str n3])) := same_upd ntn
    have Tn : TreeAt K (upd H11 tn (.tup [.str "name", .str n3])) tn (.name n3) := SqT.of upd_same
    have A := A.same sn
    have el := sn _ _ el
    have eP := sn _ _ eP
    have T1 := T1.stay (TupsStay.same sn)
    have Ta := Ta.stay (TupsStay.same sn)
    have Tb := Tb.stay (TupsStay.same sn)
    generalize (upd H11 tn (.tup [.str "name", .str n3])) = H12 at sn eP A el T1 Ta Tb Tn
    refine ⟨_, rfl, h, c, _, _, 9, _, rfl, by decide, by decide, A, fun s13 k13 cs13 r13 H13 r130 r139 A13 B13 => ⟨(by show 2 ≤ sizeLine; decide), fun tm ntm => ?_⟩⟩
    have tt13 := B13.tups A
    have el := B13 _ _ el hl4 hc4
    have eP := B13 _ _ eP nPh nPc
    have T1 := T1.stay tt13
    have Ta := Ta.stay tt13
    have Tb := Tb.stay tt13
    have Tn := Tn.stay tt13
    have sm : Same H13 (upd H13 tm (.tup [.str "num", .int r13])) := same_upd ntm
    have Tm : TreeAt K (upd H13 tm (.tup [.str "num", .int r13])) tm (.num r13) := SqT.of upd_same
    have A := A13.same sm
    have el := sm _ _ el
    have eP := sm _ _ eP
    have T1 := T1.stay (TupsStay.same sm)
    have Ta := Ta.stay (TupsStay.same sm)
    have Tb := Tb.stay (TupsStay.same sm)
    have Tn := Tn.stay (TupsStay.same sm)
    generalize (upd H13 tm (.tup [.str "num", .int r13])) = H14 at sm eP A el T1 Ta Tb Tn Tm
    refine ⟨(by show 3 ≤ sizeLine; decide), fun tc ntc => ?_⟩
    have sc : Same H14 (upd H14 tc (.tup [.str "add", .ref tn, .ref tm])) := same_upd ntc
    have Tc : TreeAt K (upd H14 tc (.tup [.str "add", .ref tn, .ref tm])) tc (.bin .add (.name n3) (.num r13)) := ⟨tn, tm, SqT.of upd_same, Tn.stay (TupsStay.same sc), Tm.stay (TupsStay.same sc)⟩
    have A := A.same sc
    have el := sc _ _ el
    have eP := sc _ _ eP
    have T1 := T1.stay (TupsStay.same sc)
    have Ta := Ta.stay (TupsStay.same sc)
    have Tb := Tb.stay (TupsStay.same sc)
    generalize (upd H14 tc (.tup [.str "add", .ref tn, .ref tm])) = H15 at sc eP A el T1 Ta Tb Tc
    refine ⟨P, _, _, rfl, rfl, eP, (by show 2 < sizeLine; decide), ?_⟩
    have eE : Else P H15 (upd H15 P (.lst [.ref ta, .ref tb, .ref tc])) := .upd
    have tE := eE.tups eP True.intro
    have A := A.set (o := .lst [.ref ta, .ref tb, .ref tc]) nPh nPc
    have el := eE _ _ el nPl
    have T1 := T1.stay tE
    have Ta := Ta.stay tE
    have Tb := Tb.stay tE
    have Tc := Tc.stay tE
    have eP : (upd H15 P (.lst [.ref ta, .ref tb, .ref tc])) P = some (.lst [.ref ta, .ref tb, .ref tc]) := upd_same
    refine ⟨_, rfl, _, rfl, h, c, _, _, 3, _, rfl, by decide, by decide, A, fun s16 k16 cs16 r16 H16 r160 r163 A16 B16 => ?_⟩
    have tt16 := B16.tups A
    have el := B16 _ _ el hl4 hc4
    have eP := B16 _ _ eP nPh nPc
    have T1 := T1.stay tt16
    have Ta := Ta.stay tt16
    have Tb := Tb.stay tt16
    have Tc := Tc.stay tt16
    obtain ⟨vo, hvo, ato⟩ := opt3 r160 r163 (V.ref ta) (V.ref tb) (V.ref tc)
    obtain ⟨po, to_, rfl, To, oko⟩ : ∃ po t, vo = V.ref po ∧ TreeAt K H16 po t ∧ TrOk nh 2 t := by
      simp only [List.mem_cons, List.not_mem_nil, or_false] at hvo
      rcases hvo with z | z | z
      · exact ⟨ta, _, z, Ta, TrOk.num (by omega) _⟩
      · exact ⟨tb, _, z, Tb, ⟨ok2, ok2⟩⟩
      · exact ⟨tc, _, z, Tc, ⟨TrOk.name mem3 _, TrOk.num (by omega) _⟩⟩
    clear A A8 el8 B8 A7 el7 B7 A6 el6 B6 A5 B5 el5 Ta Tb Tc eE tE sc sm sn sP sb sa Tn Tm nPl T2 A13 B13
    refine ⟨P, _, _, _, rfl, rfl, SqL.of eP, ato, ?_⟩
    clear eP ato hvo B16
    -- three sums
    refine ⟨_, rfl, .inl ⟨p1, t1, nh, rfl, T1, ok1, by decide, h32, fun x1 H17 S1 s17 nx1 => ?_⟩⟩
    refine ⟨_, rfl, .inr ⟨po, to_, nh, rfl, To.stay (TupsStay.same s17), oko, by decide, h32, fun x2 H18 Sn s18 nx2 => ?_⟩⟩
    have s178 := s17.trans s18
    have A := A16.same s178
    have el := s178 _ _ el
    have T1 := T1.stay (TupsStay.same s178)
    have To := To.stay (TupsStay.same s178)
    have S1 := S1.same s18
    have M1 := sm_tree ok1
    have N1 := sm_tree oko
    have vN : ∀ L : Pr, evM (expo L) (polyT to_) = (valT L to_ : Rat) := fun L => ev_tree L oko
    have vM : ∀ L : Pr, evM (expo L) (polyT t1) = (valT L t1 : Rat) := fun L => ev_tree L ok1
    have tok : TotOkC nh (nT 3) (sT 3) 8 (nT 2) (sT 2) 4 x (polyT t1) (polyT to_) := M1.totOkC N1 h32 (by decide) (by decide +kernel) (by rw [hnh]; decide +kernel)
    refine ⟨_, rfl, _, rfl, _, rfl, x1, x2, x, polyT t1, polyT to_, nh, nT 3, sT 3, 8, nT 2, sT 2, 4, rfl, S1, Sn, tok, fun xf H19 Sf gf s19 nxf => ?_⟩
    have A := A.same s19
    have el := s19 _ _ el
    have T1 := T1.stay (TupsStay.same s19)
    have To := To.stay (TupsStay.same s19)
    have S1 := S1.same s19
    have Sn := Sn.same s19
    clear A16 s17 s18 s178 s19 nx1 nx2 nxf
    refine ⟨4, rfl, by decide, by decide, for_range (n := 4) (fun i σ H2 => ∃ (v11 v12 v13 v14 : Option V) (s k : Int) (cs : List Int), σ = [some (.ref a0), some (.ref h), some (.ref l4), some (.ref p1), some (.str x), some (.ref p2), some (.ref P), some (.ref po), some (.ref x1), some (.ref x2), some (.ref xf), v11, v12, v13, v14] ∧ HAt H2 h c s k cs ∧ H2 l4 = some (.lst (nh.map V.str)) ∧ TreeAt K H2 p1 t1 ∧ TreeAt K H2 po to_ ∧ SumAt K w C H2 x1 (polyT t1) ∧ SumAt K w C H2 x2 (polyT to_) ∧ SumAt K w C H2 xf (totalM x (polyT t1) (polyT to_)))
      ⟨none, none, none, none, _, _, _, rfl, A, el, T1, To, S1, Sn, Sf⟩ ?_ ?_⟩
    · clear A el T1 To S1 Sn Sf
      rintro i σ H2 hi ⟨v11, v12, v13, v14, s2, k2, cs2, rfl, A, el, T1, To, S1, Sn, Sf⟩
      refine ⟨_, rfl, _, rfl, h, c, l4, _, _, _, nh, rfl, A, el, hl4, hc4, by omega, fun s9 k9 cs9 dp L HT A9 B9 ndp edp pok => ?_⟩
      have tt9 := B9.tups A
      have el := B9 _ _ el hl4 hc4
      have T1 := T1.stay tt9
      have To := To.stay tt9
      have S1 := S1.but B9 A
      have Sn := Sn.but B9 A
      have Sf := Sf.but B9 A
      clear A B9 tt9
      have ndh : dp ≠ h := ne_of edp A9.h (by intro z; cases z)
      have ndc : dp ≠ c := ne_of edp A9.c (by intro z; cases z)
      have lenL : ∀ L2 : Pr, PointOk nh L2 → (dSI L2).length < sizeLine := fun L2 p2 => by
        rw [dSI_len]
        have z := nodup_len (m := nh) p2.nd fun y hy => by
          obtain ⟨e, he, ee⟩ := List.mem_map.mp hy
          rw [← ee]
          exact p2.of e he
        rw [List.length_map] at z
        rw [sizeLine_eq]
        omega
      refine ⟨_, rfl, _, _, rfl, rfl, _, rfl, ite2 (fun z => ?_) (fun z => ?_)⟩
      · refine ⟨_, rfl, h, c, _, _, 20, _, rfl, by decide, by decide, A9, fun s3 k3 cs3 r3 H3 r30 r31 A3 B3 => ?_⟩
        have tt := B3.tups A9
        have el := B3 _ _ el hl4 hc4
        have edp := B3 _ _ edp ndh ndc
        have T1 := T1.stay tt
        have To := To.stay tt
        have S1 := S1.but B3 A9
        have Sn := Sn.but B3 A9
        have Sf := Sf.but B3 A9
        refine ⟨_, rfl, _, rfl, l4, _, _, _, rfl, rfl, SqL.of el, at3, dp, _, rfl, DPut.k (k := .inr n3) edp (lenL L pok), ?_⟩
        rw [dSI_put]
        have pok := pok.put (v := r3) mem3 (by omega)
        have eE : Else dp H3 (upd H3 dp (.dK (dSI (putS L n3 r3)))) := .upd
        have tE := eE.tups edp True.intro
        have A := A3.set (o := .dK (dSI (putS L n3 r3))) ndh ndc
        have el := eE _ _ el (ne_of el edp (by intro z; cases z))
        have T1 := T1.stay tE
        have To := To.stay tE
        have S1 := S1.else eE edp
        have Sn := Sn.else eE edp
        have Sf := Sf.else eE edp
        have edp : (upd H3 dp (.dK (dSI (putS L n3 r3)))) dp = some (.dK (dSI (putS L n3 r3))) := upd_same
        refine ⟨_, rfl, h, c, _, _, 5, _, rfl, by decide, by decide, A, fun s4 k4 cs4 r4 H4 r40 r41 A4 B4 => ?_⟩
        have tt := B4.tups A
        have el := B4 _ _ el hl4 hc4
        have edp := B4 _ _ edp ndh ndc
        have T1 := T1.stay tt
        have To := To.stay tt
        have S1 := S1.but B4 A
        have Sn := Sn.but B4 A
        have Sf := Sf.but B4 A
        refine ⟨_, rfl, _, rfl, l4, _, _, _, rfl, rfl, SqL.of el, at0, dp, _, rfl, DPut.k (k := .inr na) edp (lenL _ pok), ?_⟩
        rw [dSI_put]
        have pok := pok.put (v := r4) mem0 (by omega)
        have eF : Else dp H4 (upd H4 dp (.dK (dSI (putS (putS L n3 r3) na r4)))) := .upd
        have tF := eF.tups edp True.intro
        have A := A4.set (o := .dK (dSI (putS (putS L n3 r3) na r4))) ndh ndc
        have el := eF _ _ el (ne_of el edp (by intro z; cases z))
        have T1 := T1.stay tF
        have To := To.stay tF
        have S1 := S1.else eF edp
        have Sn := Sn.else eF edp
        have Sf := Sf.else eF edp
        have edp : (upd H4 dp (.dK (dSI (putS (putS L n3 r3) na r4)))) dp = some (.dK (dSI (putS (putS L n3 r3) na r4))) := upd_same
        generalize (upd H4 dp (.dK (dSI (putS (putS L n3 r3) na r4)))) = H5 at A el T1 To S1 Sn Sf edp
        generalize putS (putS L n3 r3) na r4 = L2 at pok edp
        refine ⟨_, rfl, _, rfl, po, dp, to_, nh, L2, rfl, To, oko, by decide, edp, pok.nd, point_small pok, ?_⟩
        have vt := vN L2
        have fin : ∃ v11 v12 v13 v14 : Option V, True := ⟨none, none, none, none, trivial⟩
        clear fin
        generalize hv : valT L2 to_ = vv at vt
        refine ⟨_, rfl, _, _, rfl, rfl, _, rfl, ite2 (fun lo => ?_) (fun lo => ?_)⟩
        · refine ⟨_, _, rfl, rfl, _, rfl, ite2 (fun up => ?_) (fun up => ?_)⟩
          · have lo0 : 0 ≤ vv := by simpa using lo
            have up30 : vv ≤ 30 := by simpa using up
            obtain ⟨n, rfl⟩ : ∃ n : Nat, vv = (n : Int) := ⟨vv.toNat, by omega⟩
            have sml := point_small pok
            have evf : ∀ y ∈ totalM x (polyT t1) (polyT to_), evalB (expo L2) y.1 ≤ 1000000 ^ 44 ∧ ∀ e ∈ y.1, -(2 ^ 62) ≤ e.2 ∧ e.2 < 2 ^ 62 := fun y hy => by
              have o := gf.good.pr y hy
              have d44 : degP y.1 ≤ 44 := o.2
              refine ⟨Nat.le_trans (evalB_pow (B := 1000000) (fun z => by have := sml z; omega) y.1) (pow_up (by decide) d44), fun e he => ?_⟩
              have a := exp_le_deg he
              have b := o.1.1.one e he
              omega
            refine ⟨_, rfl, _, rfl, xf, dp, _, L2, _, _, 2520, _, 1000000 ^ 44, rfl, Sf, edp, pok.nd, gf, by decide, by decide +kernel, by decide +kernel, by decide +kernel, by decide +kernel, evf, fun tw H6 Sw sw => ?_⟩
            have evt : evM (expo L2) (totalM x (polyT t1) (polyT to_)) = ((byT t1 x L2 n : Int) : Rat) := ev_total (M := polyT t1) (N := polyT to_) M1.can (fun y hy => Nat.lt_of_le_of_lt (M1.deg x y hy) (by decide)) N1.can (expo L2) (fun i => expo (putS L2 x (i : Int))) (fun i y ny => by rw [expo_set pok.nd, if_neg ny]) (fun i => by rw [expo_set pok.nd, if_pos rfl]) vt (tot := fun n => ((byT t1 x L2 n : Int) : Rat)) rfl (fun i => by
              show ((byT t1 x L2 i + valT (putS L2 x (i : Int)) t1 : Int) : Rat) = _
              rw [Rat.intCast_add, vM])
            have Sw : SqT K H6 tw (ratV (evM (expo L2) (totalM x (polyT t1) (polyT to_)))) := Sw
            rw [evt, ratV_int] at Sw
            refine ⟨_, rfl, _, rfl, _, rfl, _, rfl, p1, dp, x, n, t1, nh, L2, rfl, T1.stay (TupsStay.same sw), ok1, by omega, sw _ _ edp, pok, by omega, hx, fun H7 s7 => ⟨(by show 2 ≤ sizeLine; decide), fun tu ntu => ?_⟩⟩
            have st : Same H7 (upd H7 tu (.tup [.int (byT t1 x L2 n), .int 1])) := same_upd ntu
            have sall := (sw.trans s7).trans st
            have Sw := SqT.keeps Sw (TupsStay.same (s7.trans st))
            refine ⟨.tuple [.int _, .int _], .tuple [.int _, .int _], .tup Sw (.cons (.int _) (.cons (.int _) .nil)), .tup (SqT.of upd_same) (.cons (.int _) (.cons (.int _) .nil)), by simp [SeqAt.shaped, PyData.canLay0, PyData.canLayAll0, PyData.depth, PyData.depthAll], by simp [SeqAt.shaped, PyData.canLay0, PyData.canLayAll0, PyData.depth, PyData.depthAll], _, rfl, ite2 (fun e => ?_) (fun e => ?_)⟩
            · simp [PyData.eqv, PyData.eqvAll] at e
            · exact ⟨_, _, _, _, _, _, _, rfl, A.same sall, sall _ _ el, T1.stay (TupsStay.same sall), To.stay (TupsStay.same sall), S1.same sall, Sn.same sall, Sf.same sall⟩
          · exact ⟨_, _, _, _, _, _, _, rfl, A, el, T1, To, S1, Sn, Sf⟩
        · exact ⟨_, rfl, ite2 (fun e => absurd e (by decide)) (fun _ => ⟨_, _, _, _, _, _, _, rfl, A, el, T1, To, S1, Sn, Sf⟩)⟩
      · have A := A9
        refine ⟨_, rfl, _, rfl, po, dp, to_, nh, L, rfl, To, oko, by decide, edp, pok.nd, point_small pok, ?_⟩
        have vt := vN L
        have fin : ∃ v11 v12 v13 v14 : Option V, True := ⟨none, none, none, none, trivial⟩
        clear fin
        generalize hv : valT L to_ = vv at vt
        refine ⟨_, rfl, _, _, rfl, rfl, _, rfl, ite2 (fun lo => ?_) (fun lo => ?_)⟩
        · refine ⟨_, _, rfl, rfl, _, rfl, ite2 (fun up => ?_) (fun up => ?_)⟩
          · have lo0 : 0 ≤ vv := by simpa using lo
            have up30 : vv ≤ 30 := by simpa using up
            obtain ⟨n, rfl⟩ : ∃ n : Nat, vv = (n : Int) := ⟨vv.toNat, by omega⟩
            have sml := point_small pok
            have evf : ∀ y ∈ totalM x (polyT t1) (polyT to_), evalB (expo L) y.1 ≤ 1000000 ^ 44 ∧ ∀ e ∈ y.1, -(2 ^ 62) ≤ e.2 ∧ e.2 < 2 ^ 62 := fun y hy => by
              have o := gf.good.pr y hy
              have d44 : degP y.1 ≤ 44 := o.2
              refine ⟨Nat.le_trans (evalB_pow (B := 1000000) (fun z => by have := sml z; omega) y.1) (pow_up (by decide) d44), fun e he => ?_⟩
              have a := exp_le_deg he
              have b := o.1.1.one e he
              omega
            refine ⟨_, rfl, _, rfl, xf, dp, _, L, _, _, 2520, _, 1000000 ^ 44, rfl, Sf, edp, pok.nd, gf, by decide, by decide +kernel, by decide +kernel, by decide +kernel, by decide +kernel, evf, fun tw H6 Sw sw => ?_⟩
            have evt : evM (expo L) (totalM x (polyT t1) (polyT to_)) = ((byT t1 x L n : Int) : Rat) := ev_total (M := polyT t1) (N := polyT to_) M1.can (fun y hy => Nat.lt_of_le_of_lt (M1.deg x y hy) (by decide)) N1.can (expo L) (fun i => expo (putS L x (i : Int))) (fun i y ny => by rw [expo_set pok.nd, if_neg ny]) (fun i => by rw [expo_set pok.nd, if_pos rfl]) vt (tot := fun n => ((byT t1 x L n : Int) : Rat)) rfl (fun i => by
              show ((byT t1 x L i + valT (putS L x (i : Int)) t1 : Int) : Rat) = _
              rw [Rat.intCast_add, vM])
            have Sw : SqT K H6 tw (ratV (evM (expo L) (totalM x (polyT t1) (polyT to_)))) := Sw
            rw [evt, ratV_int] at Sw
            refine ⟨_, rfl, _, rfl, _, rfl, _, rfl, p1, dp, x, n, t1, nh, L, rfl, T1.stay (TupsStay.same sw), ok1, by omega, sw _ _ edp, pok, by omega, hx, fun H7 s7 => ⟨(by show 2 ≤ sizeLine; decide), fun tu ntu => ?_⟩⟩
            have st : Same H7 (upd H7 tu (.tup [.int (byT t1 x L n), .int 1])) := same_upd ntu
            have sall := (sw.trans s7).trans st
            have Sw := SqT.keeps Sw (TupsStay.same (s7.trans st))
            refine ⟨.tuple [.int _, .int _], .tuple [.int _, .int _], .tup Sw (.cons (.int _) (.cons (.int _) .nil)), .tup (SqT.of upd_same) (.cons (.int _) (.cons (.int _) .nil)), by simp [SeqAt.shaped, PyData.canLay0, PyData.canLayAll0, PyData.depth, PyData.depthAll], by simp [SeqAt.shaped, PyData.canLay0, PyData.canLayAll0, PyData.depth, PyData.depthAll], _, rfl, ite2 (fun e => ?_) (fun e => ?_)⟩
            · simp [PyData.eqv, PyData.eqvAll] at e
            · exact ⟨_, _, _, _, _, _, _, rfl, A.same sall, sall _ _ el, T1.stay (TupsStay.same sall), To.stay (TupsStay.same sall), S1.same sall, Sn.same sall, Sf.same sall⟩
          · exact ⟨_, _, _, _, _, _, _, rfl, A, el, T1, To, S1, Sn, Sf⟩
        · exact ⟨_, rfl, ite2 (fun e => absurd e (by decide)) (fun _ => ⟨_, _, _, _, _, _, _, rfl, A, el, T1, To, S1, Sn, Sf⟩)⟩
    · clear A el T1 To S1 Sn Sf
      rintro σ H2 ⟨v11, v12, v13, v14, s2, k2, cs2, rfl, A, el, T1, To, S1, Sn, Sf⟩
      clear A el T1 To vN vM
      have c1 : Sm nh 1 1 0 (addM [] [] ((1 : Int) : Rat)) := Sm.num nh 1 (by decide)
      have N2 : Sm nh (nT 2 + 1) (sT 2 + 1) 4 (sumM (polyT to_) (addM [] [] ((1 : Int) : Rat))) := Sm.plus (g := 4) N1 (c1.mono (Nat.le_refl _) (Nat.le_refl _) (by decide))
      refine ⟨_, rfl, _, rfl, _, rfl, 1, rfl, by decide +kernel, fun y1 H3 Sy s3 n3 => ?_⟩
      have S1 := S1.same s3
      have Sn := Sn.same s3
      have Sf := Sf.same s3
      refine ⟨x2, y1, _, _, Of nh, _, _, 1, _, _, rfl, ⟨Sn, Sy, N1.fit, c1.fit, by decide, by decide +kernel⟩, by decide +kernel, by decide +kernel, fun y2 H4 Sz s4 n4 => ?_⟩
      have S1 := S1.same s4
      have Sn := Sn.same s4
      have Sf := Sf.same s4
      refine ⟨x1, y2, x, polyT t1, _, nh, nT 3, sT 3, 8, nT 2 + 1, sT 2 + 1, 4, rfl, S1, Sz, M1.totOkC N2 h32 (by decide) (by decide +kernel) (by rw [hnh]; decide +kernel), fun xm H5 Sm_ gm s5 n5 => ?_⟩
      have S1 := S1.same s5
      have Sn := Sn.same s5
      have Sf := Sf.same s5
      have es : mkR (sumM (polyT to_) (addM [] [] ((1 : Int) : Rat))) N2.can = mkR (polyT to_) N1.can + 1 := by
        rw [mk_sum (hM := N1.can) (hN := c1.can) N1.fit.nd, mk_num 1]
        rfl
      have em : eqM (sumM (totalM x (polyT t1) (sumM (polyT to_) (addM [] [] ((1 : Int) : Rat)))) (negM (totalM x (polyT t1) (polyT to_)))) (putInM (F1 x (polyT to_)) (polyT t1)) = true := eqM_of (gm.plus gf.neg).good (Sm.inFit (x := x) (top := 8) M1 N1 h32 (by decide +kernel)).res.good fun f => by
        have z := tot_more (x := x) M1.can (fun y hy => Nat.lt_of_le_of_lt (M1.deg x y hy) (by decide)) N1.can N2.can es f
        rw [lin_sumM f _ gm.good.nd, lin_neg, ← z]
        grind
      refine ⟨_, rfl, _, rfl, xm, xf, _, _, OfG nh (8 + 4 * 9), _, _, 2520, _, _, rfl, ⟨Sm_, Sf, gm, gf, by decide, by decide +kernel⟩, by decide +kernel, by rw [hnh]; decide +kernel, fun xd H6 Sd s6 n6 => ?_⟩
      have S1 := S1.same s6
      have Sn := Sn.same s6
      refine ⟨_, rfl, ?_⟩
      intro d nd
      refine ⟨_, rfl, _, rfl, upd_same, [(.inr x, .ref x2)], rfl, (by show 1 ≤ 15; decide), ?_⟩
      have sD : Same H6 (upd (upd H6 d (.dK [])) d (.dK (mergeK [] [(.inr x, .ref x2)]))) := Else.fresh nd (same_upd nd) .upd
      have S1 := S1.same sD
      have Sd := Sd.same sD
      have FA : FillAt K w C (upd (upd H6 d (.dK [])) d (.dK (mergeK [] [(.inr x, .ref x2)]))) d (F1 x (polyT to_)) _ := fill_one upd_same (Sn.same sD)
      generalize (upd (upd H6 d (.dK [])) d (.dK (mergeK [] [(.inr x, .ref x2)]))) = H7 at sD S1 Sd FA
      refine ⟨x1, d, _, _, _, nh, _, 1, _, _, _, _, rfl, S1, FA, Sm.inFit (x := x) (top := 8) M1 N1 h32 (by decide +kernel), fun xq H8 Sq s8 n8 => ?_⟩
      have S1 := S1.same s8
      refine ⟨xd, xq, _, _, rfl, Sd.same s8, Sq, _, _, rfl, rfl, _, rfl, ite2 (fun e => ?_) (fun e => ?_)⟩
      · rw [em] at e
        exact absurd e (by decide)
      · have c0 : Sm nh 1 1 0 (addM [] [] ((0 : Int) : Rat)) := Sm.num nh 0 (by decide)
        refine ⟨_, rfl, _, rfl, 0, rfl, by decide +kernel, fun z1 H9 Sw s9 n9 => ?_⟩
        refine ⟨x1, z1, x, polyT t1, _, nh, nT 3, sT 3, 8, 1, 1, 0, rfl, S1.same s9, Sw, M1.totOkC c0 h32 (by decide) (by decide +kernel) (by rw [hnh]; decide +kernel), fun xt H10 St gt s10 n10 => ?_⟩
        have e0 : addM [] [] ((0 : Int) : Rat) = [] := by decide +kernel
        have en : eqM (totalM x (polyT t1) (addM [] [] ((0 : Int) : Rat))) [] = true := eqM_of gt.good (Good.nil (A := Canon)) fun f => by
          rw [e0, tot_none (fun y hy => Nat.lt_of_le_of_lt (M1.deg x y hy) (by decide)) f, lin_nil]
        obtain ⟨dxt, dt, ot, Lt, et1, nt1, rt1⟩ := St
        refine ⟨xt, C, dxt, _, _, rfl, et1, T.cl_Sum, T.n_Sum_parts, sumF_parts _, ?_⟩
        intro d9 nd9 sd9
        have s11 : Same H10 (upd H10 d9 (ndO w d9 [])) := same_upd nd9
        refine ⟨dt, d9, Lt, [], _, [], rfl, rfl, (nt1.stay (.same s11) fun o e => s11 _ _ e).r, (ND.new sd9).r, rt1.stay (.same s11), .nil, ?_⟩
        rw [en]
        exact q _
end
set_option maxHeartbeats 4000000 in
theorem all_mk {l : PySem.W.OpenLaw} {w : World} {K : PySem.W.Frag} {h : Heap} {mg : Str → Option Value} {fa : Addr} (X : K.In h) (G : h.Ns mainGlobals mg) (hfa : mg "law" = some (.ref fa))
    {f0 : Addr} {od0 an0 : Option Addr} {sl0 : Array (Option Value)} {oc0 kV0 dc0 pm0 cd0 ct0 : Value}
    (a0 : PySem.W.nsIn K mainGlobals "share" = some (some (.ref f0))) (l0 : K.lookup f0 = some ⟨oc0, od0, .func (PySem.W.fnOf "share" "share" (defArgs s_share) (defBody s_share) (defScope s_share) .none kV0 dc0 pm0 an0 cd0 ct0), sl0⟩) (c0 : PySem.W.codeIn K cd0 "share" = true) (k0 : PySem.W.keepIn K (.ref f0) = true)
    {f1 : Addr} {od1 an1 : Option Addr} {sl1 : Array (Option Value)} {oc1 kV1 dc1 pm1 cd1 ct1 : Value}
    (a1 : PySem.W.nsIn K mainGlobals "plus" = some (some (.ref f1))) (l1 : K.lookup f1 = some ⟨oc1, od1, .func (PySem.W.fnOf "plus" "plus" (defArgs s_plus) (defBody s_plus) (defScope s_plus) .none kV1 dc1 pm1 an1 cd1 ct1), sl1⟩) (c1 : PySem.W.codeIn K cd1 "plus" = true) (k1 : PySem.W.keepIn K (.ref f1) = true)
    {f2 : Addr} {od2 an2 : Option Addr} {sl2 : Array (Option Value)} {oc2 kV2 dc2 pm2 cd2 ct2 : Value}
    (a2 : PySem.W.nsIn K mainGlobals "minus" = some (some (.ref f2))) (l2 : K.lookup f2 = some ⟨oc2, od2, .func (PySem.W.fnOf "minus" "minus" (defArgs s_minus) (defBody s_minus) (defScope s_minus) .none kV2 dc2 pm2 an2 cd2 ct2), sl2⟩) (c2 : PySem.W.codeIn K cd2 "minus" = true) (k2 : PySem.W.keepIn K (.ref f2) = true)
    {f3 : Addr} {od3 an3 : Option Addr} {sl3 : Array (Option Value)} {oc3 kV3 dc3 pm3 cd3 ct3 : Value}
    (a3 : PySem.W.nsIn K mainGlobals "times" = some (some (.ref f3))) (l3 : K.lookup f3 = some ⟨oc3, od3, .func (PySem.W.fnOf "times" "times" (defArgs s_times) (defBody s_times) (defScope s_times) .none kV3 dc3 pm3 an3 cd3 ct3), sl3⟩) (c3 : PySem.W.codeIn K cd3 "times" = true) (k3 : PySem.W.keepIn K (.ref f3) = true)
    {f4 : Addr} {od4 an4 : Option Addr} {sl4 : Array (Option Value)} {oc4 kV4 dc4 pm4 cd4 ct4 : Value}
    (a4 : PySem.W.nsIn K mainGlobals "sum_of_number" = some (some (.ref f4))) (l4 : K.lookup f4 = some ⟨oc4, od4, .func (PySem.W.fnOf "sum_of_number" "sum_of_number" (defArgs s_sum_of_number) (defBody s_sum_of_number) (defScope s_sum_of_number) .none kV4 dc4 pm4 an4 cd4 ct4), sl4⟩) (c4 : PySem.W.codeIn K cd4 "sum_of_number" = true) (k4 : PySem.W.keepIn K (.ref f4) = true)
    {f5 : Addr} {od5 an5 : Option Addr} {sl5 : Array (Option Value)} {oc5 kV5 dc5 pm5 cd5 ct5 : Value}
    (a5 : PySem.W.nsIn K mainGlobals "sum_of_name" = some (some (.ref f5))) (l5 : K.lookup f5 = some ⟨oc5, od5, .func (PySem.W.fnOf "sum_of_name" "sum_of_name" (defArgs s_sum_of_name) (defBody s_sum_of_name) (defScope s_sum_of_name) .none kV5 dc5 pm5 an5 cd5 ct5), sl5⟩) (c5 : PySem.W.codeIn K cd5 "sum_of_name" = true) (k5 : PySem.W.keepIn K (.ref f5) = true)
    {f6 : Addr} {od6 an6 : Option Addr} {sl6 : Array (Option Value)} {oc6 kV6 dc6 pm6 cd6 ct6 : Value}
    (a6 : PySem.W.nsIn K mainGlobals "added" = some (some (.ref f6))) (l6 : K.lookup f6 = some ⟨oc6, od6, .func (PySem.W.fnOf "added" "added" (defArgs s_added) (defBody s_added) (defScope s_added) .none kV6 dc6 pm6 an6 cd6 ct6), sl6⟩) (c6 : PySem.W.codeIn K cd6 "added" = true) (k6 : PySem.W.keepIn K (.ref f6) = true)
    {f7 : Addr} {od7 an7 : Option Addr} {sl7 : Array (Option Value)} {oc7 kV7 dc7 pm7 cd7 ct7 : Value}
    (a7 : PySem.W.nsIn K mainGlobals "lessened" = some (some (.ref f7))) (l7 : K.lookup f7 = some ⟨oc7, od7, .func (PySem.W.fnOf "lessened" "lessened" (defArgs s_lessened) (defBody s_lessened) (defScope s_lessened) .none kV7 dc7 pm7 an7 cd7 ct7), sl7⟩) (c7 : PySem.W.codeIn K cd7 "lessened" = true) (k7 : PySem.W.keepIn K (.ref f7) = true)
    {f8 : Addr} {od8 an8 : Option Addr} {sl8 : Array (Option Value)} {oc8 kV8 dc8 pm8 cd8 ct8 : Value}
    (a8 : PySem.W.nsIn K mainGlobals "timed" = some (some (.ref f8))) (l8 : K.lookup f8 = some ⟨oc8, od8, .func (PySem.W.fnOf "timed" "timed" (defArgs s_timed) (defBody s_timed) (defScope s_timed) .none kV8 dc8 pm8 an8 cd8 ct8), sl8⟩) (c8 : PySem.W.codeIn K cd8 "timed" = true) (k8 : PySem.W.keepIn K (.ref f8) = true)
    {f9 : Addr} {od9 an9 : Option Addr} {sl9 : Array (Option Value)} {oc9 kV9 dc9 pm9 cd9 ct9 : Value}
    (a9 : PySem.W.nsIn K mainGlobals "put_in" = some (some (.ref f9))) (l9 : K.lookup f9 = some ⟨oc9, od9, .func (PySem.W.fnOf "put_in" "put_in" (defArgs s_put_in) (defBody s_put_in) (defScope s_put_in) .none kV9 dc9 pm9 an9 cd9 ct9), sl9⟩) (c9 : PySem.W.codeIn K cd9 "put_in" = true) (k9 : PySem.W.keepIn K (.ref f9) = true)
    {f10 : Addr} {od10 an10 : Option Addr} {sl10 : Array (Option Value)} {oc10 kV10 dc10 pm10 cd10 ct10 : Value}
    (a10 : PySem.W.nsIn K mainGlobals "totalled" = some (some (.ref f10))) (l10 : K.lookup f10 = some ⟨oc10, od10, .func (PySem.W.fnOf "totalled" "totalled" (defArgs s_totalled) (defBody s_totalled) (defScope s_totalled) .none kV10 dc10 pm10 an10 cd10 ct10), sl10⟩) (c10 : PySem.W.codeIn K cd10 "totalled" = true) (k10 : PySem.W.keepIn K (.ref f10) = true)
    {f11 : Addr} {od11 an11 : Option Addr} {sl11 : Array (Option Value)} {oc11 kV11 dc11 pm11 cd11 ct11 : Value}
    (a11 : PySem.W.nsIn K mainGlobals "worth" = some (some (.ref f11))) (l11 : K.lookup f11 = some ⟨oc11, od11, .func (PySem.W.fnOf "worth" "worth" (defArgs s_worth) (defBody s_worth) (defScope s_worth) .none kV11 dc11 pm11 an11 cd11 ct11), sl11⟩) (c11 : PySem.W.codeIn K cd11 "worth" = true) (k11 : PySem.W.keepIn K (.ref f11) = true)
    {f12 : Addr} {od12 an12 : Option Addr} {sl12 : Array (Option Value)} {oc12 kV12 dc12 pm12 cd12 ct12 : Value}
    (a12 : PySem.W.nsIn K mainGlobals "same" = some (some (.ref f12))) (l12 : K.lookup f12 = some ⟨oc12, od12, .func (PySem.W.fnOf "same" "same" (defArgs s_same) (defBody s_same) (defScope s_same) .none kV12 dc12 pm12 an12 cd12 ct12), sl12⟩) (c12 : PySem.W.codeIn K cd12 "same" = true) (k12 : PySem.W.keepIn K (.ref f12) = true)
    {f13 : Addr} {od13 an13 : Option Addr} {sl13 : Array (Option Value)} {oc13 kV13 dc13 pm13 cd13 ct13 : Value}
    (a13 : PySem.W.nsIn K mainGlobals "_put_to" = some (some (.ref f13))) (l13 : K.lookup f13 = some ⟨oc13, od13, .func (PySem.W.fnOf "_put_to" "_put_to" (defArgs s_put_to) (defBody s_put_to) (defScope s_put_to) .none kV13 dc13 pm13 an13 cd13 ct13), sl13⟩) (c13 : PySem.W.codeIn K cd13 "_put_to" = true) (k13 : PySem.W.keepIn K (.ref f13) = true)
    {f14 : Addr} {od14 an14 : Option Addr} {sl14 : Array (Option Value)} {oc14 kV14 dc14 pm14 cd14 ct14 : Value}
    (a14 : PySem.W.nsIn K mainGlobals "_put_all_to" = some (some (.ref f14))) (l14 : K.lookup f14 = some ⟨oc14, od14, .func (PySem.W.fnOf "_put_all_to" "_put_all_to" (defArgs s_put_all_to) (defBody s_put_all_to) (defScope s_put_all_to) .none kV14 dc14 pm14 an14 cd14 ct14), sl14⟩) (c14 : PySem.W.codeIn K cd14 "_put_all_to" = true) (k14 : PySem.W.keepIn K (.ref f14) = true)
    {f15 : Addr} {od15 an15 : Option Addr} {sl15 : Array (Option Value)} {oc15 kV15 dc15 pm15 cd15 ct15 : Value}
    (a15 : PySem.W.nsIn K mainGlobals "_joined" = some (some (.ref f15))) (l15 : K.lookup f15 = some ⟨oc15, od15, .func (PySem.W.fnOf "_joined" "_joined" (defArgs s_joined) (defBody s_joined) (defScope s_joined) .none kV15 dc15 pm15 an15 cd15 ct15), sl15⟩) (c15 : PySem.W.codeIn K cd15 "_joined" = true) (k15 : PySem.W.keepIn K (.ref f15) = true)
    {f16 : Addr} {od16 an16 : Option Addr} {sl16 : Array (Option Value)} {oc16 kV16 dc16 pm16 cd16 ct16 : Value}
    (a16 : PySem.W.nsIn K mainGlobals "_number_raised" = some (some (.ref f16))) (l16 : K.lookup f16 = some ⟨oc16, od16, .func (PySem.W.fnOf "_number_raised" "_number_raised" (defArgs s_number_raised) (defBody s_number_raised) (defScope s_number_raised) .none kV16 dc16 pm16 an16 cd16 ct16), sl16⟩) (c16 : PySem.W.codeIn K cd16 "_number_raised" = true) (k16 : PySem.W.keepIn K (.ref f16) = true)
    {f17 : Addr} {od17 an17 : Option Addr} {sl17 : Array (Option Value)} {oc17 kV17 dc17 pm17 cd17 ct17 : Value}
    (a17 : PySem.W.nsIn K mainGlobals "_powers_of" = some (some (.ref f17))) (l17 : K.lookup f17 = some ⟨oc17, od17, .func (PySem.W.fnOf "_powers_of" "_powers_of" (defArgs s_powers_of) (defBody s_powers_of) (defScope s_powers_of) .none kV17 dc17 pm17 an17 cd17 ct17), sl17⟩) (c17 : PySem.W.codeIn K cd17 "_powers_of" = true) (k17 : PySem.W.keepIn K (.ref f17) = true)
    {f18 : Addr} {od18 an18 : Option Addr} {sl18 : Array (Option Value)} {oc18 kV18 dc18 pm18 cd18 ct18 : Value}
    (a18 : PySem.W.nsIn K mainGlobals "_part_raised" = some (some (.ref f18))) (l18 : K.lookup f18 = some ⟨oc18, od18, .func (PySem.W.fnOf "_part_raised" "_part_raised" (defArgs s_part_raised) (defBody s_part_raised) (defScope s_part_raised) .none kV18 dc18 pm18 an18 cd18 ct18), sl18⟩) (c18 : PySem.W.codeIn K cd18 "_part_raised" = true) (k18 : PySem.W.keepIn K (.ref f18) = true)
    {f19 : Addr} {od19 an19 : Option Addr} {sl19 : Array (Option Value)} {oc19 kV19 dc19 pm19 cd19 ct19 : Value}
    (a19 : PySem.W.nsIn K mainGlobals "_risen_fillings" = some (some (.ref f19))) (l19 : K.lookup f19 = some ⟨oc19, od19, .func (PySem.W.fnOf "_risen_fillings" "_risen_fillings" (defArgs s_risen_fillings) (defBody s_risen_fillings) (defScope s_risen_fillings) .none kV19 dc19 pm19 an19 cd19 ct19), sl19⟩) (c19 : PySem.W.codeIn K cd19 "_risen_fillings" = true) (k19 : PySem.W.keepIn K (.ref f19) = true)
    {f20 : Addr} {od20 an20 : Option Addr} {sl20 : Array (Option Value)} {oc20 kV20 dc20 pm20 cd20 ct20 : Value}
    (a20 : PySem.W.nsIn K mainGlobals "_filled" = some (some (.ref f20))) (l20 : K.lookup f20 = some ⟨oc20, od20, .func (PySem.W.fnOf "_filled" "_filled" (defArgs s_filled) (defBody s_filled) (defScope s_filled) .none kV20 dc20 pm20 an20 cd20 ct20), sl20⟩) (c20 : PySem.W.codeIn K cd20 "_filled" = true) (k20 : PySem.W.keepIn K (.ref f20) = true)
    {f21 : Addr} {od21 an21 : Option Addr} {sl21 : Array (Option Value)} {oc21 kV21 dc21 pm21 cd21 ct21 : Value}
    (a21 : PySem.W.nsIn K mainGlobals "_power_in" = some (some (.ref f21))) (l21 : K.lookup f21 = some ⟨oc21, od21, .func (PySem.W.fnOf "_power_in" "_power_in" (defArgs s_power_in) (defBody s_power_in) (defScope s_power_in) .none kV21 dc21 pm21 an21 cd21 ct21), sl21⟩) (c21 : PySem.W.codeIn K cd21 "_power_in" = true) (k21 : PySem.W.keepIn K (.ref f21) = true)
    {f22 : Addr} {od22 an22 : Option Addr} {sl22 : Array (Option Value)} {oc22 kV22 dc22 pm22 cd22 ct22 : Value}
    (a22 : PySem.W.nsIn K mainGlobals "_totals_by_power" = some (some (.ref f22))) (l22 : K.lookup f22 = some ⟨oc22, od22, .func (PySem.W.fnOf "_totals_by_power" "_totals_by_power" (defArgs s_totals_by_power) (defBody s_totals_by_power) (defScope s_totals_by_power) .none kV22 dc22 pm22 an22 cd22 ct22), sl22⟩) (c22 : PySem.W.codeIn K cd22 "_totals_by_power" = true) (k22 : PySem.W.keepIn K (.ref f22) = true)
    {f23 : Addr} {od23 an23 : Option Addr} {sl23 : Array (Option Value)} {oc23 kV23 dc23 pm23 cd23 ct23 : Value}
    (a23 : PySem.W.nsIn K mainGlobals "_sums_of_powers" = some (some (.ref f23))) (l23 : K.lookup f23 = some ⟨oc23, od23, .func (PySem.W.fnOf "_sums_of_powers" "_sums_of_powers" (defArgs s_sums_of_powers) (defBody s_sums_of_powers) (defScope s_sums_of_powers) .none kV23 dc23 pm23 an23 cd23 ct23), sl23⟩) (c23 : PySem.W.codeIn K cd23 "_sums_of_powers" = true) (k23 : PySem.W.keepIn K (.ref f23) = true)
    {f24 : Addr} {od24 an24 : Option Addr} {sl24 : Array (Option Value)} {oc24 kV24 dc24 pm24 cd24 ct24 : Value}
    (a24 : PySem.W.nsIn K mainGlobals "_next_sum_of_powers" = some (some (.ref f24))) (l24 : K.lookup f24 = some ⟨oc24, od24, .func (PySem.W.fnOf "_next_sum_of_powers" "_next_sum_of_powers" (defArgs s_next_sum_of_powers) (defBody s_next_sum_of_powers) (defScope s_next_sum_of_powers) .none kV24 dc24 pm24 an24 cd24 ct24), sl24⟩) (c24 : PySem.W.codeIn K cd24 "_next_sum_of_powers" = true) (k24 : PySem.W.keepIn K (.ref f24) = true)
    {f25 : Addr} {od25 an25 : Option Addr} {sl25 : Array (Option Value)} {oc25 kV25 dc25 pm25 cd25 ct25 : Value}
    (a25 : PySem.W.nsIn K mainGlobals "_law_next" = some (some (.ref f25))) (l25 : K.lookup f25 = some ⟨oc25, od25, .func (PySem.W.fnOf "_law_next" "_law_next" (defArgs s_law_next) (defBody s_law_next) (defScope s_law_next) .none kV25 dc25 pm25 an25 cd25 ct25), sl25⟩) (c25 : PySem.W.codeIn K cd25 "_law_next" = true) (k25 : PySem.W.keepIn K (.ref f25) = true)
    {f26 : Addr} {od26 an26 : Option Addr} {sl26 : Array (Option Value)} {oc26 kV26 dc26 pm26 cd26 ct26 : Value}
    (a26 : PySem.W.nsIn K mainGlobals "_law_names" = some (some (.ref f26))) (l26 : K.lookup f26 = some ⟨oc26, od26, .func (PySem.W.fnOf "_law_names" "_law_names" (defArgs s_law_names) (defBody s_law_names) (defScope s_law_names) .none kV26 dc26 pm26 an26 cd26 ct26), sl26⟩) (c26 : PySem.W.codeIn K cd26 "_law_names" = true) (k26 : PySem.W.keepIn K (.ref f26) = true)
    {f27 : Addr} {od27 an27 : Option Addr} {sl27 : Array (Option Value)} {oc27 kV27 dc27 pm27 cd27 ct27 : Value}
    (a27 : PySem.W.nsIn K mainGlobals "_law_tree" = some (some (.ref f27))) (l27 : K.lookup f27 = some ⟨oc27, od27, .func (PySem.W.fnOf "_law_tree" "_law_tree" (defArgs s_law_tree) (defBody s_law_tree) (defScope s_law_tree) .none kV27 dc27 pm27 an27 cd27 ct27), sl27⟩) (c27 : PySem.W.codeIn K cd27 "_law_tree" = true) (k27 : PySem.W.keepIn K (.ref f27) = true)
    {f28 : Addr} {od28 an28 : Option Addr} {sl28 : Array (Option Value)} {oc28 kV28 dc28 pm28 cd28 ct28 : Value}
    (a28 : PySem.W.nsIn K mainGlobals "_law_sum" = some (some (.ref f28))) (l28 : K.lookup f28 = some ⟨oc28, od28, .func (PySem.W.fnOf "_law_sum" "_law_sum" (defArgs s_law_sum) (defBody s_law_sum) (defScope s_law_sum) .none kV28 dc28 pm28 an28 cd28 ct28), sl28⟩) (c28 : PySem.W.codeIn K cd28 "_law_sum" = true) (k28 : PySem.W.keepIn K (.ref f28) = true)
    {f29 : Addr} {od29 an29 : Option Addr} {sl29 : Array (Option Value)} {oc29 kV29 dc29 pm29 cd29 ct29 : Value}
    (a29 : PySem.W.nsIn K mainGlobals "_law_at" = some (some (.ref f29))) (l29 : K.lookup f29 = some ⟨oc29, od29, .func (PySem.W.fnOf "_law_at" "_law_at" (defArgs s_law_at) (defBody s_law_at) (defScope s_law_at) .none kV29 dc29 pm29 an29 cd29 ct29), sl29⟩) (c29 : PySem.W.codeIn K cd29 "_law_at" = true) (k29 : PySem.W.keepIn K (.ref f29) = true)
    {f30 : Addr} {od30 an30 : Option Addr} {sl30 : Array (Option Value)} {oc30 kV30 dc30 pm30 cd30 ct30 : Value}
    (a30 : PySem.W.nsIn K mainGlobals "_law_point" = some (some (.ref f30))) (l30 : K.lookup f30 = some ⟨oc30, od30, .func (PySem.W.fnOf "_law_point" "_law_point" (defArgs s_law_point) (defBody s_law_point) (defScope s_law_point) .none kV30 dc30 pm30 an30 cd30 ct30), sl30⟩) (c30 : PySem.W.codeIn K cd30 "_law_point" = true) (k30 : PySem.W.keepIn K (.ref f30) = true)
    {f31 : Addr} {od31 an31 : Option Addr} {sl31 : Array (Option Value)} {oc31 kV31 dc31 pm31 cd31 ct31 : Value}
    (a31 : PySem.W.nsIn K mainGlobals "_law_by_turns" = some (some (.ref f31))) (l31 : K.lookup f31 = some ⟨oc31, od31, .func (PySem.W.fnOf "_law_by_turns" "_law_by_turns" (defArgs s_law_by_turns) (defBody s_law_by_turns) (defScope s_law_by_turns) .none kV31 dc31 pm31 an31 cd31 ct31), sl31⟩) (c31 : PySem.W.codeIn K cd31 "_law_by_turns" = true) (k31 : PySem.W.keepIn K (.ref f31) = true)
    {f32 : Addr} {od32 an32 : Option Addr} {sl32 : Array (Option Value)} {oc32 kV32 dc32 pm32 cd32 ct32 : Value}
    (a32 : PySem.W.nsIn K mainGlobals "law" = some (some (.ref f32))) (l32 : K.lookup f32 = some ⟨oc32, od32, .func (PySem.W.fnOf "law" "law" (defArgs s_law) (defBody s_law) (defScope s_law) .none kV32 dc32 pm32 an32 cd32 ct32), sl32⟩) (c32 : PySem.W.codeIn K cd32 "law" = true) (k32 : PySem.W.keepIn K (.ref f32) = true)
    {C_Sum : Addr} (aC_Sum : PySem.W.nsIn K mainGlobals "Sum" = some (some (.ref C_Sum)))
    {f_Sum_init : Addr} {od_Sum_init an_Sum_init : Option Addr} {sl_Sum_init : Array (Option Value)} {oc_Sum_init kV_Sum_init dc_Sum_init pm_Sum_init cd_Sum_init ct_Sum_init : Value}
    (a_Sum_init : PySem.W.findIn K (.ref C_Sum) "__init__" = some (some (.ref f_Sum_init))) (i_Sum_init : PySem.W.isFn K (.ref f_Sum_init) = true) (l_Sum_init : K.lookup f_Sum_init = some ⟨oc_Sum_init, od_Sum_init, .func (PySem.W.fnOf "__init__" "Sum.__init__" (defArgs s_Sum_init) (defBody s_Sum_init) (defScope s_Sum_init) .none kV_Sum_init dc_Sum_init pm_Sum_init an_Sum_init cd_Sum_init ct_Sum_init), sl_Sum_init⟩) (c_Sum_init : PySem.W.codeIn K cd_Sum_init "Sum.__init__" = true) (k_Sum_init : PySem.W.keepIn K (.ref f_Sum_init) = true)
    (pg_Sum : PySem.W.plainGet K C_Sum Str.empty = true) (hd_Sum : PySem.W.hasDictIn K C_Sum = true) (po_Sum : PySem.W.plainOver K C_Sum = true) (sa_Sum : PySem.W.findIn K (.ref C_Sum) "__setattr__" = some (some (.builtin "object.__setattr__"))) (mk_Sum : PySem.W.makesIn K C_Sum = true) (kc_Sum : PySem.W.keepIn K (.ref C_Sum) = true)
    (na_Sum_parts : PySem.W.findIn K (.ref C_Sum) "parts" = some none)
    {v_NOUGHT : Addr} {o_NOUGHT : Option Addr} {n_NOUGHT : Nat} {s_NOUGHT : Array (Option Value)} {t0_NOUGHT t1_NOUGHT : Tok}
    (av_NOUGHT : PySem.W.nsIn K mainGlobals "NOUGHT" = some (some (.ref v_NOUGHT))) (lv_NOUGHT : K.lookup v_NOUGHT = some ⟨.type "tuple", o_NOUGHT, .seq #[.int 0 t0_NOUGHT, .int 1 t1_NOUGHT] n_NOUGHT, s_NOUGHT⟩)
    {v_ONE : Addr} {o_ONE : Option Addr} {n_ONE : Nat} {s_ONE : Array (Option Value)} {t0_ONE t1_ONE : Tok}
    (av_ONE : PySem.W.nsIn K mainGlobals "ONE" = some (some (.ref v_ONE))) (lv_ONE : K.lookup v_ONE = some ⟨.type "tuple", o_ONE, .seq #[.int 1 t0_ONE, .int 1 t1_ONE] n_ONE, s_ONE⟩)
    (z_sorted : PySem.W.nsIn K mainGlobals "sorted" = some none)
    (z_tuple : PySem.W.nsIn K mainGlobals "tuple" = some none)
    (z_len : PySem.W.nsIn K mainGlobals "len" = some none)
    (z_range : PySem.W.nsIn K mainGlobals "range" = some none)
    (z_max : PySem.W.nsIn K mainGlobals "max" = some none)
    (z_int : PySem.W.nsIn K mainGlobals "int" = some none)
    (z_dict : PySem.W.nsIn K mainGlobals "dict" = some none)
    (z_list : PySem.W.nsIn K mainGlobals "list" = some none)
    (y_gcd : PySem.W.nsIn K mainGlobals "gcd" = some (some (.builtin "math.gcd"))) :
    ∃ fd : FuncData, (∀ (s : Shared) (v : Value), BindsTo s fd ⟨[v], []⟩ [("_law_script", v)]) ∧ ∀ base : Heap, K.In base → base.Ns mainGlobals mg → FnOk l.prog w K mg base CX0 20 fa fd ["_law_script"] (spLaw K) := by
  have e := hfa.symm.trans (PySem.W.mg_of X G a32)
  cases e
  have F0 := fun_mk (st := s_share) l0 c0 k0
  have D0 : DefAt K mg "share" "share" s_share ["top", "bottom"] _ _ := ⟨F0, PySem.W.mg_of X G a0, F0.binds (ps := ["top", "bottom"]) fun _ _ _ _ _ _ us hl => match us, hl with | [_, _], _ => rfl⟩
  have F1 := fun_mk (st := s_plus) l1 c1 k1
  have D1 : DefAt K mg "plus" "plus" s_plus ["one", "other"] _ _ := ⟨F1, PySem.W.mg_of X G a1, F1.binds (ps := ["one", "other"]) fun _ _ _ _ _ _ us hl => match us, hl with | [_, _], _ => rfl⟩
  have F2 := fun_mk (st := s_minus) l2 c2 k2
  have D2 : DefAt K mg "minus" "minus" s_minus ["one", "other"] _ _ := ⟨F2, PySem.W.mg_of X G a2, F2.binds (ps := ["one", "other"]) fun _ _ _ _ _ _ us hl => match us, hl with | [_, _], _ => rfl⟩
  have F3 := fun_mk (st := s_times) l3 c3 k3
  have D3 : DefAt K mg "times" "times" s_times ["one", "other"] _ _ := ⟨F3, PySem.W.mg_of X G a3, F3.binds (ps := ["one", "other"]) fun _ _ _ _ _ _ us hl => match us, hl with | [_, _], _ => rfl⟩
  have F4 := fun_mk (st := s_sum_of_number) l4 c4 k4
  have D4 : DefAt K mg "sum_of_number" "sum_of_number" s_sum_of_number ["n"] _ _ := ⟨F4, PySem.W.mg_of X G a4, F4.binds (ps := ["n"]) fun _ _ _ _ _ _ us hl => match us, hl with | [_], _ => rfl⟩
  have F5 := fun_mk (st := s_sum_of_name) l5 c5 k5
  have D5 : DefAt K mg "sum_of_name" "sum_of_name" s_sum_of_name ["x"] _ _ := ⟨F5, PySem.W.mg_of X G a5, F5.binds (ps := ["x"]) fun _ _ _ _ _ _ us hl => match us, hl with | [_], _ => rfl⟩
  have F6 := fun_mk (st := s_added) l6 c6 k6
  have D6 : DefAt K mg "added" "added" s_added ["one", "other"] _ _ := ⟨F6, PySem.W.mg_of X G a6, F6.binds (ps := ["one", "other"]) fun _ _ _ _ _ _ us hl => match us, hl with | [_, _], _ => rfl⟩
  have F7 := fun_mk (st := s_lessened) l7 c7 k7
  have D7 : DefAt K mg "lessened" "lessened" s_lessened ["one", "other"] _ _ := ⟨F7, PySem.W.mg_of X G a7, F7.binds (ps := ["one", "other"]) fun _ _ _ _ _ _ us hl => match us, hl with | [_, _], _ => rfl⟩
  have F8 := fun_mk (st := s_timed) l8 c8 k8
  have D8 : DefAt K mg "timed" "timed" s_timed ["one", "other"] _ _ := ⟨F8, PySem.W.mg_of X G a8, F8.binds (ps := ["one", "other"]) fun _ _ _ _ _ _ us hl => match us, hl with | [_, _], _ => rfl⟩
  have F9 := fun_mk (st := s_put_in) l9 c9 k9
  have D9 : DefAt K mg "put_in" "put_in" s_put_in ["given", "filling"] _ _ := ⟨F9, PySem.W.mg_of X G a9, F9.binds (ps := ["given", "filling"]) fun _ _ _ _ _ _ us hl => match us, hl with | [_, _], _ => rfl⟩
  have F10 := fun_mk (st := s_totalled) l10 c10 k10
  have D10 : DefAt K mg "totalled" "totalled" s_totalled ["given", "x", "many"] _ _ := ⟨F10, PySem.W.mg_of X G a10, F10.binds (ps := ["given", "x", "many"]) fun _ _ _ _ _ _ us hl => match us, hl with | [_, _, _], _ => rfl⟩
  have F11 := fun_mk (st := s_worth) l11 c11 k11
  have D11 : DefAt K mg "worth" "worth" s_worth ["given", "names"] _ _ := ⟨F11, PySem.W.mg_of X G a11, F11.binds (ps := ["given", "names"]) fun _ _ _ _ _ _ us hl => match us, hl with | [_, _], _ => rfl⟩
  have F12 := fun_mk (st := s_same) l12 c12 k12
  have D12 : DefAt K mg "same" "same" s_same ["one", "other"] _ _ := ⟨F12, PySem.W.mg_of X G a12, F12.binds (ps := ["one", "other"]) fun _ _ _ _ _ _ us hl => match us, hl with | [_, _], _ => rfl⟩
  have F13 := fun_mk (st := s_put_to) l13 c13 k13
  have D13 : DefAt K mg "_put_to" "_put_to" s_put_to ["shares", "key", "part"] _ _ := ⟨F13, PySem.W.mg_of X G a13, F13.binds (ps := ["shares", "key", "part"]) fun _ _ _ _ _ _ us hl => match us, hl with | [_, _, _], _ => rfl⟩
  have F14 := fun_mk (st := s_put_all_to) l14 c14 k14
  have D14 : DefAt K mg "_put_all_to" "_put_all_to" s_put_all_to ["parts", "other"] _ _ := ⟨F14, PySem.W.mg_of X G a14, F14.binds (ps := ["parts", "other"]) fun _ _ _ _ _ _ us hl => match us, hl with | [_, _], _ => rfl⟩
  have F15 := fun_mk (st := s_joined) l15 c15 k15
  have D15 : DefAt K mg "_joined" "_joined" s_joined ["one", "other"] _ _ := ⟨F15, PySem.W.mg_of X G a15, F15.binds (ps := ["one", "other"]) fun _ _ _ _ _ _ us hl => match us, hl with | [_, _], _ => rfl⟩
  have F16 := fun_mk (st := s_number_raised) l16 c16 k16
  have D16 : DefAt K mg "_number_raised" "_number_raised" s_number_raised ["number", "power"] _ _ := ⟨F16, PySem.W.mg_of X G a16, F16.binds (ps := ["number", "power"]) fun _ _ _ _ _ _ us hl => match us, hl with | [_, _], _ => rfl⟩
  have F17 := fun_mk (st := s_powers_of) l17 c17 k17
  have D17 : DefAt K mg "_powers_of" "_powers_of" s_powers_of ["base", "wanted"] _ _ := ⟨F17, PySem.W.mg_of X G a17, F17.binds (ps := ["base", "wanted"]) fun _ _ _ _ _ _ us hl => match us, hl with | [_, _], _ => rfl⟩
  have F18 := fun_mk (st := s_part_raised) l18 c18 k18
  have D18 : DefAt K mg "_part_raised" "_part_raised" s_part_raised ["base", "power"] _ _ := ⟨F18, PySem.W.mg_of X G a18, F18.binds (ps := ["base", "power"]) fun _ _ _ _ _ _ us hl => match us, hl with | [_, _], _ => rfl⟩
  have F19 := fun_mk (st := s_risen_fillings) l19 c19 k19
  have D19 : DefAt K mg "_risen_fillings" "_risen_fillings" s_risen_fillings ["given", "filling"] _ _ := ⟨F19, PySem.W.mg_of X G a19, F19.binds (ps := ["given", "filling"]) fun _ _ _ _ _ _ us hl => match us, hl with | [_, _], _ => rfl⟩
  have F20 := fun_mk (st := s_filled) l20 c20 k20
  have D20 : DefAt K mg "_filled" "_filled" s_filled ["product", "part", "risen"] _ _ := ⟨F20, PySem.W.mg_of X G a20, F20.binds (ps := ["product", "part", "risen"]) fun _ _ _ _ _ _ us hl => match us, hl with | [_, _, _], _ => rfl⟩
  have F21 := fun_mk (st := s_power_in) l21 c21 k21
  have D21 : DefAt K mg "_power_in" "_power_in" s_power_in ["product", "x"] _ _ := ⟨F21, PySem.W.mg_of X G a21, F21.binds (ps := ["product", "x"]) fun _ _ _ _ _ _ us hl => match us, hl with | [_, _], _ => rfl⟩
  have F22 := fun_mk (st := s_totals_by_power) l22 c22 k22
  have D22 : DefAt K mg "_totals_by_power" "_totals_by_power" s_totals_by_power ["given", "x"] _ _ := ⟨F22, PySem.W.mg_of X G a22, F22.binds (ps := ["given", "x"]) fun _ _ _ _ _ _ us hl => match us, hl with | [_, _], _ => rfl⟩
  have F23 := fun_mk (st := s_sums_of_powers) l23 c23 k23
  have D23 : DefAt K mg "_sums_of_powers" "_sums_of_powers" s_sums_of_powers ["highest"] _ _ := ⟨F23, PySem.W.mg_of X G a23, F23.binds (ps := ["highest"]) fun _ _ _ _ _ _ us hl => match us, hl with | [_], _ => rfl⟩
  have F24 := fun_mk (st := s_next_sum_of_powers) l24 c24 k24
  have D24 : DefAt K mg "_next_sum_of_powers" "_next_sum_of_powers" s_next_sum_of_powers ["row", "k"] _ _ := ⟨F24, PySem.W.mg_of X G a24, F24.binds (ps := ["row", "k"]) fun _ _ _ _ _ _ us hl => match us, hl with | [_, _], _ => rfl⟩
  have F25 := fun_mk (st := s_law_next) l25 c25 k25
  have D25 : DefAt K mg "_law_next" "_law_next" s_law_next ["_law_h", "_law_many"] _ _ := ⟨F25, PySem.W.mg_of X G a25, F25.binds (ps := ["_law_h", "_law_many"]) fun _ _ _ _ _ _ us hl => match us, hl with | [_, _], _ => rfl⟩
  have F26 := fun_mk (st := s_law_names) l26 c26 k26
  have D26 : DefAt K mg "_law_names" "_law_names" s_law_names ["_law_h"] _ _ := ⟨F26, PySem.W.mg_of X G a26, F26.binds (ps := ["_law_h"]) fun _ _ _ _ _ _ us hl => match us, hl with | [_], _ => rfl⟩
  have F27 := fun_mk (st := s_law_tree) l27 c27 k27
  have D27 : DefAt K mg "_law_tree" "_law_tree" s_law_tree ["_law_h", "_law_names_here", "_law_deep"] _ _ := ⟨F27, PySem.W.mg_of X G a27, F27.binds (ps := ["_law_h", "_law_names_here", "_law_deep"]) fun _ _ _ _ _ _ us hl => match us, hl with | [_, _, _], _ => rfl⟩
  have F28 := fun_mk (st := s_law_sum) l28 c28 k28
  have D28 : DefAt K mg "_law_sum" "_law_sum" s_law_sum ["_law_tree_here"] _ _ := ⟨F28, PySem.W.mg_of X G a28, F28.binds (ps := ["_law_tree_here"]) fun _ _ _ _ _ _ us hl => match us, hl with | [_], _ => rfl⟩
  have F29 := fun_mk (st := s_law_at) l29 c29 k29
  have D29 : DefAt K mg "_law_at" "_law_at" s_law_at ["_law_tree_here", "_law_point_here"] _ _ := ⟨F29, PySem.W.mg_of X G a29, F29.binds (ps := ["_law_tree_here", "_law_point_here"]) fun _ _ _ _ _ _ us hl => match us, hl with | [_, _], _ => rfl⟩
  have F30 := fun_mk (st := s_law_point) l30 c30 k30
  have D30 : DefAt K mg "_law_point" "_law_point" s_law_point ["_law_h", "_law_names_here"] _ _ := ⟨F30, PySem.W.mg_of X G a30, F30.binds (ps := ["_law_h", "_law_names_here"]) fun _ _ _ _ _ _ us hl => match us, hl with | [_, _], _ => rfl⟩
  have F31 := fun_mk (st := s_law_by_turns) l31 c31 k31
  have D31 : DefAt K mg "_law_by_turns" "_law_by_turns" s_law_by_turns ["_law_tree_here", "_law_x", "_law_many", "_law_point_here"] _ _ := ⟨F31, PySem.W.mg_of X G a31, F31.binds (ps := ["_law_tree_here", "_law_x", "_law_many", "_law_point_here"]) fun _ _ _ _ _ _ us hl => match us, hl with | [_, _, _, _], _ => rfl⟩
  have F32 := fun_mk (st := s_law) l32 c32 k32
  have D32 : DefAt K mg "law" "law" s_law ["_law_script"] _ _ := ⟨F32, PySem.W.mg_of X G a32, F32.binds (ps := ["_law_script"]) fun _ _ _ _ _ _ us hl => match us, hl with | [_], _ => rfl⟩
  have FI_Sum := fun_mk (st := s_Sum_init) l_Sum_init c_Sum_init k_Sum_init
  have T : Txt K mg C_Sum := ⟨⟨pg_Sum, hd_Sum, po_Sum, sa_Sum⟩, PySem.W.mg_of X G aC_Sum, na_Sum_parts, ⟨_, _, ⟨mk_Sum, a_Sum_init, i_Sum_init, kc_Sum⟩, FI_Sum, FI_Sum.binds (ps := ["self", "parts"]) fun _ _ _ _ _ _ us hl => match us, hl with | [_, _], _ => rfl⟩, ⟨_, PySem.W.mg_of X G av_NOUGHT, fun H => .inr ⟨_, _, _, lv_NOUGHT, rfl, rfl, (by show 2 ≤ sizeLine; decide), .cons ⟨_, rfl⟩ (.cons ⟨_, rfl⟩ ( .nil))⟩⟩, ⟨_, PySem.W.mg_of X G av_ONE, fun H => .inr ⟨_, _, _, lv_ONE, rfl, rfl, (by show 2 ≤ sizeLine; decide), .cons ⟨_, rfl⟩ (.cons ⟨_, rfl⟩ ( .nil))⟩⟩, ⟨_, _, D0⟩, ⟨_, _, D1⟩, ⟨_, _, D2⟩, ⟨_, _, D3⟩, ⟨_, _, D4⟩, ⟨_, _, D5⟩, ⟨_, _, D6⟩, ⟨_, _, D7⟩, ⟨_, _, D8⟩, ⟨_, _, D9⟩, ⟨_, _, D10⟩, ⟨_, _, D11⟩, ⟨_, _, D12⟩, ⟨_, _, D13⟩, ⟨_, _, D14⟩, ⟨_, _, D15⟩, ⟨_, _, D16⟩, ⟨_, _, D17⟩, ⟨_, _, D18⟩, ⟨_, _, D19⟩, ⟨_, _, D20⟩, ⟨_, _, D21⟩, ⟨_, _, D22⟩, ⟨_, _, D23⟩, ⟨_, _, D24⟩, ⟨_, _, D25⟩, ⟨_, _, D26⟩, ⟨_, _, D27⟩, ⟨_, _, D28⟩, ⟨_, _, D29⟩, ⟨_, _, D30⟩, ⟨_, _, D31⟩, PySem.W.mg_none_of X G z_sorted, PySem.W.mg_none_of X G z_tuple, PySem.W.mg_none_of X G z_len, PySem.W.mg_none_of X G z_range, PySem.W.mg_none_of X G z_max, PySem.W.mg_none_of X G z_int, PySem.W.mg_none_of X G z_dict, PySem.W.mg_none_of X G z_list, PySem.W.mg_of X G y_gcd⟩
  exact ⟨PySem.W.fnOf "law" "law" (defArgs s_law) (defBody s_law) (defScope s_law) .none kV32 dc32 pm32 an32 cd32 ct32, fun s v => .of_eq rfl, fun base _ _ => ok_law T D32⟩
end K04
open PySem PySem.W PyProof.Rows
set_option maxHeartbeats 0 in
theorem PySem.Challenge.cw_lapfold_k04_totalled_holds : PySem.Challenge.rw_lapfold_k04_totalled.Holds := by
  w_on; o_law; k_head; (case hw => w_witness2)
  k_fill
  refine L2.walk_of (l := PySem.Challenge.rw_lapfold_k04_totalled) (n := 63) (k := 20) (x := "_law_script") (CX := fun _ => L2.CX0) (sp := fun w => K04.spLaw _) rfl (by decide) rfl ⟨rfl, by decide, by decide⟩ (fun w h Y => PySem.W.kIn_of Y) ?F (fun _ _ a ns hl _ hS => ⟨a, ns, rfl, hS, hl, fun _ => rfl⟩) (fun _ _ _ _ _ h => h)
  case F =>
    intro w mg fa h KX G hmg
    refine' K04.all_mk KX G hmg ?a0 ?l0 ?c0 ?k0 ?a1 ?l1 ?c1 ?k1 ?a2 ?l2 ?c2 ?k2 ?a3 ?l3 ?c3 ?k3 ?a4 ?l4 ?c4 ?k4 ?a5 ?l5 ?c5 ?k5 ?a6 ?l6 ?c6 ?k6 ?a7 ?l7 ?c7 ?k7 ?a8 ?l8 ?c8 ?k8 ?a9 ?l9 ?c9 ?k9 ?a10 ?l10 ?c10 ?k10 ?a11 ?l11 ?c11 ?k11 ?a12 ?l12 ?c12 ?k12 ?a13 ?l13 ?c13 ?k13 ?a14 ?l14 ?c14 ?k14 ?a15 ?l15 ?c15 ?k15 ?a16 ?l16 ?c16 ?k16 ?a17 ?l17 ?c17 ?k17 ?a18 ?l18 ?c18 ?k18 ?a19 ?l19 ?c19 ?k19 ?a20 ?l20 ?c20 ?k20 ?a21 ?l21 ?c21 ?k21 ?a22 ?l22 ?c22 ?k22 ?a23 ?l23 ?c23 ?k23 ?a24 ?l24 ?c24 ?k24 ?a25 ?l25 ?c25 ?k25 ?a26 ?l26 ?c26 ?k26 ?a27 ?l27 ?c27 ?k27 ?a28 ?l28 ?c28 ?k28 ?a29 ?l29 ?c29 ?k29 ?a30 ?l30 ?c30 ?k30 ?a31 ?l31 ?c31 ?k31 ?a32 ?l32 ?c32 ?k32 ?aC_Sum ?a_Sum_init ?i_Sum_init ?l_Sum_init ?c_Sum_init ?k_Sum_init ?pg_Sum ?hd_Sum ?po_Sum ?sa_Sum ?mk_Sum ?kc_Sum ?na_Sum_parts ?av_NOUGHT ?lv_NOUGHT ?av_ONE ?lv_ONE ?z_sorted ?z_tuple ?z_len ?z_range ?z_max ?z_int ?z_dict ?z_list ?y_gcd
    (case a0 => k_is)
    (case l0 => k_is)
    (case c0 => k_is)
    (case k0 => k_is)
    (case a1 => k_is)
    (case l1 => k_is)
    (case c1 => k_is)
    (case k1 => k_is)
    (case a2 => k_is)
    (case l2 => k_is)
    (case c2 => k_is)
    (case k2 => k_is)
    (case a3 => k_is)
    (case l3 => k_is)
    (case c3 => k_is)
    (case k3 => k_is)
    (case a4 => k_is)
    (case l4 => k_is)
    (case c4 => k_is)
    (case k4 => k_is)
    (case a5 => k_is)
    (case l5 => k_is)
    (case c5 => k_is)
    (case k5 => k_is)
    (case a6 => k_is)
    (case l6 => k_is)
    (case c6 => k_is)
    (case k6 => k_is)
    (case a7 => k_is)
    (case l7 => k_is)
    (case c7 => k_is)
    (case k7 => k_is)
    (case a8 => k_is)
    (case l8 => k_is)
    (case c8 => k_is)
    (case k8 => k_is)
    (case a9 => k_is)
    (case l9 => k_is)
    (case c9 => k_is)
    (case k9 => k_is)
    (case a10 => k_is)
    (case l10 => k_is)
    (case c10 => k_is)
    (case k10 => k_is)
    (case a11 => k_is)
    (case l11 => k_is)
    (case c11 => k_is)
    (case k11 => k_is)
    (case a12 => k_is)
    (case l12 => k_is)
    (case c12 => k_is)
    (case k12 => k_is)
    (case a13 => k_is)
    (case l13 => k_is)
    (case c13 => k_is)
    (case k13 => k_is)
    (case a14 => k_is)
    (case l14 => k_is)
    (case c14 => k_is)
    (case k14 => k_is)
    (case a15 => k_is)
    (case l15 => k_is)
    (case c15 => k_is)
    (case k15 => k_is)
    (case a16 => k_is)
    (case l16 => k_is)
    (case c16 => k_is)
    (case k16 => k_is)
    (case a17 => k_is)
    (case l17 => k_is)
    (case c17 => k_is)
    (case k17 => k_is)
    (case a18 => k_is)
    (case l18 => k_is)
    (case c18 => k_is)
    (case k18 => k_is)
    (case a19 => k_is)
    (case l19 => k_is)
    (case c19 => k_is)
    (case k19 => k_is)
    (case a20 => k_is)
    (case l20 => k_is)
    (case c20 => k_is)
    (case k20 => k_is)
    (case a21 => k_is)
    (case l21 => k_is)
    (case c21 => k_is)
    (case k21 => k_is)
    (case a22 => k_is)
    (case l22 => k_is)
    (case c22 => k_is)
    (case k22 => k_is)
    (case a23 => k_is)
    (case l23 => k_is)
    (case c23 => k_is)
    (case k23 => k_is)
    (case a24 => k_is)
    (case l24 => k_is)
    (case c24 => k_is)
    (case k24 => k_is)
    (case a25 => k_is)
    (case l25 => k_is)
    (case c25 => k_is)
    (case k25 => k_is)
    (case a26 => k_is)
    (case l26 => k_is)
    (case c26 => k_is)
    (case k26 => k_is)
    (case a27 => k_is)
    (case l27 => k_is)
    (case c27 => k_is)
    (case k27 => k_is)
    (case a28 => k_is)
    (case l28 => k_is)
    (case c28 => k_is)
    (case k28 => k_is)
    (case a29 => k_is)
    (case l29 => k_is)
    (case c29 => k_is)
    (case k29 => k_is)
    (case a30 => k_is)
    (case l30 => k_is)
    (case c30 => k_is)
    (case k30 => k_is)
    (case a31 => k_is)
    (case l31 => k_is)
    (case c31 => k_is)
    (case k31 => k_is)
    (case a32 => k_is)
    (case l32 => k_is)
    (case c32 => k_is)
    (case k32 => k_is)
    (case aC_Sum => k_is)
    (case a_Sum_init => k_is)
    (case i_Sum_init => k_is)
    (case l_Sum_init => k_is)
    (case c_Sum_init => k_is)
    (case k_Sum_init => k_is)
    (case pg_Sum => k_is)
    (case hd_Sum => k_is)
    (case po_Sum => k_is)
    (case sa_Sum => k_is)
    (case mk_Sum => k_is)
    (case kc_Sum => k_is)
    (case na_Sum_parts => k_is)
    (case av_NOUGHT => k_is)
    (case lv_NOUGHT => k_is)
    (case av_ONE => k_is)
    (case lv_ONE => k_is)
    (case z_sorted => k_is)
    (case z_tuple => k_is)
    (case z_len => k_is)
    (case z_range => k_is)
    (case z_max => k_is)
    (case z_int => k_is)
    (case z_dict => k_is)
    (case z_list => k_is)
    (case y_gcd => k_is)
