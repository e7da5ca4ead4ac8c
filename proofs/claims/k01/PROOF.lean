import PyProof.Rows.All
import Wide.All
import OpenK.AllK
import Wide.FinOn
import HandS.ForMost
import HandS.Gcd
import HandS.Wide
import HandS.IsInst
import PySem.Challenge.RW_lapfold_k01_shares
set_option Elab.async false
set_option linter.all false
set_option maxRecDepth 100000
namespace K01
open PySem PySem.Spec PyProof.Rows L2
def topS (i : Nat) : Stmt := PySem.Challenge.pw_lapfold_k01_shares.main.body.getD i (.Pass ⟨0, 0, 0, 0⟩)
abbrev s_share : Stmt := topS 2
theorem sc_share : FnScope ["top", "bottom", "common"] ["top", "bottom"] (defScope s_share) := ⟨rfl, rfl, rfl, by decide +kernel, rfl, by decide +kernel, by decide +kernel⟩
abbrev s_plus : Stmt := topS 3
theorem sc_plus : FnScope ["one", "other"] ["one", "other"] (defScope s_plus) := ⟨rfl, rfl, rfl, by decide +kernel, rfl, by decide +kernel, by decide +kernel⟩
abbrev s_minus : Stmt := topS 4
theorem sc_minus : FnScope ["one", "other"] ["one", "other"] (defScope s_minus) := ⟨rfl, rfl, rfl, by decide +kernel, rfl, by decide +kernel, by decide +kernel⟩
abbrev s_times : Stmt := topS 5
theorem sc_times : FnScope ["one", "other"] ["one", "other"] (defScope s_times) := ⟨rfl, rfl, rfl, by decide +kernel, rfl, by decide +kernel, by decide +kernel⟩
abbrev s_law_next : Stmt := topS 7
theorem sc_law_next : FnScope ["_law_h", "_law_many", "_law_at", "_law_cell"] ["_law_h", "_law_many"] (defScope s_law_next) := ⟨rfl, rfl, rfl, by decide +kernel, rfl, by decide +kernel, by decide +kernel⟩
abbrev s_law_number : Stmt := topS 8
theorem sc_law_number : FnScope ["_law_h", "_law_some"] ["_law_h"] (defScope s_law_number) := ⟨rfl, rfl, rfl, by decide +kernel, rfl, by decide +kernel, by decide +kernel⟩
abbrev s_law_is_share : Stmt := topS 9
theorem sc_law_is_share : FnScope ["_law_found", "_law_top", "_law_bottom", "_law_number_here", "_law_one", "_law_other"] ["_law_found", "_law_top", "_law_bottom"] (defScope s_law_is_share) := ⟨rfl, rfl, rfl, by decide +kernel, rfl, by decide +kernel, by decide +kernel⟩
abbrev s_law : Stmt := topS 10
theorem sc_law : FnScope ["_law_script", "_law_h", "_law_rows", "_law_k", "_law_many", "_law_bottom", "_law_a", "_law_b", "_law_c", "_law_d", "_law_one", "_law_other"] ["_law_script"] (defScope s_law) := ⟨rfl, rfl, rfl, by decide +kernel, rfl, by decide +kernel, by decide +kernel⟩
structure DefAt (K : PySem.W.Frag) (mg : Str → Option Value) (x qual : Str) (st : Stmt) (ps : List Str) (f : Addr) (fd : FuncData) : Prop where
  F : Fun K x qual st f fd
  g : mg x = some (.ref f)
  b : Binds K fd ps []
def HasDef (K : PySem.W.Frag) (mg : Str → Option Value) (x qual : Str) (st : Stmt) (ps : List Str) : Prop := ∃ f fd, DefAt K mg x qual st ps f fd
structure Txt (K : PySem.W.Frag) (mg : Str → Option Value) : Prop where
  d_share : HasDef K mg "share" "share" s_share ["top", "bottom"]
  d_plus : HasDef K mg "plus" "plus" s_plus ["one", "other"]
  d_minus : HasDef K mg "minus" "minus" s_minus ["one", "other"]
  d_times : HasDef K mg "times" "times" s_times ["one", "other"]
  d_law_next : HasDef K mg "_law_next" "_law_next" s_law_next ["_law_h", "_law_many"]
  d_law_number : HasDef K mg "_law_number" "_law_number" s_law_number ["_law_h"]
  d_law_is_share : HasDef K mg "_law_is_share" "_law_is_share" s_law_is_share ["_law_found", "_law_top", "_law_bottom"]
  m_max : mg "max" = none
  m_len : mg "len" = none
  m_isinstance : mg "isinstance" = none
  m_tuple : mg "tuple" = none
  m_bool : mg "bool" = none
  m_int : mg "int" = none
  m_abs : mg "abs" = none
  m_list : mg "list" = none
  m_range : mg "range" = none
  i_gcd : mg "gcd" = some (.builtin "math.gcd")
/-! ### fractions -/
theorem divInt_num_pos {t b : Int} (h : 0 < b) : (Rat.divInt t b).num = t.fdiv ((Nat.gcd t.natAbs b.natAbs : Nat) : Int) := by
  rw [Rat.num_divInt, Int.sign_eq_one_of_pos h, Int.one_mul, Int.fdiv_eq_ediv_of_nonneg _ (by omega), Int.gcd, Nat.gcd_comm]
theorem divInt_den_pos {t b : Int} (h : 0 < b) : ((Rat.divInt t b).den : Int) = b.fdiv ((Nat.gcd t.natAbs b.natAbs : Nat) : Int) := by
  have e : ((b.natAbs : Nat) : Int) = b := by omega
  rw [Rat.den_divInt, if_neg (by omega), Int.fdiv_eq_ediv_of_nonneg _ (by omega), Int.gcd, Nat.gcd_comm, Int.natCast_ediv, e]
theorem gcd_pos {t b : Int} (h : b ≠ 0) : 0 < Nat.gcd t.natAbs b.natAbs := Nat.gcd_pos_of_pos_right _ (by omega)
theorem fdiv_neg_gcd {x : Int} {g : Nat} (hg : 0 < g) (hd : (g : Int) ∣ x) : x.fdiv (-(g : Int)) = (-x).fdiv (g : Int) := by
  obtain ⟨q, rfl⟩ := hd
  have e1 : (g : Int) * q = (-(g : Int)) * (-q) := by rw [Int.neg_mul_neg]
  have e2 : -((g : Int) * q) = (g : Int) * (-q) := by rw [Int.mul_neg]
  rw [e2, Int.mul_fdiv_cancel_left _ (by omega), e1, Int.mul_fdiv_cancel_left _ (by omega)]
theorem divInt_num_neg {t b : Int} (h : b < 0) : (Rat.divInt t b).num = t.fdiv (-((Nat.gcd t.natAbs b.natAbs : Nat) : Int)) := by
  rw [show Rat.divInt t b = Rat.divInt (-t) (-b) from (Rat.neg_divInt_neg t b).symm, divInt_num_pos (by omega : 0 < -b), fdiv_neg_gcd (gcd_pos (by omega)) (Int.ofNat_dvd_left.mpr (Nat.gcd_dvd_left _ _)), Int.natAbs_neg, Int.natAbs_neg]
theorem divInt_den_neg {t b : Int} (h : b < 0) : ((Rat.divInt t b).den : Int) = b.fdiv (-((Nat.gcd t.natAbs b.natAbs : Nat) : Int)) := by
  rw [show Rat.divInt t b = Rat.divInt (-t) (-b) from (Rat.neg_divInt_neg t b).symm, divInt_den_pos (by omega : 0 < -b), fdiv_neg_gcd (gcd_pos (by omega)) (Int.ofNat_dvd_left.mpr (Nat.gcd_dvd_right _ _)), Int.natAbs_neg, Int.natAbs_neg]
/-- the size of a fraction -/
def RB (a : Nat) (r : Rat) : Prop := r.num.natAbs < 2 ^ a ∧ r.den < 2 ^ a
theorem RB.divInt {a : Nat} {t b : Int} (h : b ≠ 0) (ht : t.natAbs < 2 ^ a) (hb : b.natAbs < 2 ^ a) : RB a (Rat.divInt t b) := by
  constructor
  · have hd : ((b.gcd t : Nat) : Int) ∣ b.sign * t := Int.dvd_trans (Int.gcd_dvd_right ..) (Int.dvd_mul_left _ _)
    rw [Rat.num_divInt, Int.natAbs_ediv_of_dvd hd, Int.natAbs_mul, Int.natAbs_sign, if_neg h, Nat.one_mul]
    exact Nat.lt_of_le_of_lt (Nat.div_le_self _ _) ht
  · rw [Rat.den_divInt, if_neg h]
    exact Nat.lt_of_le_of_lt (Nat.div_le_self _ _) hb
theorem RB.mono {a b : Nat} {r : Rat} (h : RB a r) (hab : a ≤ b) : RB b r := ⟨Nat.lt_of_lt_of_le h.1 (Nat.pow_le_pow_right (by decide) hab), Nat.lt_of_lt_of_le h.2 (Nat.pow_le_pow_right (by decide) hab)⟩
theorem den_ne (r : Rat) : (r.den : Int) ≠ 0 := by
  have := r.den_nz
  omega
theorem add_eq (r s : Rat) : r + s = Rat.divInt (r.num * s.den + s.num * r.den) (r.den * s.den) := by
  conv => lhs; rw [← Rat.num_divInt_den r, ← Rat.num_divInt_den s]
  exact Rat.divInt_add_divInt _ _ (den_ne r) (den_ne s)
theorem sub_eq (r s : Rat) : r - s = Rat.divInt (r.num * s.den - s.num * r.den) (r.den * s.den) := by
  conv => lhs; rw [← Rat.num_divInt_den r, ← Rat.num_divInt_den s]
  exact Rat.divInt_sub_divInt _ _ (den_ne r) (den_ne s)
theorem mul_eq (r s : Rat) : r * s = Rat.divInt (r.num * s.num) (r.den * s.den) := by
  conv => lhs; rw [← Rat.num_divInt_den r, ← Rat.num_divInt_den s]
  exact Rat.divInt_mul_divInt _ _ ..
theorem divInt_mul_den (t b : Int) (h : b ≠ 0) : (Rat.divInt t b).num * b = t * (Rat.divInt t b).den := by
  have e : Rat.divInt (Rat.divInt t b).num (Rat.divInt t b).den = Rat.divInt t b := Rat.num_divInt_den _
  exact (Rat.divInt_eq_divInt_iff (den_ne _) h).mp e
theorem natAbs_mul_lt {x y : Int} {a b : Nat} (hx : x.natAbs < 2 ^ a) (hy : y.natAbs < 2 ^ b) : (x * y).natAbs < 2 ^ (a + b) := by
  rw [Int.natAbs_mul, Nat.pow_add]
  exact Nat.mul_lt_mul'' hx hy
theorem natAbs_add_lt {x y : Int} {a : Nat} (hx : x.natAbs < 2 ^ a) (hy : y.natAbs < 2 ^ a) : (x + y).natAbs < 2 ^ (a + 1) := by
  rw [Nat.pow_succ]
  omega
theorem natAbs_sub_lt {x y : Int} {a : Nat} (hx : x.natAbs < 2 ^ a) (hy : y.natAbs < 2 ^ a) : (x - y).natAbs < 2 ^ (a + 1) := by
  rw [Nat.pow_succ]
  omega
theorem lt_up {n a b : Nat} (h : n < 2 ^ a) (hab : a ≤ b) : n < 2 ^ b := Nat.lt_of_lt_of_le h (Nat.pow_le_pow_right (by decide) hab)
/-! ### small things -/
theorem ixNat {n j : Nat} (h : j < n) : ixN n (j : Int) = some j := by
  unfold ixN
  rw [if_pos (by omega), if_pos (by omega)]
  rfl
theorem dpInts {K : PySem.W.Frag} {H : Hp} : ∀ cs : List Int, DpAll K H (cs.map V.int) (cs.map PyData.int)
  | [] => .nil
  | _ :: r => .cons (.int _) (dpInts r)
theorem canLayInts : ∀ cs : List Int, PyData.canLayAll0 (cs.map PyData.int) = true
  | [] => by simp [PyData.canLayAll0]
  | x :: r => by simp [PyData.canLayAll0, PyData.canLay0, canLayInts r]
theorem depthInts : ∀ cs : List Int, PyData.depthAll (cs.map PyData.int) = 0
  | [] => by simp [PyData.depthAll]
  | x :: r => by simp [PyData.depthAll, PyData.depth, depthInts r]
theorem shapedInts (cs : List Int) : SeqAt.shaped (.list (cs.map PyData.int)) = true := by
  simp [SeqAt.shaped, PyData.canLay0, PyData.depth, canLayInts, depthInts]
theorem eqvNil : ∀ cs : List Int, PyData.eqv (.list (cs.map PyData.int)) (.list []) = cs.isEmpty
  | [] => by simp [PyData.eqv, PyData.eqvAll]
  | x :: r => by simp [PyData.eqv, PyData.eqvAll]
/-! ### shares -/
/-- // by any divisor but nought, below 2 ^ 9000 in size -/
def CDivZ (_ j : Int) : Prop := j ≠ 0 ∧ j.natAbs < 2 ^ 9000
theorem op_fdivZ {X : Cx} : OpR X (binaryOp .FloorDiv) (rI CDivZ fun i j => .int (i.fdiv j)) := opI fun _ _ _ _ _ _ _ hc q => floordiv_int hc.1 q (.inl (PyProof.noPylong_of_log2 (PySem.Flt.log2_lt_of (by decide) hc.2)))
theorem mulOk {i j : Int} {a b : Nat} (ha : i.natAbs < 2 ^ a) (hb : j.natAbs < 2 ^ b) (h0 : 0 < a) (h1 : 0 < b) (h : a + b ≤ 8999) : CMulW i j := wide_mul ha hb h0 h1 (by omega)
def ratV (r : Rat) : List V := [.int r.num, .int (r.den : Int)]
theorem ratV_num (r : Rat) : atI (ratV r) 0 = some (.int r.num) := atI_nat (j := 0) rfl
theorem ratV_den (r : Rat) : atI (ratV r) 1 = some (.int (r.den : Int)) := atI_nat (j := 1) rfl
theorem RB.den {a : Nat} {r : Rat} (h : RB a r) : ((r.den : Int)).natAbs < 2 ^ a := h.2
def spShare : Sp := fun vs H Q _ => ∃ (t b : Int), vs = [.int t, .int b] ∧ b ≠ 0 ∧ b.natAbs < 2 ^ 9000 ∧ ∀ p, H p = none → Q (.ref p) (upd H p (.tup (ratV (Rat.divInt t b))))
def spRat (K : PySem.W.Frag) (g : Rat → Rat → Rat) : Sp := fun vs H Q _ => ∃ (p q : Addr) (r s : Rat) (a b : Nat), vs = [.ref p, .ref q] ∧ SqT K H p (ratV r) ∧ SqT K H q (ratV s) ∧ RB a r ∧ RB b s ∧ 0 < a ∧ 0 < b ∧ a + b ≤ 8999 ∧
  ∀ o, H o = none → Q (.ref o) (upd H o (.tup (ratV (g r s))))
section
variable {P : Program} {w : World} {K : PySem.W.Frag} {mg : Str → Option Value} {base : Heap}
theorem ok_share {f : Addr} {fd : FuncData} (T : Txt K mg) (D : DefAt K mg "share" "share" s_share ["top", "bottom"] f fd) : FnOk P w K mg base CX0 1 f fd ["top", "bottom"] spShare := by
  refine D.F.ok sc_share (fun vs H Q E h => ?_) (fun cdv A outer s H vs Q E hr h => ?_)
  · obtain ⟨t, b, rfl, _⟩ := h
    rfl
  · obtain ⟨t, b, rfl, hb0, hb, q⟩ := h
    refine ⟨_, pss_cons (ps_set (i := 2) sc_share.nd rfl (.inl rfl) (pe_callBfun cr_gcd (by rfl) T.i_gcd (pa_cons (pv 0) (pa_cons (pv 1) pa_nil))))
      (pss_cons (ps_if (pt_cmpR op_lt (pv 1) pe_int (nomark _)) (pss_one (ps_set (i := 2) sc_share.nd rfl (.inl rfl) (pe_un un_neg (pv 2)))) pss_nil)
      (pss_one (ps_ret (pe_tup (pa_cons (pe_op op_fdivZ (pv 0) (pv 2)) (pa_cons (pe_op op_fdivZ (pv 1) (pv 2)) pa_nil)))))), ?_⟩
    have g0 := gcd_pos (t := t) hb0
    have g1 : Nat.gcd t.natAbs b.natAbs ≤ b.natAbs := Nat.gcd_le_right _ (by omega)
    refine ⟨_, rfl, _, rfl, t, b, rfl, _, rfl, _, _, rfl, rfl, _, rfl, ite2 (fun e => ?_) (fun e => ?_)⟩
    · have e' : b < 0 := of_decide_eq_true e
      refine ⟨_, rfl, _, rfl, _, rfl, _, rfl, _, _, rfl, rfl, ⟨by omega, by rw [Int.natAbs_neg]; exact Nat.lt_of_le_of_lt g1 hb⟩, _, rfl, _, rfl, _, _, rfl, rfl, ⟨by omega, by rw [Int.natAbs_neg]; exact Nat.lt_of_le_of_lt g1 hb⟩, (by show 2 ≤ sizeLine; decide), fun p hp => ?_⟩
      have z := q p hp
      unfold ratV at z
      rw [divInt_num_neg e', divInt_den_neg e'] at z
      exact z
    · have e' : 0 < b := by
        have := of_decide_eq_false (Bool.eq_false_iff.mpr e)
        omega
      refine ⟨_, rfl, _, rfl, _, _, rfl, rfl, ⟨by omega, Nat.lt_of_le_of_lt g1 hb⟩, _, rfl, _, rfl, _, _, rfl, rfl, ⟨by omega, Nat.lt_of_le_of_lt g1 hb⟩, (by show 2 ≤ sizeLine; decide), fun p hp => ?_⟩
      have z := q p hp
      unfold ratV at z
      rw [divInt_num_pos e', divInt_den_pos e'] at z
      exact z
theorem ok_plus {f : Addr} {fd : FuncData} (T : Txt K mg) (D : DefAt K mg "plus" "plus" s_plus ["one", "other"] f fd) : FnOk P w K mg base CX0 2 f fd ["one", "other"] (spRat K (· + ·)) := by
  obtain ⟨f1, fd1, D1⟩ := T.d_share
  have G : FnOk P w K mg base CX0 1 f1 fd1 ["top", "bottom"] spShare := ok_share T D1
  refine D.F.ok sc_plus (fun vs H Q E h => ?_) (fun cdv A outer s H vs Q E hr h => ?_)
  · obtain ⟨p, q, r, t, a, b, rfl, _⟩ := h
    rfl
  · obtain ⟨p, q, r, t, a, b, rfl, hp, hq, ra, rb, a0, b0, hab, k⟩ := h
    refine ⟨_, pss_one (ps_ret (pe_call G hr (by rfl) D1.g D1.F.kp D1.b .nil pass0 (pa_cons
      (pe_op op_add (pe_op op_mulW (pe_ix ix_tup (pv 0) pe_int (fun _ _ => rfl)) (pe_ix ix_tup (pv 1) pe_int (fun _ _ => rfl))) (pe_op op_mulW (pe_ix ix_tup (pv 1) pe_int (fun _ _ => rfl)) (pe_ix ix_tup (pv 0) pe_int (fun _ _ => rfl))))
      (pa_cons (pe_op op_mulW (pe_ix ix_tup (pv 0) pe_int (fun _ _ => rfl)) (pe_ix ix_tup (pv 1) pe_int (fun _ _ => rfl))) pa_nil)))), ?_⟩
    refine ⟨_, rfl, p, _, _, _, rfl, rfl, hp, ratV_num r, _, rfl, q, _, _, _, rfl, rfl, hq, ratV_den t, _, _, rfl, rfl, mulOk ra.1 rb.den a0 b0 hab,
      _, rfl, q, _, _, _, rfl, rfl, hq, ratV_num t, _, rfl, p, _, _, _, rfl, rfl, hp, ratV_den r, _, _, rfl, rfl, mulOk rb.1 ra.den b0 a0 (by omega), _, _, rfl, rfl,
      _, rfl, p, _, _, _, rfl, rfl, hp, ratV_den r, _, rfl, q, _, _, _, rfl, rfl, hq, ratV_den t, _, _, rfl, rfl, mulOk ra.den rb.den a0 b0 hab, _, _, rfl, ?_, ?_, fun o ho => ?_⟩
    · exact Int.mul_ne_zero (den_ne r) (den_ne t)
    · exact lt_up (natAbs_mul_lt ra.den rb.den) (by omega)
    · have z := k o ho
      show Q (.ref o) (upd H o (.tup (ratV (Rat.divInt (r.num * t.den + t.num * r.den) (r.den * t.den)))))
      rw [← add_eq]
      exact z
theorem ok_minus {f : Addr} {fd : FuncData} (T : Txt K mg) (D : DefAt K mg "minus" "minus" s_minus ["one", "other"] f fd) : FnOk P w K mg base CX0 2 f fd ["one", "other"] (spRat K (· - ·)) := by
  obtain ⟨f1, fd1, D1⟩ := T.d_share
  have G : FnOk P w K mg base CX0 1 f1 fd1 ["top", "bottom"] spShare := ok_share T D1
  refine D.F.ok sc_minus (fun vs H Q E h => ?_) (fun cdv A outer s H vs Q E hr h => ?_)
  · obtain ⟨p, q, r, t, a, b, rfl, _⟩ := h
    rfl
  · obtain ⟨p, q, r, t, a, b, rfl, hp, hq, ra, rb, a0, b0, hab, k⟩ := h
    refine ⟨_, pss_one (ps_ret (pe_call G hr (by rfl) D1.g D1.F.kp D1.b .nil pass0 (pa_cons
      (pe_op op_sub (pe_op op_mulW (pe_ix ix_tup (pv 0) pe_int (fun _ _ => rfl)) (pe_ix ix_tup (pv 1) pe_int (fun _ _ => rfl))) (pe_op op_mulW (pe_ix ix_tup (pv 1) pe_int (fun _ _ => rfl)) (pe_ix ix_tup (pv 0) pe_int (fun _ _ => rfl))))
      (pa_cons (pe_op op_mulW (pe_ix ix_tup (pv 0) pe_int (fun _ _ => rfl)) (pe_ix ix_tup (pv 1) pe_int (fun _ _ => rfl))) pa_nil)))), ?_⟩
    refine ⟨_, rfl, p, _, _, _, rfl, rfl, hp, ratV_num r, _, rfl, q, _, _, _, rfl, rfl, hq, ratV_den t, _, _, rfl, rfl, mulOk ra.1 rb.den a0 b0 hab,
      _, rfl, q, _, _, _, rfl, rfl, hq, ratV_num t, _, rfl, p, _, _, _, rfl, rfl, hp, ratV_den r, _, _, rfl, rfl, mulOk rb.1 ra.den b0 a0 (by omega), _, _, rfl, rfl,
      _, rfl, p, _, _, _, rfl, rfl, hp, ratV_den r, _, rfl, q, _, _, _, rfl, rfl, hq, ratV_den t, _, _, rfl, rfl, mulOk ra.den rb.den a0 b0 hab, _, _, rfl, ?_, ?_, fun o ho => ?_⟩
    · exact Int.mul_ne_zero (den_ne r) (den_ne t)
    · exact lt_up (natAbs_mul_lt ra.den rb.den) (by omega)
    · have z := k o ho
      show Q (.ref o) (upd H o (.tup (ratV (Rat.divInt (r.num * t.den - t.num * r.den) (r.den * t.den)))))
      rw [← sub_eq]
      exact z
theorem ok_times {f : Addr} {fd : FuncData} (T : Txt K mg) (D : DefAt K mg "times" "times" s_times ["one", "other"] f fd) : FnOk P w K mg base CX0 2 f fd ["one", "other"] (spRat K (· * ·)) := by
  obtain ⟨f1, fd1, D1⟩ := T.d_share
  have G : FnOk P w K mg base CX0 1 f1 fd1 ["top", "bottom"] spShare := ok_share T D1
  refine D.F.ok sc_times (fun vs H Q E h => ?_) (fun cdv A outer s H vs Q E hr h => ?_)
  · obtain ⟨p, q, r, t, a, b, rfl, _⟩ := h
    rfl
  · obtain ⟨p, q, r, t, a, b, rfl, hp, hq, ra, rb, a0, b0, hab, k⟩ := h
    refine ⟨_, pss_one (ps_ret (pe_call G hr (by rfl) D1.g D1.F.kp D1.b .nil pass0 (pa_cons
      (pe_op op_mulW (pe_ix ix_tup (pv 0) pe_int (fun _ _ => rfl)) (pe_ix ix_tup (pv 1) pe_int (fun _ _ => rfl)))
      (pa_cons (pe_op op_mulW (pe_ix ix_tup (pv 0) pe_int (fun _ _ => rfl)) (pe_ix ix_tup (pv 1) pe_int (fun _ _ => rfl))) pa_nil)))), ?_⟩
    refine ⟨_, rfl, p, _, _, _, rfl, rfl, hp, ratV_num r, _, rfl, q, _, _, _, rfl, rfl, hq, ratV_num t, _, _, rfl, rfl, mulOk ra.1 rb.1 a0 b0 hab,
      _, rfl, p, _, _, _, rfl, rfl, hp, ratV_den r, _, rfl, q, _, _, _, rfl, rfl, hq, ratV_den t, _, _, rfl, rfl, mulOk ra.den rb.den a0 b0 hab, _, _, rfl, ?_, ?_, fun o ho => ?_⟩
    · exact Int.mul_ne_zero (den_ne r) (den_ne t)
    · exact lt_up (natAbs_mul_lt ra.den rb.den) (by omega)
    · have z := k o ho
      show Q (.ref o) (upd H o (.tup (ratV (Rat.divInt (r.num * t.num) (r.den * t.den)))))
      rw [← mul_eq]
      exact z
end
theorem RB.add {a b : Nat} {r s : Rat} (h : RB a r) (g : RB b s) : RB (a + b + 1) (r + s) := by
  rw [add_eq]
  refine RB.divInt (Int.mul_ne_zero (den_ne r) (den_ne s)) (natAbs_add_lt (natAbs_mul_lt h.1 g.den) ?_) (lt_up (natAbs_mul_lt h.den g.den) (by omega))
  rw [Nat.add_comm]
  exact natAbs_mul_lt g.1 h.den
theorem RB.sub {a b : Nat} {r s : Rat} (h : RB a r) (g : RB b s) : RB (a + b + 1) (r - s) := by
  rw [sub_eq]
  refine RB.divInt (Int.mul_ne_zero (den_ne r) (den_ne s)) (natAbs_sub_lt (natAbs_mul_lt h.1 g.den) ?_) (lt_up (natAbs_mul_lt h.den g.den) (by omega))
  rw [Nat.add_comm]
  exact natAbs_mul_lt g.1 h.den
theorem RB.mul {a b : Nat} {r s : Rat} (h : RB a r) (g : RB b s) : RB (a + b) (r * s) := by
  rw [mul_eq]
  exact RB.divInt (Int.mul_ne_zero (den_ne r) (den_ne s)) (natAbs_mul_lt h.1 g.1) (natAbs_mul_lt h.den g.den)
/-! ### the draws -/
/-- the three cells of the drawing: a seed, the list of what is left of the script, a place -/
structure HAt (H : Hp) (h c : Addr) (s k : Int) (cs : List Int) : Prop where
  h : H h = some (.lst [.int s, .ref c, .int k])
  c : H c = some (.lst (cs.map V.int))
  n : cs.length ≤ 63
theorem HAt.ne {H : Hp} {h c : Addr} {s k : Int} {cs : List Int} (D : HAt H h c s k cs) : h ≠ c := by
  refine ne_of D.h D.c (fun e => ?_)
  cases cs with
  | nil => cases e
  | cons x r =>
    cases r with
    | nil => cases e
    | cons y r => cases e
/-- all that was tracked is as it was, but for the drawing's two lists -/
def But (h c : Addr) (H H' : Hp) : Prop := ∀ b o, H b = some o → b ≠ h → b ≠ c → H' b = some o
theorem But.refl (h c : Addr) (H : Hp) : But h c H H := fun _ _ e _ _ => e
theorem But.trans {h c : Addr} {H H1 H2 : Hp} (a : But h c H H1) (b : But h c H1 H2) : But h c H H2 := fun x o e n1 n2 => b x o (a x o e n1 n2) n1 n2
theorem But.same {h c : Addr} {H H1 H2 : Hp} (a : But h c H H1) (b : Same H1 H2) : But h c H H2 := fun x o e n1 n2 => b x o (a x o e n1 n2)
theorem Same.but {h c : Addr} {H H1 : Hp} (a : Same H H1) : But h c H H1 := fun x o e _ _ => a x o e
theorem same_upd {H : Hp} {p : Addr} {o : HO} (h : H p = none) : Same H (upd H p o) := fun b x e => by
  rw [upd_ne (ne_of_none e h)]
  exact e
theorem HAt.same {H H' : Hp} {h c : Addr} {s k : Int} {cs : List Int} (D : HAt H h c s k cs) (e : Same H H') : HAt H' h c s k cs := ⟨e _ _ D.h, e _ _ D.c, D.n⟩
def spNext : Sp := fun vs H Q _ => ∃ (h c : Addr) (s k m : Int) (cs : List Int), vs = [.ref h, .int m] ∧ 0 < m ∧ m < 1073741824 ∧ HAt H h c s k cs ∧
  ∀ (s' k' : Int) (cs' : List Int) (r : Int) (H' : Hp), 0 ≤ r → r < m → HAt H' h c s' k' cs' → But h c H H' → Q (.int r) H'
theorem fmod_lo {x m : Int} (h : 0 < m) : 0 ≤ x.fmod m := by
  rw [Int.fmod_eq_emod_of_nonneg _ (by omega)]
  exact Int.emod_nonneg _ (by omega)
theorem fmod_hi {x m : Int} (h : 0 < m) : x.fmod m < m := by
  rw [Int.fmod_eq_emod_of_nonneg _ (by omega)]
  exact Int.emod_lt_of_pos _ h
theorem max1 (n : Nat) : (if (n : Int) > 1 then (n : Int) else 1) = ((if n > 1 then n else 1 : Nat) : Int) := by
  split <;> split <;> omega
section
variable {P : Program} {w : World} {K : PySem.W.Frag} {mg : Str → Option Value} {base : Heap}
theorem ok_law_next {f : Addr} {fd : FuncData} (T : Txt K mg) (D : DefAt K mg "_law_next" "_law_next" s_law_next ["_law_h", "_law_many"] f fd) : FnOk P w K mg base CX0 1 f fd ["_law_h", "_law_many"] spNext := by
  refine D.F.ok sc_law_next (fun vs H Q E h => ?_) (fun cdv A outer s H vs Q E hr h => ?_)
  · obtain ⟨h, c, s, k, m, cs, rfl, _⟩ := h
    rfl
  · obtain ⟨h, c, z, k, m, cs, rfl, m0, m1, A1, q⟩ := h
    refine ⟨_, pss_cons (ps_set (i := 2) sc_law_next.nd rfl (.inl rfl) (pe_op op_modN (pe_ix ix_list (pv 0) pe_int (fun _ _ => rfl)) (pe_callB (call_max2 rfl) (by rfl) T.m_max (by decide +kernel) (pa_cons pe_int (pa_cons (pe_callB call_len_seq (by rfl) T.m_len PySem.boot_len (pa_cons (pe_ix ix_list (pv 0) pe_int (fun _ _ => rfl)) pa_nil)) pa_nil)))))
      (pss_cons (ps_set (i := 3) sc_law_next.nd rfl (.inl rfl) (pe_ifExp (pt_cmpR (op_neD hr.units) (pe_ix ix_list (pv 0) pe_int (fun _ _ => rfl)) (pe_lst pa_nil) (nomark _)) (pe_ix ix_list (pe_ix ix_list (pv 0) pe_int (fun _ _ => rfl)) (pv 2) (fun _ _ => rfl)) pe_int))
      (pss_cons (ps_if (pt_cmpR op_ge (pv 3) (pe_op op_pow pe_int pe_int) (nomark _)) (pss_cons (ps_asg (pe_op op_fdivN (pv 3) (pv 1)) (pg_sub (pe_ix ix_list (pv 0) pe_int (fun _ _ => rfl)) (pv 2) set_list)) (pss_one (ps_ret (pe_op op_modN (pv 3) (pv 1))))) pss_nil)
      (pss_cons (ps_asg (pe_op op_mod (pe_op op_add (pe_op op_add (pe_op op_mul (pe_ix ix_list (pv 0) pe_int (fun _ _ => rfl)) pe_int) (pe_op op_mul (pv 3) pe_int)) pe_int) pe_int) (pg_sub (pv 0) pe_int set_list))
      (pss_cons (ps_asg (pe_op op_add (pe_ix ix_list (pv 0) pe_int (fun _ _ => rfl)) pe_int) (pg_sub (pv 0) pe_int set_list))
      (pss_one (ps_ret (pe_op op_modN (pe_op op_fdiv (pe_ix ix_list (pv 0) pe_int (fun _ _ => rfl)) pe_int) (pv 1)))))))), ?_⟩
    have hne := A1.ne
    have lc : (cs.map V.int).length = cs.length := List.length_map _
    -- the place: h[2] % max(1, len(h[1]))
    refine ⟨_, rfl, h, _, _, _, rfl, rfl, SqL.of A1.h, atI_nat (j := 2) rfl, _, rfl, h, _, _, _, rfl, rfl, SqL.of A1.h, atI_nat (j := 1) rfl, c, _, rfl, .inl (SqL.of A1.c), _, _, rfl, _, _, rfl, rfl, ?_, ?_⟩
    · rw [lc, max1]
      split <;> omega
    rw [lc, max1]
    have hat : ∀ x : Int, cs ≠ [] → ∃ j : Nat, x.fmod ((if cs.length > 1 then cs.length else 1 : Nat) : Int) = (j : Int) ∧ j < cs.length := fun x e => by
      have l0 : 0 < cs.length := List.length_pos_iff.mpr e
      have e1 : (if cs.length > 1 then cs.length else 1) = cs.length := by split <;> omega
      rw [e1]
      have a := fmod_lo (x := x) (m := (cs.length : Int)) (by omega)
      have b := fmod_hi (x := x) (m := (cs.length : Int)) (by omega)
      exact ⟨(x.fmod cs.length).toNat, by omega, by omega⟩
    -- the cell
    refine ⟨_, rfl, h, _, _, _, rfl, rfl, SqL.of A1.h, atI_nat (j := 1) rfl, (by show 0 ≤ sizeLine; decide), fun l hl => ?_⟩
    have sl : Same H (upd H l (.lst [])) := same_upd hl
    have A2 := A1.same sl
    have fin : ∀ (s' k' : Int) (cs' : List Int) (r : Int) (H' : Hp), 0 ≤ r → r < m → HAt H' h c s' k' cs' → But h c (upd H l (.lst [])) H' → Q (.int r) H' := fun s' k' cs' r H' r0 r1 A' B' => q s' k' cs' r H' r0 r1 A' ((Same.but sl).trans B')
    refine ⟨_, _, Dp.lst (SqL.of A2.c) (dpInts cs), Dp.lst (SqL.of upd_same) DpAll.nil, shapedInts cs, by decide, _, rfl, ite2 (fun e => ?_) (fun e => ?_)⟩
    rotate_left
    · refine ⟨_, rfl, _, _, rfl, rfl, ⟨by decide, by decide, by decide⟩, _, _, rfl, rfl, _, rfl, ite2 (fun e => absurd (of_decide_eq_true e) (by decide +kernel)) (fun e => ?_)⟩
      refine ⟨_, rfl, h, _, _, _, rfl, rfl, SqL.of A2.h, atI_nat (j := 0) rfl, _, _, rfl, rfl, .inr ⟨by decide, by decide⟩, _, rfl, _, _, rfl, rfl, .inr ⟨by decide, by decide⟩, _, _, rfl, rfl, _, _, rfl, rfl, _, _, rfl, rfl, (by show (0 : Int) < 2147483647; decide), _, rfl, h, _, _, 0, rfl, rfl, A2.h, rfl,
        _, rfl, h, _, _, _, rfl, rfl, SqL.of upd_same, atI_nat (j := 2) rfl, _, _, rfl, rfl, _, rfl, h, _, _, 2, rfl, rfl, upd_same, rfl,
        _, rfl, h, _, _, _, rfl, rfl, SqL.of upd_same, atI_nat (j := 0) rfl, _, _, rfl, rfl, ⟨by decide, by decide⟩, _, rfl, _, _, rfl, rfl, by omega, ?_⟩
      exact fin _ _ cs _ _ (fmod_lo m0) (fmod_hi m0) ⟨upd_same, by rw [upd_ne hne.symm, upd_ne hne.symm]; exact A2.c, A1.n⟩ fun b o e nb nc => by rw [upd_ne nb, upd_ne nb]; exact e
    · have e0 : cs ≠ [] := fun z => by
        subst z
        simp [PyData.eqv, PyData.eqvAll] at e
      obtain ⟨j, ej, hj⟩ := hat k e0
      have gj : (cs.map V.int)[j]? = some (.int cs[j]) := by
        rw [List.getElem?_map, List.getElem?_eq_getElem hj]
        rfl
      refine ⟨_, rfl, h, _, _, _, rfl, rfl, SqL.of A2.h, atI_nat (j := 1) rfl, _, rfl, c, _, _, _, rfl, rfl, SqL.of A2.c, at_of ej gj, _, rfl, _, _, rfl, rfl, ⟨by decide, by decide, by decide⟩, _, _, rfl, rfl, _, rfl, ite2 (fun e => ?_) (fun e => ?_)⟩
      · -- h[1][at] = cell // many; return cell % many
        refine ⟨_, rfl, _, rfl, _, _, rfl, rfl, ⟨by omega, by omega⟩, _, rfl, h, _, _, _, rfl, rfl, SqL.of A2.h, atI_nat (j := 1) rfl, _, rfl, c, _, _, j, rfl, rfl, A2.c, by rw [ej]; exact ixNat (by rw [lc]; exact hj), _, rfl, _, rfl, _, _, rfl, rfl, by omega, ?_⟩
        exact fin z k (cs.set j (cs[j].fdiv m)) _ _ (fmod_lo m0) (fmod_hi m0) ⟨by rw [upd_ne hne]; exact A2.h, by rw [upd_same, List.map_set], by rw [List.length_set]; exact A1.n⟩ fun b o e nb nc => by rw [upd_ne nc]; exact e
      · refine ⟨_, rfl, h, _, _, _, rfl, rfl, SqL.of A2.h, atI_nat (j := 0) rfl, _, _, rfl, rfl, .inr ⟨by decide, by decide⟩, _, rfl, _, _, rfl, rfl, .inr ⟨by decide, by decide⟩, _, _, rfl, rfl, _, _, rfl, rfl, _, _, rfl, rfl, (by show (0 : Int) < 2147483647; decide), _, rfl, h, _, _, 0, rfl, rfl, A2.h, rfl,
          _, rfl, h, _, _, _, rfl, rfl, SqL.of upd_same, atI_nat (j := 2) rfl, _, _, rfl, rfl, _, rfl, h, _, _, 2, rfl, rfl, upd_same, rfl,
          _, rfl, h, _, _, _, rfl, rfl, SqL.of upd_same, atI_nat (j := 0) rfl, _, _, rfl, rfl, ⟨by decide, by decide⟩, _, rfl, _, _, rfl, rfl, by omega, ?_⟩
        exact fin _ _ cs _ _ (fmod_lo m0) (fmod_hi m0) ⟨upd_same, by rw [upd_ne hne.symm, upd_ne hne.symm]; exact A2.c, A1.n⟩ fun b o e nb nc => by rw [upd_ne nb, upd_ne nb]; exact e
end
theorem HAt.set {H : Hp} {h c l : Addr} {s k : Int} {cs : List Int} {o : HO} (D : HAt H h c s k cs) (nh : l ≠ h) (nc : l ≠ c) : HAt (upd H l o) h c s k cs := ⟨by rw [upd_ne nh.symm]; exact D.h, by rw [upd_ne nc.symm]; exact D.c, D.n⟩
/-! ### the law's own defs -/
def spNumber : Sp := fun vs H Q _ => ∃ (h c : Addr) (s k : Int) (cs : List Int), vs = [.ref h] ∧ HAt H h c s k cs ∧
  ∀ (s' k' : Int) (cs' : List Int) (r : Int) (H' : Hp), r.natAbs < 2 ^ 67 → HAt H' h c s' k' cs' → But h c H H' → Q (.int r) H'
def spIs : Sp := fun vs H Q _ => ∃ (p : Addr) (r : Rat) (t b : Int) (n m : Nat), vs = [.ref p, .int t, .int b] ∧ H p = some (.tup (ratV r)) ∧ RB n r ∧ t.natAbs < 2 ^ m ∧ b.natAbs < 2 ^ m ∧ 0 < n ∧ 0 < m ∧ n + m ≤ 8999 ∧ r.num * b = t * (r.den : Int) ∧
  Q (.bl true) H
def spLaw (K : PySem.W.Frag) : Sp := fun vs H Q _ => ∃ (a : Addr) (ns : List Int), vs = [.ref a] ∧ SqL K H a (ns.map V.int) ∧ ns.length ≤ 63 ∧ ∀ H', Q (.bl true) H'
section
variable {P : Program} {w : World} {K : PySem.W.Frag} {mg : Str → Option Value} {base : Heap}
theorem ok_law_number {f : Addr} {fd : FuncData} (T : Txt K mg) (D : DefAt K mg "_law_number" "_law_number" s_law_number ["_law_h"] f fd) : FnOk P w K mg base CX0 2 f fd ["_law_h"] spNumber := by
  obtain ⟨f1, fd1, D1⟩ := T.d_law_next
  have G : FnOk P w K mg base CX0 1 f1 fd1 ["_law_h", "_law_many"] spNext := ok_law_next T D1
  refine D.F.ok sc_law_number (fun vs H Q E h => ?_) (fun cdv A outer s H vs Q E hr h => ?_)
  · obtain ⟨h, c, s, k, cs, rfl, _⟩ := h
    rfl
  · obtain ⟨h, c, z, k, cs, rfl, A1, q⟩ := h
    have hu := hu_of hr
    refine ⟨_, pss_cons (ps_set (i := 1) sc_law_number.nd rfl (.inl rfl) (pe_lst (pa_cons (pe_op op_sub (pe_call G hr (by rfl) D1.g D1.F.kp D1.b .nil pass0 (pa_cons (pv 0) (pa_cons pe_int pa_nil))) pe_int) (pa_cons (pe_op op_sub (pe_call G hr (by rfl) D1.g D1.F.kp D1.b .nil pass0 (pa_cons (pv 0) (pa_cons pe_int pa_nil))) pe_int) pa_nil))))
      (pss_cons (ps_if (pt_cmpR (op_neD hr.units) (pe_ix ix_list (pv 0) pe_int (fun _ _ => rfl)) (pe_lst pa_nil) (nomark _))
        (pss_one (ps_expr (pe_bm PySem.F.plainAttrs_list PySem.F.slot_list_append PySem.F.type_list_append mt_append (pv 1) (pa_cons (pe_op op_sub (pe_op op_mod (pe_ix ix_list (pe_ix ix_list (pv 0) pe_int (fun _ _ => rfl)) (pe_op op_modN (pe_ix ix_list (pv 0) pe_int (fun _ _ => rfl)) (pe_callB call_len_seq (by rfl) T.m_len PySem.boot_len (pa_cons (pe_ix ix_list (pv 0) pe_int (fun _ _ => rfl)) pa_nil))) (fun _ _ => rfl)) (pe_op op_mul pe_int (pe_op op_pow pe_int pe_int))) (pe_op op_pow pe_int pe_int)) pa_nil)))) pss_nil)
      (pss_one (ps_ret (pe_ix ix_list (pv 1) (pe_call G hr (by rfl) D1.g D1.F.kp D1.b .nil pass0 (pa_cons (pv 0) (pa_cons (pe_callB call_len_seq (by rfl) T.m_len PySem.boot_len (pa_cons (pv 1) pa_nil)) pa_nil))) (fun _ _ => rfl))))), ?_⟩
    -- two draws
    refine ⟨_, rfl, h, c, _, _, _, _, rfl, by decide, by decide, A1, fun s1 k1 cs1 r1 H1 a1 b1 A2 B1 => ?_⟩
    refine ⟨_, _, rfl, rfl, _, rfl, h, c, _, _, _, _, rfl, by decide, by decide, A2, fun s2 k2 cs2 r2 H2 a2 b2 A3 B2 => ?_⟩
    refine ⟨_, _, rfl, rfl, (by show 2 ≤ sizeLine; decide), fun l hl => ?_⟩
    have s3 : Same H2 (upd H2 l (.lst [.int (r1 - 10), .int (r2 - 1000000)])) := same_upd hl
    have A4 := A3.same s3
    have nh : l ≠ h := (ne_of_none A3.h hl).symm
    have nc : l ≠ c := (ne_of_none A3.c hl).symm
    -- the last row, from any heap in which the list holds small numbers
    have B12 : But h c H (upd H2 l (.lst [.int (r1 - 10), .int (r2 - 1000000)])) := (B1.trans B2).same s3
    have freel : H l = none := by
      cases e : H l with
      | none => rfl
      | some o =>
        have := B2 l o (B1 l o e nh nc) nh nc
        rw [hl] at this
        cases this
    -- h[1] != []
    refine ⟨_, rfl, h, _, _, _, rfl, rfl, SqL.of A4.h, atI_nat (j := 1) rfl, (by show 0 ≤ sizeLine; decide), fun l2 hl2 => ?_⟩
    have s4 := same_upd (o := .lst []) hl2
    have A5 := A4.same s4
    have B13 := B12.same s4
    have hl5 := s4 _ _ (upd_same (H := H2) (a := l) (o := .lst [.int (r1 - 10), .int (r2 - 1000000)]))
    refine ⟨_, _, Dp.lst (SqL.of A5.c) (dpInts cs2), Dp.lst (SqL.of upd_same) DpAll.nil, shapedInts cs2, by decide, _, rfl, ite2 (fun e => ?_) (fun e => ?_)⟩
    · have l0 : 0 < cs2.length := List.length_pos_iff.mpr fun z => by
        subst z
        simp [PyData.eqv, PyData.eqvAll] at e
      have lc : (cs2.map V.int).length = cs2.length := List.length_map _
      have am := fmod_lo (x := k2) (m := (cs2.length : Int)) (by omega)
      have bm := fmod_hi (x := k2) (m := (cs2.length : Int)) (by omega)
      have ej : k2.fmod ((cs2.map V.int).length : Int) = (((k2.fmod (cs2.length : Int)).toNat : Nat) : Int) := by
        rw [lc]
        omega
      have hj : (k2.fmod (cs2.length : Int)).toNat < cs2.length := by omega
      have gj : (cs2.map V.int)[(k2.fmod (cs2.length : Int)).toNat]? = some (.int cs2[(k2.fmod (cs2.length : Int)).toNat]) := by
        rw [List.getElem?_map, List.getElem?_eq_getElem hj]
        rfl
      generalize hx : cs2[(k2.fmod (cs2.length : Int)).toNat] = x at gj
      refine ⟨_, rfl, .inl ⟨rfl, _, SqL.of hl5⟩, _, rfl, h, _, _, _, rfl, rfl, SqL.of A5.h, atI_nat (j := 1) rfl, _, rfl, h, _, _, _, rfl, rfl, SqL.of A5.h, atI_nat (j := 2) rfl, _, rfl, h, _, _, _, rfl, rfl, SqL.of A5.h, atI_nat (j := 1) rfl, c, _, rfl, .inl (SqL.of A5.c), _, _, rfl, rfl, (by rw [lc]; omega),
        c, _, _, _, rfl, rfl, SqL.of A5.c, at_of ej gj, _, _, rfl, rfl, ⟨by decide, by decide, by decide⟩, _, _, rfl, rfl, .inl ⟨by decide, by decide⟩, _, _, rfl, rfl, (by show (0 : Int) < 2 * 10 ^ 20; decide +kernel), _, _, rfl, rfl, ⟨by decide, by decide, by decide⟩, _, _, rfl, rfl, l, _, _, rfl, rfl, hl5, (by show 2 < sizeLine; decide), ?_⟩
      have x0 : 0 ≤ x % (2 * 10 ^ 20 : Int) := Int.emod_nonneg _ (by decide +kernel)
      have x1 : x % (2 * 10 ^ 20 : Int) < 2 * 10 ^ 20 := Int.emod_lt_of_pos _ (by decide +kernel)
      refine ⟨_, rfl, _, rfl, _, rfl, l, _, rfl, .inl (SqL.of upd_same), h, c, _, _, 3, _, rfl, by decide, by decide, A5.set nh nc, fun s6 k6 cs6 r6 H6 a6 b6 A6 B6 => ?_⟩
      have hl6 := B6 l _ upd_same nh nc
      have B7 : But h c H H6 := fun b o e nb nc' => B6 b o (by rw [upd_ne (ne_of_none e freel)]; exact B13 b o e nb nc') nb nc'
      match r6, a6, b6 with
      | 0, _, _ => exact ⟨l, _, _, _, rfl, rfl, SqL.of hl6, atI_nat (j := 0) rfl, q _ _ _ _ _ (by omega) A6 B7⟩
      | 1, _, _ => exact ⟨l, _, _, _, rfl, rfl, SqL.of hl6, atI_nat (j := 1) rfl, q _ _ _ _ _ (by omega) A6 B7⟩
      | 2, _, _ => exact ⟨l, _, _, _, rfl, rfl, SqL.of hl6, atI_nat (j := 2) rfl, q _ _ _ _ _ (by show (x % (2 * 10 ^ 20 : Int) - 10 ^ 20).natAbs < 2 ^ 67; omega) A6 B7⟩
      | .ofNat (n + 3), _, b6 => exact absurd b6 (by simp; omega)
      | .negSucc n, a6, _ => exact absurd a6 (by omega)
    · refine ⟨_, rfl, _, rfl, _, rfl, l, _, rfl, .inl (SqL.of hl5), h, c, _, _, 2, _, rfl, by decide, by decide, A5, fun s6 k6 cs6 r6 H6 a6 b6 A6 B6 => ?_⟩
      have hl6 := B6 l _ hl5 nh nc
      have B7 : But h c H H6 := B13.trans B6
      match r6, a6, b6 with
      | 0, _, _ => exact ⟨l, _, _, _, rfl, rfl, SqL.of hl6, atI_nat (j := 0) rfl, q _ _ _ _ _ (by omega) A6 B7⟩
      | 1, _, _ => exact ⟨l, _, _, _, rfl, rfl, SqL.of hl6, atI_nat (j := 1) rfl, q _ _ _ _ _ (by omega) A6 B7⟩
      | .ofNat (n + 2), _, b6 => exact absurd b6 (by simp; omega)
      | .negSucc n, a6, _ => exact absurd a6 (by omega)
end
section
variable {P : Program} {w : World} {K : PySem.W.Frag} {mg : Str → Option Value} {base : Heap}
theorem ty_tuple : PySem.bootBuiltins "tuple" = some (.type "tuple") := by decide +kernel
theorem ok_law_is_share {f : Addr} {fd : FuncData} (T : Txt K mg) (D : DefAt K mg "_law_is_share" "_law_is_share" s_law_is_share ["_law_found", "_law_top", "_law_bottom"] f fd) : FnOk P w K mg base CX0 1 f fd ["_law_found", "_law_top", "_law_bottom"] spIs := by
  refine D.F.ok sc_law_is_share (fun vs H Q E h => ?_) (fun cdv A outer s H vs Q E hr h => ?_)
  · obtain ⟨p, r, t, b, n, m, rfl, _⟩ := h
    rfl
  · obtain ⟨p, r, t, b, n, m, rfl, hp, rn, ht, hb, n0, m0, nm, he, q⟩ := h
    refine ⟨_, pss_cons (ps_if (PW.pt (pw_or (pt_not (pt_val (pe_callB call_isi (by rfl) T.m_isinstance (by decide +kernel) (pa_cons (pv 0) (pa_cons (pe_bltn (v := .ty "tuple") (by rfl) T.m_tuple (by decide +kernel) rfl) pa_nil)))))
          (pw_or1 (pt_cmpR op_ne (pe_callB call_len_seq (by rfl) T.m_len PySem.boot_len (pa_cons (pv 0) pa_nil)) pe_int (nomark _))))) (pss_one (ps_ret pe_bl)) pss_nil)
      (pss_cons (ps_for PassesOwn.never rfl (pi_tup (pv 0)) (pg_name (i := 3) sc_law_is_share.nd rfl (.inl rfl)) (pss_one (ps_if (PW.pt (pw_or (pt_val (pe_callB call_isi (by rfl) T.m_isinstance (by decide +kernel) (pa_cons (pv 3) (pa_cons (pe_bltn (v := .ty "bool") (by rfl) T.m_bool (by decide +kernel) rfl) pa_nil))))
          (pw_or1 (pt_not (pt_val (pe_callB call_isi (by rfl) T.m_isinstance (by decide +kernel) (pa_cons (pv 3) (pa_cons (pe_bltn (v := .ty "int") (by rfl) T.m_int (by decide +kernel) rfl) pa_nil)))))))) (pss_one (ps_ret pe_bl)) pss_nil)))
      (pss_cons (ps_set (i := 4) sc_law_is_share.nd rfl (.inl rfl) (pe_callB call_abs (by rfl) T.m_abs (by decide +kernel) (pa_cons (pe_ix ix_tup (pv 0) pe_int (fun _ _ => rfl)) pa_nil)))
      (pss_cons (ps_set (i := 5) sc_law_is_share.nd rfl (.inl rfl) (pe_ix ix_tup (pv 0) pe_int (fun _ _ => rfl)))
      (pss_cons (ps_while PassesOwn.never (pt_cmpR op_gt (pv 5) pe_int (nomark _)) (pss_one (ps_par (i := 4) (j := 5) (by rfl) sc_law_is_share.nd rfl rfl (by decide) rfl rfl (pa_cons (pv 5) (pa_cons (pe_op op_mod (pv 4) (pv 5)) pa_nil)) (by rfl))))
      (pss_one (ps_ret (pe_and (pe_cmpR op_ge (pe_ix ix_tup (pv 0) pe_int (fun _ _ => rfl)) pe_int (nomark _)) (pe_and (pe_cmpR op_eq (pv 4) pe_int (nomark _)) (pe_one (pe_cmpR op_eq (pe_op op_mulW (pe_ix ix_tup (pv 0) pe_int (fun _ _ => rfl)) (pv 2)) (pe_op op_mulW (pv 1) (pe_ix ix_tup (pv 0) pe_int (fun _ _ => rfl))) (nomark _))))))))))), ?_⟩
    have hT : SqT K H p (ratV r) := SqT.of hp
    refine ⟨_, rfl, _, _, _, _, true, rfl, .ty "tuple", .base (.tup hp), kit_ty (by decide +kernel), _, rfl, iteF ⟨_, rfl, p, _, rfl, .inr hT, rfl, _, rfl, iteF ?_⟩⟩
    refine ⟨_, rfl, p, rfl, ⟨_, hT⟩, for_tup (K := K) (a := p) (xs := ratV r) (fun i σ H2 => ∃ v3, σ = [some (.ref p), some (.int t), some (.int b), v3, none, none] ∧ H2 = H) ⟨none, rfl, rfl⟩ (fun i σ H2 _ ⟨_, _, e⟩ => by rw [e]; exact hT) ?_ ?_⟩
    · rintro i x σ H2 hi ⟨v3, rfl, rfl⟩
      obtain ⟨z, rfl⟩ : ∃ z, x = V.int z := by
        match i, hi with
        | 0, hi => exact ⟨_, (Option.some.inj hi).symm⟩
        | 1, hi => exact ⟨_, (Option.some.inj hi).symm⟩
        | i + 2, hi => simp [ratV] at hi
      refine ⟨_, rfl, _, _, _, _, false, rfl, .ty "bool", .base (.int z), kit_ty (by decide +kernel), _, rfl, iteF ⟨_, rfl, _, _, _, _, true, rfl, .ty "int", .base (.int z), kit_ty (by decide +kernel), _, rfl, iteF ?_⟩⟩
      exact ⟨_, rfl, rfl⟩
    · rintro σ H2 ⟨v3, rfl, rfl⟩
      have d0 := r.den_pos
      refine ⟨_, rfl, p, _, _, _, rfl, rfl, hT, ratV_num r, _, rfl, _, rfl, p, _, _, _, rfl, rfl, hT, ratV_den r, ?_⟩
      have ea : (if r.num < 0 then -r.num else r.num) = ((r.num.natAbs : Nat) : Int) := by split <;> omega
      rw [ea]
      refine ⟨fun k σ' H' => ∃ x y : Nat, σ' = [some (.ref p), some (.int t), some (.int b), v3, some (.int (x : Int)), some (.int (y : Int))] ∧ k = y ∧ Nat.gcd x y = 1 ∧ H' = H2, ⟨_, _, _, rfl, rfl, r.reduced, rfl⟩, fun k σ' H' hW => ?_⟩
      obtain ⟨x, y, rfl, hk, hg, eH⟩ := hW
      subst eH
      refine ⟨_, rfl, _, _, rfl, rfl, _, rfl, ite2 (fun e => ?_) (fun e => ?_)⟩
      · have e' : 0 < (y : Int) := of_decide_eq_true e
        refine ⟨fun σ' H'' => ∃ x' y' : Nat, σ' = [some (.ref p), some (.int t), some (.int b), v3, some (.int (x' : Int)), some (.int (y' : Int))] ∧ y' < y ∧ Nat.gcd x' y' = 1 ∧ H'' = H', fun σ' H'' ⟨x', y', e1, e2, e3, e4⟩ => ⟨y', by omega, x', y', e1, rfl, e3, e4⟩, ?_⟩
        refine ⟨_, rfl, _, rfl, _, rfl, _, _, rfl, rfl, e', _, _, rfl, y, x % y, rfl, Nat.mod_lt _ (by omega), ?_, rfl⟩
        rw [Nat.gcd_comm, ← Nat.gcd_rec, Nat.gcd_comm]
        exact hg
      · have e' : y = 0 := by
          have := of_decide_eq_false (Bool.eq_false_iff.mpr e)
          omega
        subst e'
        have hx : x = 1 := by simpa using hg
        subst hx
        refine ⟨_, rfl, p, _, _, _, rfl, rfl, hT, ratV_den r, _, _, rfl, rfl, _, rfl, ?_⟩
        rw [show decide ((r.den : Int) ≥ 1) = true from decide_eq_true (by omega)]
        refine iteT ?_
        refine ⟨_, rfl, rfl, _, rfl, ?_⟩
        rw [show decide (V.int ((1 : Nat) : Int) = V.int 1) = true from decide_eq_true rfl]
        refine iteT ⟨_, rfl, p, _, _, _, rfl, rfl, hT, ratV_num r, _, rfl, _, _, rfl, rfl, mulOk rn.1 hb n0 m0 nm, _, rfl, _, rfl, p, _, _, _, rfl, rfl, hT, ratV_den r, _, _, rfl, rfl, mulOk ht rn.den m0 n0 (by omega), rfl, ?_⟩
        rw [show decide (V.int (r.num * b) = V.int (t * (r.den : Int))) = true from decide_eq_true (by rw [he])]
        exact q
end
/-! ### the law -/
/-- a pair of numbers, the second not nought, stands at t -/
def PairAt (H : Hp) (t : Addr) (x y : Int) : Prop := H t = some (.tup [.int x, .int y]) ∧ y ≠ 0 ∧ x.natAbs < 2 ^ 71 ∧ y.natAbs < 2 ^ 71
section
variable {P : Program} {w : World} {K : PySem.W.Frag} {mg : Str → Option Value} {base : Heap}
theorem ok_law {f : Addr} {fd : FuncData} (T : Txt K mg) (D : DefAt K mg "law" "law" s_law ["_law_script"] f fd) : FnOk P w K mg base CX0 4 f fd ["_law_script"] (spLaw K) := by
  obtain ⟨f1, fd1, D_law_next⟩ := T.d_law_next
  have G_law_next : FnOk P w K mg base CX0 1 f1 fd1 ["_law_h", "_law_many"] spNext := ok_law_next T D_law_next
  obtain ⟨f2, fd2, D_law_number⟩ := T.d_law_number
  have G_law_number : FnOk P w K mg base CX0 2 f2 fd2 ["_law_h"] spNumber := ok_law_number T D_law_number
  obtain ⟨f3, fd3, D_law_is_share⟩ := T.d_law_is_share
  have G_law_is_share : FnOk P w K mg base CX0 1 f3 fd3 ["_law_found", "_law_top", "_law_bottom"] spIs := ok_law_is_share T D_law_is_share
  obtain ⟨f4, fd4, D_share⟩ := T.d_share
  have G_share : FnOk P w K mg base CX0 1 f4 fd4 ["top", "bottom"] spShare := ok_share T D_share
  obtain ⟨f5, fd5, D_plus⟩ := T.d_plus
  have G_plus : FnOk P w K mg base CX0 2 f5 fd5 ["one", "other"] (spRat K (· + ·)) := ok_plus T D_plus
  obtain ⟨f6, fd6, D_minus⟩ := T.d_minus
  have G_minus : FnOk P w K mg base CX0 2 f6 fd6 ["one", "other"] (spRat K (· - ·)) := ok_minus T D_minus
  obtain ⟨f7, fd7, D_times⟩ := T.d_times
  have G_times : FnOk P w K mg base CX0 2 f7 fd7 ["one", "other"] (spRat K (· * ·)) := ok_times T D_times
  refine D.F.ok sc_law (fun vs H Q E h => ?_) (fun cdv A outer s H vs Q E hr h => ?_)
  · obtain ⟨a, ns, rfl, _⟩ := h
    rfl
  · obtain ⟨a0, ns, rfl, hS, hlen, q⟩ := h
    refine ⟨_, (pss_cons (ps_set (i := 1) sc_law.nd rfl (.inl rfl) (pe_lst (pa_cons pe_int (pa_cons (pe_callTy call_list_of (by rfl) T.m_list (by decide +kernel) (pa_cons (pv 0) pa_nil)) (pa_cons pe_int pa_nil)))))
      (pss_cons (ps_set (i := 2) sc_law.nd rfl (.inl rfl) (pe_lst pa_nil))
      (pss_cons (ps_for PassesOwn.never rfl (pi_range1 rfl T.m_range (pa_cons pe_int pa_nil)) (pg_name (i := 3) sc_law.nd rfl (.inl rfl)) (pss_cons (ps_set (i := 4) sc_law.nd rfl (.inl rfl) (pe_op op_add pe_int (pe_call G_law_next (hr.mono (by decide)) (by rfl) D_law_next.g D_law_next.F.kp D_law_next.b .nil pass0 (pa_cons (pv 1) (pa_cons pe_int pa_nil))))) (pss_cons (ps_set (i := 5) sc_law.nd rfl (.inl rfl) (pe_call G_law_number (hr.mono (by decide)) (by rfl) D_law_number.g D_law_number.F.kp D_law_number.b .nil pass0 (pa_cons (pv 1) pa_nil))) (pss_cons (ps_if (pt_cmpR op_eq (pv 5) pe_int (nomark _)) (pss_one (ps_set (i := 5) sc_law.nd rfl (.inl rfl) (pe_un un_neg pe_int))) pss_nil) (pss_one (ps_expr (pe_bm PySem.F.plainAttrs_list PySem.F.slot_list_append PySem.F.type_list_append mt_append (pv 2) (pa_cons (pe_tup (pa_cons (pe_op op_mulW (pe_call G_law_number (hr.mono (by decide)) (by rfl) D_law_number.g D_law_number.F.kp D_law_number.b .nil pass0 (pa_cons (pv 1) pa_nil)) (pv 4)) (pa_cons (pe_op op_mulW (pv 5) (pv 4)) pa_nil))) pa_nil))))))))
      (pss_cons (ps_asg (pe_ix ix_list (pv 2) pe_int (fun _ _ => rfl)) (pg_tup (by rfl) (pgs_cons (pg_name (i := 6) sc_law.nd rfl (.inl rfl)) (pgs_cons (pg_name (i := 7) sc_law.nd rfl (.inl rfl)) pgs_nil))))
      (pss_cons (ps_asg (pe_ix ix_list (pv 2) pe_int (fun _ _ => rfl)) (pg_tup (by rfl) (pgs_cons (pg_name (i := 8) sc_law.nd rfl (.inl rfl)) (pgs_cons (pg_name (i := 9) sc_law.nd rfl (.inl rfl)) pgs_nil))))
      (pss_cons (ps_set (i := 10) sc_law.nd rfl (.inl rfl) (pe_call G_share (hr.mono (by decide)) (by rfl) D_share.g D_share.F.kp D_share.b .nil pass0 (pa_cons (pv 6) (pa_cons (pv 7) pa_nil))))
      (pss_cons (ps_set (i := 11) sc_law.nd rfl (.inl rfl) (pe_call G_share (hr.mono (by decide)) (by rfl) D_share.g D_share.F.kp D_share.b .nil pass0 (pa_cons (pv 8) (pa_cons (pv 9) pa_nil))))
      (pss_cons (ps_if (PW.pt (pw_or (pt_not (pt_val (pe_call G_law_is_share (hr.mono (by decide)) (by rfl) D_law_is_share.g D_law_is_share.F.kp D_law_is_share.b .nil pass0 (pa_cons (pv 10) (pa_cons (pv 6) (pa_cons (pv 7) pa_nil)))))) (pw_or1 (pt_not (pt_val (pe_call G_law_is_share (hr.mono (by decide)) (by rfl) D_law_is_share.g D_law_is_share.F.kp D_law_is_share.b .nil pass0 (pa_cons (pv 11) (pa_cons (pv 8) (pa_cons (pv 9) pa_nil))))))))) (pss_one (ps_ret pe_bl)) pss_nil)
      (pss_cons (ps_if (pt_not (pt_val (pe_call G_law_is_share (hr.mono (by decide)) (by rfl) D_law_is_share.g D_law_is_share.F.kp D_law_is_share.b .nil pass0 (pa_cons (pe_call G_plus (hr.mono (by decide)) (by rfl) D_plus.g D_plus.F.kp D_plus.b .nil pass0 (pa_cons (pv 10) (pa_cons (pv 11) pa_nil))) (pa_cons (pe_op op_add (pe_op op_mulW (pv 6) (pv 9)) (pe_op op_mulW (pv 8) (pv 7))) (pa_cons (pe_op op_mulW (pv 7) (pv 9)) pa_nil)))))) (pss_one (ps_ret pe_bl)) pss_nil)
      (pss_cons (ps_if (pt_not (pt_val (pe_call G_law_is_share (hr.mono (by decide)) (by rfl) D_law_is_share.g D_law_is_share.F.kp D_law_is_share.b .nil pass0 (pa_cons (pe_call G_minus (hr.mono (by decide)) (by rfl) D_minus.g D_minus.F.kp D_minus.b .nil pass0 (pa_cons (pv 10) (pa_cons (pv 11) pa_nil))) (pa_cons (pe_op op_sub (pe_op op_mulW (pv 6) (pv 9)) (pe_op op_mulW (pv 8) (pv 7))) (pa_cons (pe_op op_mulW (pv 7) (pv 9)) pa_nil)))))) (pss_one (ps_ret pe_bl)) pss_nil)
      (pss_one (ps_ret (pe_and (pe_call G_law_is_share (hr.mono (by decide)) (by rfl) D_law_is_share.g D_law_is_share.F.kp D_law_is_share.b .nil pass0 (pa_cons (pe_call G_times (hr.mono (by decide)) (by rfl) D_times.g D_times.F.kp D_times.b .nil pass0 (pa_cons (pv 10) (pa_cons (pv 11) pa_nil))) (pa_cons (pe_op op_mulW (pv 6) (pv 8)) (pa_cons (pe_op op_mulW (pv 7) (pv 9)) pa_nil)))) (pe_one (pe_call G_law_is_share (hr.mono (by decide)) (by rfl) D_law_is_share.g D_law_is_share.F.kp D_law_is_share.b .nil pass0 (pa_cons (pe_call G_minus (hr.mono (by decide)) (by rfl) D_minus.g D_minus.F.kp D_minus.b .nil pass0 (pa_cons (pv 10) (pa_cons (pv 10) pa_nil))) (pa_cons pe_int (pa_cons pe_int pa_nil)))))))))))))))))), ?_⟩
    -- the drawing's list, the empty list of rows
    refine ⟨_, rfl, a0, _, rfl, .inl hS, fun c hc => ⟨(by show 3 ≤ sizeLine; decide), fun h hh => ⟨Nat.zero_le _, fun o ho => ?_⟩⟩⟩
    have A0 : HAt (upd (upd (upd H c (.lst (ns.map V.int))) h (.lst [.int 11, .ref c, .int 0])) o (.lst [])) h c 11 0 ns := by
      have nhc : c ≠ h := ne_of_none upd_same hh
      have noh : h ≠ o := ne_of_none upd_same ho
      have noc : c ≠ o := ne_of_none (by rw [upd_ne nhc]; exact upd_same) ho
      exact ⟨by rw [upd_ne noh]; exact upd_same, by rw [upd_ne noc, upd_ne nhc]; exact upd_same, hlen⟩
    have noh : o ≠ h := (ne_of_none upd_same ho).symm
    have noc : o ≠ c := (ne_of_none (by rw [upd_ne (ne_of_none upd_same hh)]; exact upd_same) ho).symm
    refine ⟨2, rfl, by decide, by decide, for_range (n := 2) (fun i σ H2 => ∃ (v3 v4 v5 : Option V) (s k : Int) (cs : List Int) (ts : List Addr), σ = [some (.ref a0), some (.ref h), some (.ref o), v3, v4, v5, none, none, none, none, none, none] ∧ HAt H2 h c s k cs ∧
        H2 o = some (.lst (ts.map V.ref)) ∧ ts.length = i ∧ ∀ t, t ∈ ts → ∃ x y, PairAt H2 t x y) ⟨none, none, none, _, _, _, [], rfl, A0, upd_same, rfl, fun _ z => nomatch z⟩ ?_ ?_⟩
    · rintro i σ H2 hi ⟨v3, v4, v5, s1, k1, cs1, ts, rfl, A1, ho1, hl1, ht1⟩
      refine ⟨_, rfl, h, c, _, _, _, _, rfl, by decide, by decide, A1, fun s2 k2 cs2 r2 H3 a2 b2 A2 B2 => ?_⟩
      refine ⟨_, _, rfl, rfl, _, rfl, h, c, _, _, _, rfl, A2, fun s3 k3 cs3 r3 H4 a3 A3 B3 => ?_⟩
      have stay : ∀ {Ha Hb : Hp}, But h c Ha Hb → (∀ t, t ∈ ts → ∃ x y, PairAt Ha t x y) → (∀ s k cs, HAt Ha h c s k cs → ∀ t, t ∈ ts → ∃ x y, PairAt Hb t x y) := fun B p s k cs A t m => by
        obtain ⟨x, y, e, r⟩ := p t m
        exact ⟨x, y, B t _ e (ne_of e A.h (by intro z; cases z)) (ne_of e A.c (by intro z; cases z)), r⟩
      have ho4 := B3 o _ (B2 o _ ho1 noh noc) noh noc
      have ht3 := stay B2 ht1 _ _ _ A1
      have ht4 := stay B3 ht3 _ _ _ A2
      -- behind the test the bottom is not nought, and small
      refine ⟨_, rfl, rfl, _, rfl, ite2 (fun e => ?_) (fun e => ?_)⟩
      rotate_left
      · have nz : r3 ≠ 0 := fun z => e (decide_eq_true (by rw [z]))
        refine ⟨_, rfl, .inl ⟨rfl, _, SqL.of ho4⟩, _, rfl, h, c, _, _, _, rfl, A3, fun s4 k4 cs4 r4 H5 a4 A4 B4 => ?_⟩
        have ho5 := B4 o _ ho4 noh noc
        have ht5 := stay B4 ht4 _ _ _ A3
        have m4 : (1 + r2).natAbs < 2 ^ 4 := by omega
        refine ⟨_, rfl, _, _, rfl, rfl, mulOk a4 m4 (by decide) (by decide) (by decide), _, rfl, _, rfl, _, _, rfl, rfl, mulOk (a := 67) a3 m4 (by decide) (by decide) (by decide), (by show 2 ≤ sizeLine; decide), fun t ht => ?_⟩
        have sm := same_upd (o := .tup [.int (r4 * (1 + r2)), .int (r3 * (1 + r2))]) ht
        have nto : t ≠ o := (ne_of_none ho5 ht).symm
        refine ⟨o, _, _, rfl, rfl, sm _ _ ho5, ?_, _, _, _, _, _, _, ts ++ [t], rfl, (A4.same sm).set noh noc, ?_, by rw [List.length_append, hl1]; rfl, fun t' m => ?_⟩
        · rw [List.length_map, hl1]
          exact small1000 (by omega)
        · rw [upd_same, List.map_append]
          rfl
        · rcases List.mem_append.mp m with m | m
          · obtain ⟨x, y, e, r⟩ := ht5 t' m
            exact ⟨x, y, by rw [upd_ne (ne_of e ho5 (by intro z; cases z))]; exact sm _ _ e, r⟩
          · have et : t' = t := by simpa using m
            subst et
            exact ⟨_, _, by rw [upd_ne nto]; exact upd_same, Int.mul_ne_zero nz (by omega), natAbs_mul_lt a4 m4, natAbs_mul_lt (a := 67) a3 m4⟩
      · refine ⟨_, rfl, ?_⟩
        refine ⟨_, rfl, .inl ⟨rfl, _, SqL.of ho4⟩, _, rfl, h, c, _, _, _, rfl, A3, fun s4 k4 cs4 r4 H5 a4 A4 B4 => ?_⟩
        have ho5 := B4 o _ ho4 noh noc
        have ht5 := stay B4 ht4 _ _ _ A3
        have m4 : (1 + r2).natAbs < 2 ^ 4 := by omega
        refine ⟨_, rfl, _, _, rfl, rfl, mulOk a4 m4 (by decide) (by decide) (by decide), _, rfl, _, rfl, _, _, rfl, rfl, mulOk (a := 67) (by decide) m4 (by decide) (by decide) (by decide), (by show 2 ≤ sizeLine; decide), fun t ht => ?_⟩
        have sm := same_upd (o := .tup [.int (r4 * (1 + r2)), .int ((-3) * (1 + r2))]) ht
        have nto : t ≠ o := (ne_of_none ho5 ht).symm
        refine ⟨o, _, _, rfl, rfl, sm _ _ ho5, ?_, _, _, _, _, _, _, ts ++ [t], rfl, (A4.same sm).set noh noc, ?_, by rw [List.length_append, hl1]; rfl, fun t' m => ?_⟩
        · rw [List.length_map, hl1]
          exact small1000 (by omega)
        · rw [upd_same, List.map_append]
          rfl
        · rcases List.mem_append.mp m with m | m
          · obtain ⟨x, y, e, r⟩ := ht5 t' m
            exact ⟨x, y, by rw [upd_ne (ne_of e ho5 (by intro z; cases z))]; exact sm _ _ e, r⟩
          · have et : t' = t := by simpa using m
            subst et
            exact ⟨_, _, by rw [upd_ne nto]; exact upd_same, Int.mul_ne_zero (by decide) (by omega), natAbs_mul_lt a4 m4, natAbs_mul_lt (a := 67) (by decide) m4⟩
    · rintro σ H2 ⟨v3, v4, v5, s1, k1, cs1, ts, rfl, A1, ho1, hl1, ht1⟩
      obtain ⟨t0, t1, rfl⟩ : ∃ t0 t1, ts = [t0, t1] := by
        match ts, hl1 with
        | [t0, t1], _ => exact ⟨t0, t1, rfl⟩
      obtain ⟨x, y, p0, y0, xb, yb⟩ := ht1 t0 (by simp)
      obtain ⟨u, v, p1, v0, ub, vb⟩ := ht1 t1 (by simp)
      have B := fun (i j : Int) (hi : i.natAbs < 2 ^ 71) (hj : j.natAbs < 2 ^ 71) => mulOk hi hj (by decide) (by decide) (by decide)
      refine ⟨_, rfl, o, _, _, _, rfl, rfl, SqL.of ho1, atI_nat (j := 0) rfl, t0, _, rfl, SqT.of p0, rfl, _, _, rfl, _, [], rfl, rfl, ?_⟩
      refine ⟨_, rfl, o, _, _, _, rfl, rfl, SqL.of ho1, atI_nat (j := 1) rfl, t1, _, rfl, SqT.of p1, rfl, _, _, rfl, _, [], rfl, rfl, ?_⟩
      -- the two shares
      refine ⟨_, rfl, _, rfl, x, y, rfl, y0, lt_up yb (by decide), fun p hp => ?_⟩
      refine ⟨_, rfl, _, rfl, u, v, rfl, v0, lt_up vb (by decide), fun r hr' => ?_⟩
      have R1 : RB 71 (Rat.divInt x y) := RB.divInt y0 xb yb
      have R2 : RB 71 (Rat.divInt u v) := RB.divInt v0 ub vb
      generalize hH3 : upd (upd H2 p (.tup (ratV (Rat.divInt x y)))) r (.tup (ratV (Rat.divInt u v))) = H3
      have hp3 : H3 p = some (.tup (ratV (Rat.divInt x y))) := by
        rw [← hH3, upd_ne (ne_of_none upd_same hr')]
        exact upd_same
      have hr3 : H3 r = some (.tup (ratV (Rat.divInt u v))) := by
        rw [← hH3]
        exact upd_same
      refine ⟨_, rfl, _, rfl, _, rfl, p, _, x, y, 71, 71, rfl, hp3, R1, xb, yb, by decide, by decide, by decide, divInt_mul_den x y y0, _, rfl, iteF ?_⟩
      refine ⟨_, rfl, _, rfl, _, rfl, r, _, u, v, 71, 71, rfl, hr3, R2, ub, vb, by decide, by decide, by decide, divInt_mul_den u v v0, _, rfl, iteF ?_⟩
      have vy : y * v ≠ 0 := Int.mul_ne_zero y0 v0
      have byv : (y * v).natAbs < 2 ^ 143 := lt_up (natAbs_mul_lt yb vb) (by decide)
      -- the sum
      refine ⟨_, rfl, _, rfl, p, r, _, _, 71, 71, rfl, SqT.of hp3, SqT.of hr3, R1, R2, by decide, by decide, by decide, fun q1 hq1 => ?_⟩
      have sm1 := same_upd (o := .tup (ratV (Rat.divInt x y + Rat.divInt u v))) hq1
      refine ⟨_, rfl, _, rfl, _, _, rfl, rfl, B _ _ xb vb, _, rfl, _, rfl, _, _, rfl, rfl, B _ _ ub yb, _, _, rfl, rfl, _, rfl, _, rfl, _, _, rfl, rfl, B _ _ yb vb,
        q1, Rat.divInt x y + Rat.divInt u v, _, _, 143, 143, rfl, upd_same, R1.add R2, natAbs_add_lt (natAbs_mul_lt xb vb) (natAbs_mul_lt ub yb), byv, by decide, by decide, by decide, ?_, _, rfl, iteF ?_⟩
      · rw [Rat.divInt_add_divInt x u y0 v0]
        exact divInt_mul_den _ _ vy
      have hp4 := sm1 _ _ hp3
      have hr4 := sm1 _ _ hr3
      -- the difference
      refine ⟨_, rfl, _, rfl, p, r, _, _, 71, 71, rfl, SqT.of hp4, SqT.of hr4, R1, R2, by decide, by decide, by decide, fun q2 hq2 => ?_⟩
      have sm2 := same_upd (o := .tup (ratV (Rat.divInt x y - Rat.divInt u v))) hq2
      refine ⟨_, rfl, _, rfl, _, _, rfl, rfl, B _ _ xb vb, _, rfl, _, rfl, _, _, rfl, rfl, B _ _ ub yb, _, _, rfl, rfl, _, rfl, _, rfl, _, _, rfl, rfl, B _ _ yb vb,
        q2, Rat.divInt x y - Rat.divInt u v, _, _, 143, 143, rfl, upd_same, R1.sub R2, natAbs_sub_lt (natAbs_mul_lt xb vb) (natAbs_mul_lt ub yb), byv, by decide, by decide, by decide, ?_, _, rfl, iteF ?_⟩
      · rw [Rat.divInt_sub_divInt x u y0 v0]
        exact divInt_mul_den _ _ vy
      have hp5 := sm2 _ _ hp4
      have hr5 := sm2 _ _ hr4
      -- the product; a share less itself
      refine ⟨_, rfl, _, rfl, p, r, _, _, 71, 71, rfl, SqT.of hp5, SqT.of hr5, R1, R2, by decide, by decide, by decide, fun q3 hq3 => ?_⟩
      have sm3 := same_upd (o := .tup (ratV (Rat.divInt x y * Rat.divInt u v))) hq3
      refine ⟨_, rfl, _, rfl, _, _, rfl, rfl, B _ _ xb ub, _, rfl, _, rfl, _, _, rfl, rfl, B _ _ yb vb,
        q3, Rat.divInt x y * Rat.divInt u v, _, _, 142, 142, rfl, upd_same, R1.mul R2, natAbs_mul_lt xb ub, natAbs_mul_lt yb vb, by decide, by decide, by decide, ?_, _, rfl, iteT ?_⟩
      · rw [Rat.divInt_mul_divInt]
        exact divInt_mul_den _ _ vy
      have hp6 := sm3 _ _ hp5
      refine ⟨_, rfl, _, rfl, p, p, _, _, 71, 71, rfl, SqT.of hp6, SqT.of hp6, R1, R1, by decide, by decide, by decide, fun q4 hq4 => ?_⟩
      refine ⟨q4, Rat.divInt x y - Rat.divInt x y, 0, 1, 143, 143, rfl, upd_same, R1.sub R1, by decide, by decide, by decide, by decide, by decide, ?_, ?_⟩
      · rw [Rat.sub_self]
        rfl
      · exact q _
end
theorem all_mk {l : PySem.W.OpenLaw} {w : World} {K : PySem.W.Frag} {h : Heap} {mg : Str → Option Value} {fa : Addr} (X : K.In h) (G : h.Ns mainGlobals mg) (hfa : mg "law" = some (.ref fa))
    {f0 : Addr} {od0 an0 : Option Addr} {sl0 : Array (Option Value)} {oc0 kV0 dc0 pm0 cd0 ct0 : Value}
    (a0 : PySem.W.nsIn K mainGlobals "share" = some (some (.ref f0))) (l0 : K.lookup f0 = some ⟨oc0, od0, .func (PySem.W.fnOf "share" "share" (defArgs s_share) (defBody s_share) (defScope s_share) .none kV0 dc0 pm0 an0 cd0 ct0), sl0⟩) (c0 : PySem.W.codeIn K cd0 "share" = true) (k0 : PySem.W.keepIn K (.ref f0) = true)
    {f1 : Addr} {od1 an1 : Option Addr} {sl1 : Array (Option Value)} {oc1 kV1 dc1 pm1 cd1 ct1 : Value}
    (a1 : PySem.W.nsIn K mainGlobals "plus" = some (some (.ref f1))) (l1 : K.lookup f1 = some ⟨oc1, od1, .func (PySem.W.fnOf "plus" "plus" (defArgs s_plus) (defBody s_plus) (defScope s_plus) .none kV1 dc1 pm1 an1 cd1 ct1), sl1⟩) (c1 : PySem.W.codeIn K cd1 "plus" = true) (k1 : PySem.W.keepIn K (.ref f1) = true)
    {f2 : Addr} {od2 an2 : Option Addr} {sl2 : Array (Option Value)} {oc2 kV2 dc2 pm2 cd2 ct2 : Value}
    (a2 : PySem.W.nsIn K mainGlobals "minus" = some (some (.ref f2))) (l2 : K.lookup f2 = some ⟨oc2, od2, .func (PySem.W.fnOf "minus" "minus" (defArgs s_minus) (defBody s_minus) (defScope s_minus) .none kV2 dc2 pm2 an2 cd2 ct2), sl2⟩) (c2 : PySem.W.codeIn K cd2 "minus" = true) (k2 : PySem.W.keepIn K (.ref f2) = true)
    {f3 : Addr} {od3 an3 : Option Addr} {sl3 : Array (Option Value)} {oc3 kV3 dc3 pm3 cd3 ct3 : Value}
    (a3 : PySem.W.nsIn K mainGlobals "times" = some (some (.ref f3))) (l3 : K.lookup f3 = some ⟨oc3, od3, .func (PySem.W.fnOf "times" "times" (defArgs s_times) (defBody s_times) (defScope s_times) .none kV3 dc3 pm3 an3 cd3 ct3), sl3⟩) (c3 : PySem.W.codeIn K cd3 "times" = true) (k3 : PySem.W.keepIn K (.ref f3) = true)
    {f4 : Addr} {od4 an4 : Option Addr} {sl4 : Array (Option Value)} {oc4 kV4 dc4 pm4 cd4 ct4 : Value}
    (a4 : PySem.W.nsIn K mainGlobals "_law_next" = some (some (.ref f4))) (l4 : K.lookup f4 = some ⟨oc4, od4, .func (PySem.W.fnOf "_law_next" "_law_next" (defArgs s_law_next) (defBody s_law_next) (defScope s_law_next) .none kV4 dc4 pm4 an4 cd4 ct4), sl4⟩) (c4 : PySem.W.codeIn K cd4 "_law_next" = true) (k4 : PySem.W.keepIn K (.ref f4) = true)
    {f5 : Addr} {od5 an5 : Option Addr} {sl5 : Array (Option Value)} {oc5 kV5 dc5 pm5 cd5 ct5 : Value}
    (a5 : PySem.W.nsIn K mainGlobals "_law_number" = some (some (.ref f5))) (l5 : K.lookup f5 = some ⟨oc5, od5, .func (PySem.W.fnOf "_law_number" "_law_number" (defArgs s_law_number) (defBody s_law_number) (defScope s_law_number) .none kV5 dc5 pm5 an5 cd5 ct5), sl5⟩) (c5 : PySem.W.codeIn K cd5 "_law_number" = true) (k5 : PySem.W.keepIn K (.ref f5) = true)
    {f6 : Addr} {od6 an6 : Option Addr} {sl6 : Array (Option Value)} {oc6 kV6 dc6 pm6 cd6 ct6 : Value}
    (a6 : PySem.W.nsIn K mainGlobals "_law_is_share" = some (some (.ref f6))) (l6 : K.lookup f6 = some ⟨oc6, od6, .func (PySem.W.fnOf "_law_is_share" "_law_is_share" (defArgs s_law_is_share) (defBody s_law_is_share) (defScope s_law_is_share) .none kV6 dc6 pm6 an6 cd6 ct6), sl6⟩) (c6 : PySem.W.codeIn K cd6 "_law_is_share" = true) (k6 : PySem.W.keepIn K (.ref f6) = true)
    {f7 : Addr} {od7 an7 : Option Addr} {sl7 : Array (Option Value)} {oc7 kV7 dc7 pm7 cd7 ct7 : Value}
    (a7 : PySem.W.nsIn K mainGlobals "law" = some (some (.ref f7))) (l7 : K.lookup f7 = some ⟨oc7, od7, .func (PySem.W.fnOf "law" "law" (defArgs s_law) (defBody s_law) (defScope s_law) .none kV7 dc7 pm7 an7 cd7 ct7), sl7⟩) (c7 : PySem.W.codeIn K cd7 "law" = true) (k7 : PySem.W.keepIn K (.ref f7) = true)
    (z_max : PySem.W.nsIn K mainGlobals "max" = some none)
    (z_len : PySem.W.nsIn K mainGlobals "len" = some none)
    (z_isinstance : PySem.W.nsIn K mainGlobals "isinstance" = some none)
    (z_tuple : PySem.W.nsIn K mainGlobals "tuple" = some none)
    (z_bool : PySem.W.nsIn K mainGlobals "bool" = some none)
    (z_int : PySem.W.nsIn K mainGlobals "int" = some none)
    (z_abs : PySem.W.nsIn K mainGlobals "abs" = some none)
    (z_list : PySem.W.nsIn K mainGlobals "list" = some none)
    (z_range : PySem.W.nsIn K mainGlobals "range" = some none)
    (y_gcd : PySem.W.nsIn K mainGlobals "gcd" = some (some (.builtin "math.gcd"))) :
    ∃ fd : FuncData, (∀ (s : Shared) (v : Value), BindsTo s fd ⟨[v], []⟩ [("_law_script", v)]) ∧ ∀ base : Heap, K.In base → base.Ns mainGlobals mg → FnOk l.prog w K mg base CX0 4 fa fd ["_law_script"] (spLaw K) := by
  have e := hfa.symm.trans (PySem.W.mg_of X G a7)
  cases e
  have F0 := fun_mk (st := s_share) l0 c0 k0
  have D0 : DefAt K mg "share" "share" s_share ["top", "bottom"] _ _ := ⟨F0, PySem.W.mg_of X G a0, F0.binds (ps := ["top", "bottom"]) fun _ _ _ _ _ _ us hl => match us, hl with | [_, _], _ => rfl⟩
  have F1 := fun_mk (st := s_plus) l1 c1 k1
  have D1 : DefAt K mg "plus" "plus" s_plus ["one", "other"] _ _ := ⟨F1, PySem.W.mg_of X G a1, F1.binds (ps := ["one", "other"]) fun _ _ _ _ _ _ us hl => match us, hl with | [_, _], _ => rfl⟩
  have F2 := fun_mk (st := s_minus) l2 c2 k2
  have D2 : DefAt K mg "minus" "minus" s_minus ["one", "other"] _ _ := ⟨F2, PySem.W.mg_of X G a2, F2.binds (ps := ["one", "other"]) fun _ _ _ _ _ _ us hl => match us, hl with | [_, _], _ => rfl⟩
  have F3 := fun_mk (st := s_times) l3 c3 k3
  have D3 : DefAt K mg "times" "times" s_times ["one", "other"] _ _ := ⟨F3, PySem.W.mg_of X G a3, F3.binds (ps := ["one", "other"]) fun _ _ _ _ _ _ us hl => match us, hl with | [_, _], _ => rfl⟩
  have F4 := fun_mk (st := s_law_next) l4 c4 k4
  have D4 : DefAt K mg "_law_next" "_law_next" s_law_next ["_law_h", "_law_many"] _ _ := ⟨F4, PySem.W.mg_of X G a4, F4.binds (ps := ["_law_h", "_law_many"]) fun _ _ _ _ _ _ us hl => match us, hl with | [_, _], _ => rfl⟩
  have F5 := fun_mk (st := s_law_number) l5 c5 k5
  have D5 : DefAt K mg "_law_number" "_law_number" s_law_number ["_law_h"] _ _ := ⟨F5, PySem.W.mg_of X G a5, F5.binds (ps := ["_law_h"]) fun _ _ _ _ _ _ us hl => match us, hl with | [_], _ => rfl⟩
  have F6 := fun_mk (st := s_law_is_share) l6 c6 k6
  have D6 : DefAt K mg "_law_is_share" "_law_is_share" s_law_is_share ["_law_found", "_law_top", "_law_bottom"] _ _ := ⟨F6, PySem.W.mg_of X G a6, F6.binds (ps := ["_law_found", "_law_top", "_law_bottom"]) fun _ _ _ _ _ _ us hl => match us, hl with | [_, _, _], _ => rfl⟩
  have F7 := fun_mk (st := s_law) l7 c7 k7
  have D7 : DefAt K mg "law" "law" s_law ["_law_script"] _ _ := ⟨F7, PySem.W.mg_of X G a7, F7.binds (ps := ["_law_script"]) fun _ _ _ _ _ _ us hl => match us, hl with | [_], _ => rfl⟩
  have T : Txt K mg := ⟨⟨_, _, D0⟩, ⟨_, _, D1⟩, ⟨_, _, D2⟩, ⟨_, _, D3⟩, ⟨_, _, D4⟩, ⟨_, _, D5⟩, ⟨_, _, D6⟩, PySem.W.mg_none_of X G z_max, PySem.W.mg_none_of X G z_len, PySem.W.mg_none_of X G z_isinstance, PySem.W.mg_none_of X G z_tuple, PySem.W.mg_none_of X G z_bool, PySem.W.mg_none_of X G z_int, PySem.W.mg_none_of X G z_abs, PySem.W.mg_none_of X G z_list, PySem.W.mg_none_of X G z_range, PySem.W.mg_of X G y_gcd⟩
  exact ⟨PySem.W.fnOf "law" "law" (defArgs s_law) (defBody s_law) (defScope s_law) .none kV7 dc7 pm7 an7 cd7 ct7, fun s v => .of_eq rfl, fun base _ _ => ok_law T D7⟩
end K01
open PySem PySem.W PyProof.Rows
set_option maxHeartbeats 0 in
theorem PySem.Challenge.cw_lapfold_k01_shares_holds : PySem.Challenge.rw_lapfold_k01_shares.Holds := by
  w_on; o_law; k_head; (case hw => w_witness2)
  k_fill
  refine L2.walk_of (l := PySem.Challenge.rw_lapfold_k01_shares) (n := 63) (k := 4) (x := "_law_script") (CX := fun _ => L2.CX0) (sp := fun w => K01.spLaw _) rfl (by decide) rfl ⟨rfl, by decide, by decide⟩ (fun w h Y => PySem.W.kIn_of Y) ?F (fun _ _ a ns hl _ hS => ⟨a, ns, rfl, hS, hl, fun _ => rfl⟩) (fun _ _ _ _ _ h => h)
  case F =>
    intro w mg fa h KX G hmg
    refine' K01.all_mk KX G hmg ?a0 ?l0 ?c0 ?k0 ?a1 ?l1 ?c1 ?k1 ?a2 ?l2 ?c2 ?k2 ?a3 ?l3 ?c3 ?k3 ?a4 ?l4 ?c4 ?k4 ?a5 ?l5 ?c5 ?k5 ?a6 ?l6 ?c6 ?k6 ?a7 ?l7 ?c7 ?k7 ?z_max ?z_len ?z_isinstance ?z_tuple ?z_bool ?z_int ?z_abs ?z_list ?z_range ?y_gcd
    (case a0 => k_is)
    (case l0 => k_is)
    (case c0 => k_is)
    (case k0 => k_is)
    (case a1 => k_is)
    (case l1 => k_is)
    (case c1 => k_is)
    (case k1 => k_is)
    (case a2 => k_is)
    (case l2 => k_is)
    (case c2 => k_is)
    (case k2 => k_is)
    (case a3 => k_is)
    (case l3 => k_is)
    (case c3 => k_is)
    (case k3 => k_is)
    (case a4 => k_is)
    (case l4 => k_is)
    (case c4 => k_is)
    (case k4 => k_is)
    (case a5 => k_is)
    (case l5 => k_is)
    (case c5 => k_is)
    (case k5 => k_is)
    (case a6 => k_is)
    (case l6 => k_is)
    (case c6 => k_is)
    (case k6 => k_is)
    (case a7 => k_is)
    (case l7 => k_is)
    (case c7 => k_is)
    (case k7 => k_is)
    (case z_max => k_is)
    (case z_len => k_is)
    (case z_isinstance => k_is)
    (case z_tuple => k_is)
    (case z_bool => k_is)
    (case z_int => k_is)
    (case z_abs => k_is)
    (case z_list => k_is)
    (case z_range => k_is)
    (case y_gcd => k_is)
