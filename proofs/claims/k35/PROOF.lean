import PyProof.Rows.All
import Wide.All
import OpenK.AllK
import Wide.FinOn
import HandS.ForMost
import HandS.Gcd
import HandS.Wide
import HandS.IsInst
import HandS.NoneIn
import PySem.Challenge.RW_lapfold_k35_whole_shares_are_fractions
set_option Elab.async false
set_option linter.all false
set_option maxRecDepth 100000
namespace K35
open PySem PySem.Spec PyProof.Rows L2
def topS (i : Nat) : Stmt := PySem.Challenge.pw_lapfold_k35_whole_shares_are_fractions.main.body.getD i (.Pass ⟨0, 0, 0, 0⟩)
abbrev s_share : Stmt := topS 2
theorem sc_share : FnScope ["top", "bottom", "common"] ["top", "bottom"] (defScope s_share) := ⟨rfl, rfl, rfl, by decide +kernel, rfl, by decide +kernel, by decide +kernel⟩
abbrev s_plus : Stmt := topS 3
theorem sc_plus : FnScope ["one", "other"] ["one", "other"] (defScope s_plus) := ⟨rfl, rfl, rfl, by decide +kernel, rfl, by decide +kernel, by decide +kernel⟩
abbrev s_minus : Stmt := topS 4
theorem sc_minus : FnScope ["one", "other"] ["one", "other"] (defScope s_minus) := ⟨rfl, rfl, rfl, by decide +kernel, rfl, by decide +kernel, by decide +kernel⟩
abbrev s_times : Stmt := topS 5
theorem sc_times : FnScope ["one", "other"] ["one", "other"] (defScope s_times) := ⟨rfl, rfl, rfl, by decide +kernel, rfl, by decide +kernel, by decide +kernel⟩
abbrev s_law_next : Stmt := topS 7
theorem sc_law_next : FnScope ["_law_h", "_law_many", "_law_at", "_law_cell"] ["_law_h", "_law_many"] (defScope s_law_next) := ⟨rfl, rfl, rfl, by decide +kernel, rfl, by decide +kernel, by decide +kernel⟩
abbrev s_law_share : Stmt := topS 8
theorem sc_law_share : FnScope ["_law_h", "_law_top", "_law_bottom"] ["_law_h"] (defScope s_law_share) := ⟨rfl, rfl, rfl, by decide +kernel, rfl, by decide +kernel, by decide +kernel⟩
abbrev s_law_lowest : Stmt := topS 9
theorem sc_law_lowest : FnScope ["_law_one", "_law_top", "_law_bottom"] ["_law_one"] (defScope s_law_lowest) := ⟨rfl, rfl, rfl, by decide +kernel, rfl, by decide +kernel, by decide +kernel⟩
abbrev s_law : Stmt := topS 10
theorem sc_law : FnScope ["_law_script", "_law_h", "_law_time", "_law_k", "_law_one", "_law_two", "_law_three", "_law_pairs", "_law_many", "_law_mine", "_law_yours", "_law_total"] ["_law_script"] (defScope s_law) := ⟨rfl, rfl, rfl, by decide +kernel, rfl, by decide +kernel, by decide +kernel⟩
structure DefAt (K : PySem.W.Frag) (mg : Str → Option Value) (x qual : Str) (st : Stmt) (ps : List Str) (f : Addr) (fd : FuncData) : Prop where
  F : Fun K x qual st f fd
  g : mg x = some (.ref f)
  b : Binds K fd ps []
def HasDef (K : PySem.W.Frag) (mg : Str → Option Value) (x qual : Str) (st : Stmt) (ps : List Str) : Prop := ∃ f fd, DefAt K mg x qual st ps f fd
structure Txt (K : PySem.W.Frag) (mg : Str → Option Value) : Prop where
  d_share : HasDef K mg "share" "share" s_share ["top", "bottom"]
  d_plus : HasDef K mg "plus" "plus" s_plus ["one", "other"]
  d_minus : HasDef K mg "minus" "minus" s_minus ["one", "other"]
  d_times : HasDef K mg "times" "times" s_times ["one", "other"]
  d_law_next : HasDef K mg "_law_next" "_law_next" s_law_next ["_law_h", "_law_many"]
  d_law_share : HasDef K mg "_law_share" "_law_share" s_law_share ["_law_h"]
  d_law_lowest : HasDef K mg "_law_lowest" "_law_lowest" s_law_lowest ["_law_one"]
  m_max : mg "max" = none
  m_len : mg "len" = none
  m_int : mg "int" = none
  m_abs : mg "abs" = none
  m_list : mg "list" = none
  m_range : mg "range" = none
  m_isinstance : mg "isinstance" = none
  m_tuple : mg "tuple" = none
  i_gcd : mg "gcd" = some (.builtin "math.gcd")
/-! ### fractions -/
theorem divInt_num_pos {t b : Int} (h : 0 < b) : (Rat.divInt t b).num = t.fdiv ((Nat.gcd t.natAbs b.natAbs : Nat) : Int) := by
  rw [Rat.num_divInt, Int.sign_eq_one_of_pos h, Int.one_mul, Int.fdiv_eq_ediv_of_nonneg _ (by omega), Int.gcd, Nat.gcd_comm]
theorem divInt_den_pos {t b : Int} (h : 0 < b) : ((Rat.divInt t b).den : Int) = b.fdiv ((Nat.gcd t.natAbs b.natAbs : Nat) : Int) := by
  have e : ((b.natAbs : Nat) : Int) = b := by omega
  rw [Rat.den_divInt, if_neg (by omega), Int.fdiv_eq_ediv_of_nonneg _ (by omega), Int.gcd, Nat.gcd_comm, Int.natCast_ediv, e]
theorem gcd_pos {t b : Int} (h : b ≠ 0) : 0 < Nat.gcd t.natAbs b.natAbs := Nat.gcd_pos_of_pos_right _ (by omega)
theorem fdiv_neg_gcd {x : Int} {g : Nat} (hg : 0 < g) (hd : (g : Int) ∣ x) : x.fdiv (-(g : Int)) = (-x).fdiv (g : Int) := by
  obtain ⟨q, rfl⟩ := hd
  have e1 : (g : Int) * q = (-(g : Int)) * (-q) := by rw [Int.neg_mul_neg]
  have e2 : -((g : Int) * q) = (g : Int) * (-q) := by rw [Int.mul_neg]
  rw [e2, Int.mul_fdiv_cancel_left _ (by omega), e1, Int.mul_fdiv_cancel_left _ (by omega)]
theorem divInt_num_neg {t b : Int} (h : b < 0) : (Rat.divInt t b).num = t.fdiv (-((Nat.gcd t.natAbs b.natAbs : Nat) : Int)) := by
  rw [show Rat.divInt t b = Rat.divInt (-t) (-b) from (Rat.neg_divInt_neg t b).symm, divInt_num_pos (by omega : 0 < -b), fdiv_neg_gcd (gcd_pos (by omega)) (Int.ofNat_dvd_left.mpr (Nat.gcd_dvd_left _ _)), Int.natAbs_neg, Int.natAbs_neg]
theorem divInt_den_neg {t b : Int} (h : b < 0) : ((Rat.divInt t b).den : Int) = b.fdiv (-((Nat.gcd t.natAbs b.natAbs : Nat) : Int)) := by
  rw [show Rat.divInt t b = Rat.divInt (-t) (-b) from (Rat.neg_divInt_neg t b).symm, divInt_den_pos (by omega : 0 < -b), fdiv_neg_gcd (gcd_pos (by omega)) (Int.ofNat_dvd_left.mpr (Nat.gcd_dvd_right _ _)), Int.natAbs_neg, Int.natAbs_neg]
/-- the size of a fraction -/
def RB (a : Nat) (r : Rat) : Prop := r.num.natAbs < 2 ^ a ∧ r.den < 2 ^ a
theorem RB.divInt {a : Nat} {t b : Int} (h : b ≠ 0) (ht : t.natAbs < 2 ^ a) (hb : b.natAbs < 2 ^ a) : RB a (Rat.divInt t b) := by
  constructor
  · have hd : ((b.gcd t : Nat) : Int) ∣ b.sign * t := Int.dvd_trans (Int.gcd_dvd_right ..) (Int.dvd_mul_left _ _)
    rw [Rat.num_divInt, Int.natAbs_ediv_of_dvd hd, Int.natAbs_mul, Int.natAbs_sign, if_neg h, Nat.one_mul]
    exact Nat.lt_of_le_of_lt (Nat.div_le_self _ _) ht
  · rw [Rat.den_divInt, if_neg h]
    exact Nat.lt_of_le_of_lt (Nat.div_le_self _ _) hb
theorem RB.mono {a b : Nat} {r : Rat} (h : RB a r) (hab : a ≤ b) : RB b r := ⟨Nat.lt_of_lt_of_le h.1 (Nat.pow_le_pow_right (by decide) hab), Nat.lt_of_lt_of_le h.2 (Nat.pow_le_pow_right (by decide) hab)⟩
theorem den_ne (r : Rat) : (r.den : Int) ≠ 0 := by
  have := r.den_nz
  omega
theorem add_eq (r s : Rat) : r + s = Rat.divInt (r.num * s.den + s.num * r.den) (r.den * s.den) := by
  conv => lhs; rw [← Rat.num_divInt_den r, ← Rat.num_divInt_den s]
  exact Rat.divInt_add_divInt _ _ (den_ne r) (den_ne s)
theorem sub_eq (r s : Rat) : r - s = Rat.divInt (r.num * s.den - s.num * r.den) (r.den * s.den) := by
  conv => lhs; rw [← Rat.num_divInt_den r, ← Rat.num_divInt_den s]
  exact Rat.divInt_sub_divInt _ _ (den_ne r) (den_ne s)
theorem mul_eq (r s : Rat) : r * s = Rat.divInt (r.num * s.num) (r.den * s.den) := by
  conv => lhs; rw [← Rat.num_divInt_den r, ← Rat.num_divInt_den s]
  exact Rat.divInt_mul_divInt _ _ ..
theorem divInt_mul_den (t b : Int) (h : b ≠ 0) : (Rat.divInt t b).num * b = t * (Rat.divInt t b).den := by
  have e : Rat.divInt (Rat.divInt t b).num (Rat.divInt t b).den = Rat.divInt t b := Rat.num_divInt_den _
  exact (Rat.divInt_eq_divInt_iff (den_ne _) h).mp e
theorem natAbs_mul_lt {x y : Int} {a b : Nat} (hx : x.natAbs < 2 ^ a) (hy : y.natAbs < 2 ^ b) : (x * y).natAbs < 2 ^ (a + b) := by
  rw [Int.natAbs_mul, Nat.pow_add]
  exact Nat.mul_lt_mul'' hx hy
theorem natAbs_add_lt {x y : Int} {a : Nat} (hx : x.natAbs < 2 ^ a) (hy : y.natAbs < 2 ^ a) : (x + y).natAbs < 2 ^ (a + 1) := by
  rw [Nat.pow_succ]
  omega
theorem natAbs_sub_lt {x y : Int} {a : Nat} (hx : x.natAbs < 2 ^ a) (hy : y.natAbs < 2 ^ a) : (x - y).natAbs < 2 ^ (a + 1) := by
  rw [Nat.pow_succ]
  omega
theorem lt_up {n a b : Nat} (h : n < 2 ^ a) (hab : a ≤ b) : n < 2 ^ b := Nat.lt_of_lt_of_le h (Nat.pow_le_pow_right (by decide) hab)
/-! ### small things -/
theorem ixNat {n j : Nat} (h : j < n) : ixN n (j : Int) = some j := by
  unfold ixN
  rw [if_pos (by omega), if_pos (by omega)]
  rfl
theorem dpInts {K : PySem.W.Frag} {H : Hp} : ∀ cs : List Int, DpAll K H (cs.map V.int) (cs.map PyData.int)
  | [] => .nil
  | _ :: r => .cons (.int _) (dpInts r)
theorem canLayInts : ∀ cs : List Int, PyData.canLayAll0 (cs.map PyData.int) = true
  | [] => by simp [PyData.canLayAll0]
  | x :: r => by simp [PyData.canLayAll0, PyData.canLay0, canLayInts r]
theorem depthInts : ∀ cs : List Int, PyData.depthAll (cs.map PyData.int) = 0
  | [] => by simp [PyData.depthAll]
  | x :: r => by simp [PyData.depthAll, PyData.depth, depthInts r]
theorem shapedInts (cs : List Int) : SeqAt.shaped (.list (cs.map PyData.int)) = true := by
  simp [SeqAt.shaped, PyData.canLay0, PyData.depth, canLayInts, depthInts]
theorem eqvNil : ∀ cs : List Int, PyData.eqv (.list (cs.map PyData.int)) (.list []) = cs.isEmpty
  | [] => by simp [PyData.eqv, PyData.eqvAll]
  | x :: r => by simp [PyData.eqv, PyData.eqvAll]
/-! ### shares -/
theorem same_upd {H : Hp} {p : Addr} {o : HO} (h : H p = none) : Same H (upd H p o) := fun b x e => by
  rw [upd_ne (ne_of_none e h)]
  exact e
/-- // by any divisor but nought, below 2 ^ 9000 in size -/
def CDivZ (_ j : Int) : Prop := j ≠ 0 ∧ j.natAbs < 2 ^ 9000
theorem op_fdivZ {X : Cx} : OpR X (binaryOp .FloorDiv) (rI CDivZ fun i j => .int (i.fdiv j)) := opI fun _ _ _ _ _ _ _ hc q => floordiv_int hc.1 q (.inl (PyProof.noPylong_of_log2 (PySem.Flt.log2_lt_of (by decide) hc.2)))
theorem mulOk {i j : Int} {a b : Nat} (ha : i.natAbs < 2 ^ a) (hb : j.natAbs < 2 ^ b) (h0 : 0 < a) (h1 : 0 < b) (h : a + b ≤ 8999) : CMulW i j := wide_mul ha hb h0 h1 (by omega)
def ratV (r : Rat) : List V := [.int r.num, .int (r.den : Int)]
theorem ratV_num (r : Rat) : atI (ratV r) 0 = some (.int r.num) := atI_nat (j := 0) rfl
theorem ratV_den (r : Rat) : atI (ratV r) 1 = some (.int (r.den : Int)) := atI_nat (j := 1) rfl
theorem RB.den {a : Nat} {r : Rat} (h : RB a r) : ((r.den : Int)).natAbs < 2 ^ a := h.2
def spShare : Sp := fun vs H Q _ => ∃ (t b : Int), vs = [.int t, .int b] ∧ b ≠ 0 ∧ b.natAbs < 2 ^ 9000 ∧ ∀ p H', Same H H' → H p = none → H' p = some (.tup (ratV (Rat.divInt t b))) → Q (.ref p) H'
def spRat (K : PySem.W.Frag) (g : Rat → Rat → Rat) : Sp := fun vs H Q _ => ∃ (p q : Addr) (r s : Rat) (a b : Nat), vs = [.ref p, .ref q] ∧ SqT K H p (ratV r) ∧ SqT K H q (ratV s) ∧ RB a r ∧ RB b s ∧ 0 < a ∧ 0 < b ∧ a + b ≤ 8999 ∧
  ∀ o H', Same H H' → H o = none → H' o = some (.tup (ratV (g r s))) → Q (.ref o) H'
section
variable {P : Program} {w : World} {K : PySem.W.Frag} {mg : Str → Option Value} {base : Heap}
theorem ok_share {f : Addr} {fd : FuncData} (T : Txt K mg) (D : DefAt K mg "share" "share" s_share ["top", "bottom"] f fd) : FnOk P w K mg base CX0 1 f fd ["top", "bottom"] spShare := by
  refine D.F.ok sc_share (fun vs H Q E h => ?_) (fun cdv A outer s H vs Q E hr h => ?_)
  · obtain ⟨t, b, rfl, _⟩ := h
    rfl
  · obtain ⟨t, b, rfl, hb0, hb, q⟩ := h
    refine ⟨_, pss_cons (ps_set (i := 2) sc_share.nd rfl (.inl rfl) (pe_callBfun cr_gcd (by rfl) T.i_gcd (pa_cons (pv 0) (pa_cons (pv 1) pa_nil))))
      (pss_cons (ps_if (pt_cmpR op_lt (pv 1) pe_int (nomark _)) (pss_one (ps_set (i := 2) sc_share.nd rfl (.inl rfl) (pe_un un_neg (pv 2)))) pss_nil)
      (pss_one (ps_ret (pe_tup (pa_cons (pe_op op_fdivZ (pv 0) (pv 2)) (pa_cons (pe_op op_fdivZ (pv 1) (pv 2)) pa_nil)))))), ?_⟩
    have g0 := gcd_pos (t := t) hb0
    have g1 : Nat.gcd t.natAbs b.natAbs ≤ b.natAbs := Nat.gcd_le_right _ (by omega)
    refine ⟨_, rfl, _, rfl, t, b, rfl, _, rfl, _, _, rfl, rfl, _, rfl, ite2 (fun e => ?_) (fun e => ?_)⟩
    · have e' : b < 0 := of_decide_eq_true e
      refine ⟨_, rfl, _, rfl, _, rfl, _, rfl, _, _, rfl, rfl, ⟨by omega, by rw [Int.natAbs_neg]; exact Nat.lt_of_le_of_lt g1 hb⟩, _, rfl, _, rfl, _, _, rfl, rfl, ⟨by omega, by rw [Int.natAbs_neg]; exact Nat.lt_of_le_of_lt g1 hb⟩, (by show 2 ≤ sizeLine; decide), fun p hp => q p _ (same_upd hp) hp ?_⟩
      unfold ratV
      rw [divInt_num_neg e', divInt_den_neg e']
      exact upd_same
    · have e' : 0 < b := by
        have := of_decide_eq_false (Bool.eq_false_iff.mpr e)
        omega
      refine ⟨_, rfl, _, rfl, _, _, rfl, rfl, ⟨by omega, Nat.lt_of_le_of_lt g1 hb⟩, _, rfl, _, rfl, _, _, rfl, rfl, ⟨by omega, Nat.lt_of_le_of_lt g1 hb⟩, (by show 2 ≤ sizeLine; decide), fun p hp => q p _ (same_upd hp) hp ?_⟩
      unfold ratV
      rw [divInt_num_pos e', divInt_den_pos e']
      exact upd_same
theorem ok_plus {f : Addr} {fd : FuncData} (T : Txt K mg) (D : DefAt K mg "plus" "plus" s_plus ["one", "other"] f fd) : FnOk P w K mg base CX0 2 f fd ["one", "other"] (spRat K (· + ·)) := by
  obtain ⟨f1, fd1, D1⟩ := T.d_share
  have G : FnOk P w K mg base CX0 1 f1 fd1 ["top", "bottom"] spShare := ok_share T D1
  refine D.F.ok sc_plus (fun vs H Q E h => ?_) (fun cdv A outer s H vs Q E hr h => ?_)
  · obtain ⟨p, q, r, t, a, b, rfl, _⟩ := h
    rfl
  · obtain ⟨p, q, r, t, a, b, rfl, hp, hq, ra, rb, a0, b0, hab, k⟩ := h
    refine ⟨_, pss_one (ps_ret (pe_call G hr (by rfl) D1.g D1.F.kp D1.b .nil pass0 (pa_cons
      (pe_op op_add (pe_op op_mulW (pe_ix ix_tup (pv 0) pe_int (fun _ _ => rfl)) (pe_ix ix_tup (pv 1) pe_int (fun _ _ => rfl))) (pe_op op_mulW (pe_ix ix_tup (pv 1) pe_int (fun _ _ => rfl)) (pe_ix ix_tup (pv 0) pe_int (fun _ _ => rfl))))
      (pa_cons (pe_op op_mulW (pe_ix ix_tup (pv 0) pe_int (fun _ _ => rfl)) (pe_ix ix_tup (pv 1) pe_int (fun _ _ => rfl))) pa_nil)))), ?_⟩
    refine ⟨_, rfl, p, _, _, _, rfl, rfl, hp, ratV_num r, _, rfl, q, _, _, _, rfl, rfl, hq, ratV_den t, _, _, rfl, rfl, mulOk ra.1 rb.den a0 b0 hab,
      _, rfl, q, _, _, _, rfl, rfl, hq, ratV_num t, _, rfl, p, _, _, _, rfl, rfl, hp, ratV_den r, _, _, rfl, rfl, mulOk rb.1 ra.den b0 a0 (by omega), _, _, rfl, rfl,
      _, rfl, p, _, _, _, rfl, rfl, hp, ratV_den r, _, rfl, q, _, _, _, rfl, rfl, hq, ratV_den t, _, _, rfl, rfl, mulOk ra.den rb.den a0 b0 hab, _, _, rfl, ?_, ?_, fun o H' sm ho e => k o H' sm ho ?_⟩
    · exact Int.mul_ne_zero (den_ne r) (den_ne t)
    · exact lt_up (natAbs_mul_lt ra.den rb.den) (by omega)
    · rw [e]
      show some (HO.tup (ratV _)) = some (HO.tup (ratV (r + t)))
      rw [add_eq]
theorem ok_minus {f : Addr} {fd : FuncData} (T : Txt K mg) (D : DefAt K mg "minus" "minus" s_minus ["one", "other"] f fd) : FnOk P w K mg base CX0 2 f fd ["one", "other"] (spRat K (· - ·)) := by
  obtain ⟨f1, fd1, D1⟩ := T.d_share
  have G : FnOk P w K mg base CX0 1 f1 fd1 ["top", "bottom"] spShare := ok_share T D1
  refine D.F.ok sc_minus (fun vs H Q E h => ?_) (fun cdv A outer s H vs Q E hr h => ?_)
  · obtain ⟨p, q, r, t, a, b, rfl, _⟩ := h
    rfl
  · obtain ⟨p, q, r, t, a, b, rfl, hp, hq, ra, rb, a0, b0, hab, k⟩ := h
    refine ⟨_, pss_one (ps_ret (pe_call G hr (by rfl) D1.g D1.F.kp D1.b .nil pass0 (pa_cons
      (pe_op op_sub (pe_op op_mulW (pe_ix ix_tup (pv 0) pe_int (fun _ _ => rfl)) (pe_ix ix_tup (pv 1) pe_int (fun _ _ => rfl))) (pe_op op_mulW (pe_ix ix_tup (pv 1) pe_int (fun _ _ => rfl)) (pe_ix ix_tup (pv 0) pe_int (fun _ _ => rfl))))
      (pa_cons (pe_op op_mulW (pe_ix ix_tup (pv 0) pe_int (fun _ _ => rfl)) (pe_ix ix_tup (pv 1) pe_int (fun _ _ => rfl))) pa_nil)))), ?_⟩
    refine ⟨_, rfl, p, _, _, _, rfl, rfl, hp, ratV_num r, _, rfl, q, _, _, _, rfl, rfl, hq, ratV_den t, _, _, rfl, rfl, mulOk ra.1 rb.den a0 b0 hab,
      _, rfl, q, _, _, _, rfl, rfl, hq, ratV_num t, _, rfl, p, _, _, _, rfl, rfl, hp, ratV_den r, _, _, rfl, rfl, mulOk rb.1 ra.den b0 a0 (by omega), _, _, rfl, rfl,
      _, rfl, p, _, _, _, rfl, rfl, hp, ratV_den r, _, rfl, q, _, _, _, rfl, rfl, hq, ratV_den t, _, _, rfl, rfl, mulOk ra.den rb.den a0 b0 hab, _, _, rfl, ?_, ?_, fun o H' sm ho e => k o H' sm ho ?_⟩
    · exact Int.mul_ne_zero (den_ne r) (den_ne t)
    · exact lt_up (natAbs_mul_lt ra.den rb.den) (by omega)
    · rw [e]
      show some (HO.tup (ratV _)) = some (HO.tup (ratV (r - t)))
      rw [sub_eq]
theorem ok_times {f : Addr} {fd : FuncData} (T : Txt K mg) (D : DefAt K mg "times" "times" s_times ["one", "other"] f fd) : FnOk P w K mg base CX0 2 f fd ["one", "other"] (spRat K (· * ·)) := by
  obtain ⟨f1, fd1, D1⟩ := T.d_share
  have G : FnOk P w K mg base CX0 1 f1 fd1 ["top", "bottom"] spShare := ok_share T D1
  refine D.F.ok sc_times (fun vs H Q E h => ?_) (fun cdv A outer s H vs Q E hr h => ?_)
  · obtain ⟨p, q, r, t, a, b, rfl, _⟩ := h
    rfl
  · obtain ⟨p, q, r, t, a, b, rfl, hp, hq, ra, rb, a0, b0, hab, k⟩ := h
    refine ⟨_, pss_one (ps_ret (pe_call G hr (by rfl) D1.g D1.F.kp D1.b .nil pass0 (pa_cons
      (pe_op op_mulW (pe_ix ix_tup (pv 0) pe_int (fun _ _ => rfl)) (pe_ix ix_tup (pv 1) pe_int (fun _ _ => rfl)))
      (pa_cons (pe_op op_mulW (pe_ix ix_tup (pv 0) pe_int (fun _ _ => rfl)) (pe_ix ix_tup (pv 1) pe_int (fun _ _ => rfl))) pa_nil)))), ?_⟩
    refine ⟨_, rfl, p, _, _, _, rfl, rfl, hp, ratV_num r, _, rfl, q, _, _, _, rfl, rfl, hq, ratV_num t, _, _, rfl, rfl, mulOk ra.1 rb.1 a0 b0 hab,
      _, rfl, p, _, _, _, rfl, rfl, hp, ratV_den r, _, rfl, q, _, _, _, rfl, rfl, hq, ratV_den t, _, _, rfl, rfl, mulOk ra.den rb.den a0 b0 hab, _, _, rfl, ?_, ?_, fun o H' sm ho e => k o H' sm ho ?_⟩
    · exact Int.mul_ne_zero (den_ne r) (den_ne t)
    · exact lt_up (natAbs_mul_lt ra.den rb.den) (by omega)
    · rw [e]
      show some (HO.tup (ratV _)) = some (HO.tup (ratV (r * t)))
      rw [mul_eq]
end
theorem RB.add {a b : Nat} {r s : Rat} (h : RB a r) (g : RB b s) : RB (a + b + 1) (r + s) := by
  rw [add_eq]
  refine RB.divInt (Int.mul_ne_zero (den_ne r) (den_ne s)) (natAbs_add_lt (natAbs_mul_lt h.1 g.den) ?_) (lt_up (natAbs_mul_lt h.den g.den) (by omega))
  rw [Nat.add_comm]
  exact natAbs_mul_lt g.1 h.den
theorem RB.sub {a b : Nat} {r s : Rat} (h : RB a r) (g : RB b s) : RB (a + b + 1) (r - s) := by
  rw [sub_eq]
  refine RB.divInt (Int.mul_ne_zero (den_ne r) (den_ne s)) (natAbs_sub_lt (natAbs_mul_lt h.1 g.den) ?_) (lt_up (natAbs_mul_lt h.den g.den) (by omega))
  rw [Nat.add_comm]
  exact natAbs_mul_lt g.1 h.den
theorem RB.mul {a b : Nat} {r s : Rat} (h : RB a r) (g : RB b s) : RB (a + b) (r * s) := by
  rw [mul_eq]
  exact RB.divInt (Int.mul_ne_zero (den_ne r) (den_ne s)) (natAbs_mul_lt h.1 g.1) (natAbs_mul_lt h.den g.den)
/-! ### the draws -/
/-- the three cells of the drawing: a seed, the list of what is left of the script, a place -/
structure HAt (H : Hp) (h c : Addr) (s k : Int) (cs : List Int) : Prop where
  h : H h = some (.lst [.int s, .ref c, .int k])
  c : H c = some (.lst (cs.map V.int))
  n : cs.length ≤ 63
theorem HAt.ne {H : Hp} {h c : Addr} {s k : Int} {cs : List Int} (D : HAt H h c s k cs) : h ≠ c := by
  refine ne_of D.h D.c (fun e => ?_)
  cases cs with
  | nil => cases e
  | cons x r =>
    cases r with
    | nil => cases e
    | cons y r => cases e
/-- all that was tracked is as it was, but for the drawing's two lists -/
def But (h c : Addr) (H H' : Hp) : Prop := ∀ b o, H b = some o → b ≠ h → b ≠ c → H' b = some o
theorem But.refl (h c : Addr) (H : Hp) : But h c H H := fun _ _ e _ _ => e
theorem But.trans {h c : Addr} {H H1 H2 : Hp} (a : But h c H H1) (b : But h c H1 H2) : But h c H H2 := fun x o e n1 n2 => b x o (a x o e n1 n2) n1 n2
theorem But.same {h c : Addr} {H H1 H2 : Hp} (a : But h c H H1) (b : Same H1 H2) : But h c H H2 := fun x o e n1 n2 => b x o (a x o e n1 n2)
theorem Same.but {h c : Addr} {H H1 : Hp} (a : Same H H1) : But h c H H1 := fun x o e _ _ => a x o e
theorem HAt.same {H H' : Hp} {h c : Addr} {s k : Int} {cs : List Int} (D : HAt H h c s k cs) (e : Same H H') : HAt H' h c s k cs := ⟨e _ _ D.h, e _ _ D.c, D.n⟩
def spNext : Sp := fun vs H Q _ => ∃ (h c : Addr) (s k m : Int) (cs : List Int), vs = [.ref h, .int m] ∧ 0 < m ∧ m < 1073741824 ∧ HAt H h c s k cs ∧
  ∀ (s' k' : Int) (cs' : List Int) (r : Int) (H' : Hp), 0 ≤ r → r < m → HAt H' h c s' k' cs' → But h c H H' → Q (.int r) H'
theorem fmod_lo {x m : Int} (h : 0 < m) : 0 ≤ x.fmod m := by
  rw [Int.fmod_eq_emod_of_nonneg _ (by omega)]
  exact Int.emod_nonneg _ (by omega)
theorem fmod_hi {x m : Int} (h : 0 < m) : x.fmod m < m := by
  rw [Int.fmod_eq_emod_of_nonneg _ (by omega)]
  exact Int.emod_lt_of_pos _ h
theorem max1 (n : Nat) : (if (n : Int) > 1 then (n : Int) else 1) = ((if n > 1 then n else 1 : Nat) : Int) := by
  split <;> split <;> omega
section
variable {P : Program} {w : World} {K : PySem.W.Frag} {mg : Str → Option Value} {base : Heap}
theorem ok_law_next {f : Addr} {fd : FuncData} (T : Txt K mg) (D : DefAt K mg "_law_next" "_law_next" s_law_next ["_law_h", "_law_many"] f fd) : FnOk P w K mg base CX0 1 f fd ["_law_h", "_law_many"] spNext := by
  refine D.F.ok sc_law_next (fun vs H Q E h => ?_) (fun cdv A outer s H vs Q E hr h => ?_)
  · obtain ⟨h, c, s, k, m, cs, rfl, _⟩ := h
    rfl
  · obtain ⟨h, c, z, k, m, cs, rfl, m0, m1, A1, q⟩ := h
    refine ⟨_, (pss_cons (ps_set (i := 2) sc_law_next.nd rfl (.inl rfl) (pe_op op_modN (pe_ix ix_list (pv 0) pe_int (fun _ _ => rfl)) (pe_callB (call_max2 rfl) (by rfl) T.m_max (by decide +kernel) (pa_cons pe_int (pa_cons (pe_callB call_len_seq (by rfl) T.m_len (by decide +kernel) (pa_cons (pe_ix ix_list (pv 0) pe_int (fun _ _ => rfl)) pa_nil)) pa_nil)))))
      (pss_cons (ps_set (i := 3) sc_law_next.nd rfl (.inl rfl) (pe_ifExp (pt_cmpR (op_neD hr.units) (pe_ix ix_list (pv 0) pe_int (fun _ _ => rfl)) (pe_lst pa_nil) (nomark _)) (pe_ix ix_list (pe_ix ix_list (pv 0) pe_int (fun _ _ => rfl)) (pv 2) (fun _ _ => rfl)) pe_int))
      (pss_cons (ps_if (pt_cmpR op_ge (pv 3) (pe_op op_pow pe_int pe_int) (nomark _)) (pss_cons (ps_asg (pe_op op_fdivN (pv 3) (pv 1)) (pg_sub (pe_ix ix_list (pv 0) pe_int (fun _ _ => rfl)) (pv 2) set_list)) (pss_one (ps_ret (pe_op op_modN (pe_callTy call_int1 (by rfl) T.m_int (by decide +kernel) (pa_cons (pv 3) pa_nil)) (pv 1))))) pss_nil)
      (pss_cons (ps_asg (pe_op op_mod (pe_callTy call_int1 (by rfl) T.m_int (by decide +kernel) (pa_cons (pe_op op_add (pe_op op_add (pe_op op_mul (pe_ix ix_list (pv 0) pe_int (fun _ _ => rfl)) pe_int) (pe_op op_mul (pv 3) pe_int)) pe_int) pa_nil)) pe_int) (pg_sub (pv 0) pe_int set_list))
      (pss_cons (ps_asg (pe_op op_add (pe_ix ix_list (pv 0) pe_int (fun _ _ => rfl)) pe_int) (pg_sub (pv 0) pe_int set_list))
      (pss_one (ps_ret (pe_op op_modN (pe_callTy call_int1 (by rfl) T.m_int (by decide +kernel) (pa_cons (pe_op op_fdiv (pe_ix ix_list (pv 0) pe_int (fun _ _ => rfl)) pe_int) pa_nil)) (pv 1))))))))), ?_⟩
    have hne := A1.ne
    have lc : (cs.map V.int).length = cs.length := List.length_map _
    -- the place: h[2] % max(1, len(h[1]))
    refine ⟨_, rfl, h, _, _, _, rfl, rfl, SqL.of A1.h, atI_nat (j := 2) rfl, _, rfl, h, _, _, _, rfl, rfl, SqL.of A1.h, atI_nat (j := 1) rfl, c, _, rfl, .inl (SqL.of A1.c), _, _, rfl, _, _, rfl, rfl, ?_, ?_⟩
    · rw [lc, max1]
      split <;> omega
    rw [lc, max1]
    have hat : ∀ x : Int, cs ≠ [] → ∃ j : Nat, x.fmod ((if cs.length > 1 then cs.length else 1 : Nat) : Int) = (j : Int) ∧ j < cs.length := fun x e => by
      have l0 : 0 < cs.length := List.length_pos_iff.mpr e
      have e1 : (if cs.length > 1 then cs.length else 1) = cs.length := by split <;> omega
      rw [e1]
      have a := fmod_lo (x := x) (m := (cs.length : Int)) (by omega)
      have b := fmod_hi (x := x) (m := (cs.length : Int)) (by omega)
      exact ⟨(x.fmod cs.length).toNat, by omega, by omega⟩
    -- the cell
    refine ⟨_, rfl, h, _, _, _, rfl, rfl, SqL.of A1.h, atI_nat (j := 1) rfl, (by show 0 ≤ sizeLine; decide), fun l hl => ?_⟩
    have sl : Same H (upd H l (.lst [])) := same_upd hl
    have A2 := A1.same sl
    have fin : ∀ (s' k' : Int) (cs' : List Int) (r : Int) (H' : Hp), 0 ≤ r → r < m → HAt H' h c s' k' cs' → But h c (upd H l (.lst [])) H' → Q (.int r) H' := fun s' k' cs' r H' r0 r1 A' B' => q s' k' cs' r H' r0 r1 A' ((Same.but sl).trans B')
    refine ⟨_, _, Dp.lst (SqL.of A2.c) (dpInts cs), Dp.lst (SqL.of upd_same) DpAll.nil, shapedInts cs, by decide, _, rfl, ite2 (fun e => ?_) (fun e => ?_)⟩
    rotate_left
    · refine ⟨_, rfl, _, _, rfl, rfl, ⟨by decide, by decide, by decide⟩, _, _, rfl, rfl, _, rfl, ite2 (fun e => absurd (of_decide_eq_true e) (by decide +kernel)) (fun e => ?_)⟩
      refine ⟨_, rfl, h, _, _, _, rfl, rfl, SqL.of A2.h, atI_nat (j := 0) rfl, _, _, rfl, rfl, .inr ⟨by decide, by decide⟩, _, rfl, _, _, rfl, rfl, .inr ⟨by decide, by decide⟩, _, _, rfl, rfl, _, _, rfl, rfl, .inl ⟨_, rfl, _, _, rfl, rfl, (by show (0 : Int) < 2147483647; decide), _, rfl, h, _, _, 0, rfl, rfl, A2.h, rfl,
        _, rfl, h, _, _, _, rfl, rfl, SqL.of upd_same, atI_nat (j := 2) rfl, _, _, rfl, rfl, _, rfl, h, _, _, 2, rfl, rfl, upd_same, rfl,
        _, rfl, h, _, _, _, rfl, rfl, SqL.of upd_same, atI_nat (j := 0) rfl, _, _, rfl, rfl, ⟨by decide, by decide⟩, .inl ⟨_, rfl, _, rfl, _, _, rfl, rfl, by omega, ?_⟩⟩⟩
      exact fin _ _ cs _ _ (fmod_lo m0) (fmod_hi m0) ⟨upd_same, by rw [upd_ne hne.symm, upd_ne hne.symm]; exact A2.c, A1.n⟩ fun b o e nb nc => by rw [upd_ne nb, upd_ne nb]; exact e
    · have e0 : cs ≠ [] := fun z => by
        subst z
        simp [PyData.eqv, PyData.eqvAll] at e
      obtain ⟨j, ej, hj⟩ := hat k e0
      have gj : (cs.map V.int)[j]? = some (.int cs[j]) := by
        rw [List.getElem?_map, List.getElem?_eq_getElem hj]
        rfl
      refine ⟨_, rfl, h, _, _, _, rfl, rfl, SqL.of A2.h, atI_nat (j := 1) rfl, _, rfl, c, _, _, _, rfl, rfl, SqL.of A2.c, at_of ej gj, _, rfl, _, _, rfl, rfl, ⟨by decide, by decide, by decide⟩, _, _, rfl, rfl, _, rfl, ite2 (fun e => ?_) (fun e => ?_)⟩
      · -- h[1][at] = cell // many; return cell % many
        refine ⟨_, rfl, _, rfl, _, _, rfl, rfl, ⟨by omega, by omega⟩, _, rfl, h, _, _, _, rfl, rfl, SqL.of A2.h, atI_nat (j := 1) rfl, _, rfl, c, _, _, j, rfl, rfl, A2.c, by rw [ej]; exact ixNat (by rw [lc]; exact hj), _, rfl, .inl ⟨_, rfl, _, rfl, _, _, rfl, rfl, by omega, ?_⟩⟩
        exact fin z k (cs.set j (cs[j].fdiv m)) _ _ (fmod_lo m0) (fmod_hi m0) ⟨by rw [upd_ne hne]; exact A2.h, by rw [upd_same, List.map_set], by rw [List.length_set]; exact A1.n⟩ fun b o e nb nc => by rw [upd_ne nc]; exact e
      · refine ⟨_, rfl, h, _, _, _, rfl, rfl, SqL.of A2.h, atI_nat (j := 0) rfl, _, _, rfl, rfl, .inr ⟨by decide, by decide⟩, _, rfl, _, _, rfl, rfl, .inr ⟨by decide, by decide⟩, _, _, rfl, rfl, _, _, rfl, rfl, .inl ⟨_, rfl, _, _, rfl, rfl, (by show (0 : Int) < 2147483647; decide), _, rfl, h, _, _, 0, rfl, rfl, A2.h, rfl,
          _, rfl, h, _, _, _, rfl, rfl, SqL.of upd_same, atI_nat (j := 2) rfl, _, _, rfl, rfl, _, rfl, h, _, _, 2, rfl, rfl, upd_same, rfl,
          _, rfl, h, _, _, _, rfl, rfl, SqL.of upd_same, atI_nat (j := 0) rfl, _, _, rfl, rfl, ⟨by decide, by decide⟩, .inl ⟨_, rfl, _, rfl, _, _, rfl, rfl, by omega, ?_⟩⟩⟩
        exact fin _ _ cs _ _ (fmod_lo m0) (fmod_hi m0) ⟨upd_same, by rw [upd_ne hne.symm, upd_ne hne.symm]; exact A2.c, A1.n⟩ fun b o e nb nc => by rw [upd_ne nb, upd_ne nb]; exact e
end
theorem HAt.set {H : Hp} {h c l : Addr} {s k : Int} {cs : List Int} {o : HO} (D : HAt H h c s k cs) (nh : l ≠ h) (nc : l ≠ c) : HAt (upd H l o) h c s k cs := ⟨by rw [upd_ne nh.symm]; exact D.h, by rw [upd_ne nc.symm]; exact D.c, D.n⟩
/-! ### the law's own defs -/
def TA (H : Hp) (p : Addr) (r : Rat) (b : Nat) : Prop := H p = some (.tup (ratV r)) ∧ RB b r
theorem TA.same {H H' : Hp} {p : Addr} {r : Rat} {b : Nat} (t : TA H p r b) (s : Same H H') : TA H' p r b := ⟨s _ _ t.1, t.2⟩
theorem TA.upd {H : Hp} {p P : Addr} {r : Rat} {b : Nat} {xs : List V} {o : HO} (t : TA H p r b) (e : H P = some (.lst xs)) : TA (upd H P o) p r b := ⟨by rw [upd_ne (ne_of t.1 e (by intro z; cases z))]; exact t.1, t.2⟩
theorem TA.but {H H' : Hp} {h c p : Addr} {r : Rat} {b : Nat} {s k : Int} {cs : List Int} (t : TA H p r b) (B : But h c H H') (A : HAt H h c s k cs) : TA H' p r b :=
  ⟨B _ _ t.1 (ne_of t.1 A.h (by intro z; cases z)) (ne_of t.1 A.c (by intro z; cases z)), t.2⟩
def spLowest : Sp := fun vs H Q _ => ∃ (p : Addr) (r : Rat) (b : Nat), vs = [.ref p] ∧ TA H p r b ∧ Q (.bl true) H
def spDrawn : Sp := fun vs H Q _ => ∃ (h c : Addr) (s k : Int) (cs : List Int), vs = [.ref h] ∧ HAt H h c s k cs ∧
  ∀ (s' k' : Int) (cs' : List Int) (p : Addr) (r : Rat) (H' : Hp), TA H' p r 31 → HAt H' h c s' k' cs' → But h c H H' → Q (.ref p) H'
def spLaw (K : PySem.W.Frag) : Sp := fun vs H Q _ => ∃ (a : Addr) (ns : List Int), vs = [.ref a] ∧ SqL K H a (ns.map V.int) ∧ ns.length ≤ 63 ∧ ∀ H', Q (.bl true) H'
theorem pick3 {α : Type} {l : List α} {a b c : α} (hl : l = [a, b, c]) {i : Int} (h0 : 0 ≤ i) (h3 : i < 3) : ∃ j : Nat, ∃ x, i = (j : Int) ∧ l[j]? = some x ∧ (x = a ∨ x = b ∨ x = c) := by
  subst hl
  match i, h0, h3 with
  | 0, _, _ => exact ⟨0, a, rfl, rfl, .inl rfl⟩
  | 1, _, _ => exact ⟨1, b, rfl, rfl, .inr (.inl rfl)⟩
  | 2, _, _ => exact ⟨2, c, rfl, rfl, .inr (.inr rfl)⟩
  | .ofNat (n + 3), _, h => exact absurd h (by simp; omega)
  | .negSucc n, h, _ => exact absurd h (by omega)
section
variable {P : Program} {w : World} {K : PySem.W.Frag} {mg : Str → Option Value} {base : Heap}
theorem ok_law_lowest {f : Addr} {fd : FuncData} (T : Txt K mg) (D : DefAt K mg "_law_lowest" "_law_lowest" s_law_lowest ["_law_one"] f fd) : FnOk P w K mg base CX0 1 f fd ["_law_one"] spLowest := by
  refine D.F.ok sc_law_lowest (fun vs H Q E h => ?_) (fun cdv A outer s H vs Q E hr h => ?_)
  · obtain ⟨p, r, b, rfl, _⟩ := h
    rfl
  · obtain ⟨p, r, n, rfl, ⟨hp, rn⟩, q⟩ := h
    refine ⟨_, (pss_cons (ps_par (i := 1) (j := 2) (by rfl) sc_law_lowest.nd rfl rfl (by decide) rfl rfl (pa_cons (pe_callB call_abs (by rfl) T.m_abs (by decide +kernel) (pa_cons (pe_ix ix_tup (pv 0) pe_int (fun _ _ => rfl)) pa_nil)) (pa_cons (pe_ix ix_tup (pv 0) pe_int (fun _ _ => rfl)) pa_nil)) (by rfl))
      (pss_cons (ps_while PassesOwn.never (pt_cmpR op_ne (pv 2) pe_int (nomark _)) (pss_one (ps_par (i := 1) (j := 2) (by rfl) sc_law_lowest.nd rfl rfl (by decide) rfl rfl (pa_cons (pv 2) (pa_cons (pe_op op_mod (pe_callTy call_int1 (by rfl) T.m_int (by decide +kernel) (pa_cons (pv 1) pa_nil)) (pv 2)) pa_nil)) (by rfl))))
      (pss_one (ps_ret (pe_and (pe_cmpR op_gt (pe_ix ix_tup (pv 0) pe_int (fun _ _ => rfl)) pe_int (nomark _)) (pe_one (pe_cmpR op_eq (pv 1) pe_int (nomark _)))))))), ?_⟩
    have hT : SqT K H p (ratV r) := SqT.of hp
    have d0 := r.den_pos
    refine ⟨_, rfl, p, _, _, _, rfl, rfl, hT, ratV_num r, _, rfl, _, rfl, p, _, _, _, rfl, rfl, hT, ratV_den r, _, _, rfl, ?_⟩
    have ea : (if r.num < 0 then -r.num else r.num) = ((r.num.natAbs : Nat) : Int) := by split <;> omega
    rw [ea]
    refine ⟨fun k σ' H' => ∃ x y : Nat, σ' = [some (.ref p), some (.int (x : Int)), some (.int (y : Int))] ∧ k = y ∧ Nat.gcd x y = 1 ∧ H' = H, ⟨_, _, _, rfl, rfl, r.reduced, rfl⟩, fun k σ' H' hW => ?_⟩
    obtain ⟨x, y, rfl, hk, hg, eH⟩ := hW
    subst eH
    refine ⟨_, rfl, rfl, _, rfl, ite2 (fun e => ?_) (fun e => ?_)⟩
    · have e' : 0 < (y : Int) := by
        by_cases z : y = 0
        · subst z
          exact absurd e (by decide)
        · omega
      refine ⟨fun σ' H'' => ∃ x' y' : Nat, σ' = [some (.ref p), some (.int (x' : Int)), some (.int (y' : Int))] ∧ y' < y ∧ Nat.gcd x' y' = 1 ∧ H'' = H', fun σ' H'' ⟨x', y', e1, e2, e3, e4⟩ => ⟨y', by omega, x', y', e1, rfl, e3, e4⟩, ?_⟩
      refine ⟨_, rfl, _, rfl, .inl ⟨_, rfl, _, rfl, _, _, rfl, rfl, e', _, _, rfl, y, x % y, rfl, Nat.mod_lt _ (by omega), ?_, rfl⟩⟩
      rw [Nat.gcd_comm, ← Nat.gcd_rec, Nat.gcd_comm]
      exact hg
    · have e' : y = 0 := by
        by_cases z : y = 0
        · exact z
        · exact absurd (by
            rw [show decide (V.int (y : Int) = V.int 0) = false from decide_eq_false (fun q => z (by injection q; omega))]
            rfl) e
      subst e'
      have hx : x = 1 := by simpa using hg
      subst hx
      refine ⟨_, rfl, p, _, _, _, rfl, rfl, hT, ratV_den r, _, _, rfl, rfl, _, rfl, ?_⟩
      rw [show decide ((r.den : Int) > 0) = true from decide_eq_true (by omega)]
      refine iteT ⟨_, rfl, rfl, ?_⟩
      exact q
theorem ok_law_share {f : Addr} {fd : FuncData} (T : Txt K mg) (D : DefAt K mg "_law_share" "_law_share" s_law_share ["_law_h"] f fd) : FnOk P w K mg base CX0 2 f fd ["_law_h"] spDrawn := by
  obtain ⟨f1, fd1, D_law_next⟩ := T.d_law_next
  have G_law_next : FnOk P w K mg base CX0 1 f1 fd1 ["_law_h", "_law_many"] spNext := ok_law_next T D_law_next
  obtain ⟨f4, fd4, D_share⟩ := T.d_share
  have G_share : FnOk P w K mg base CX0 1 f4 fd4 ["top", "bottom"] spShare := ok_share T D_share
  refine D.F.ok sc_law_share (fun vs H Q E h => ?_) (fun cdv A outer s H vs Q E hr h => ?_)
  · obtain ⟨h, c, s, k, cs, rfl, _⟩ := h
    rfl
  · obtain ⟨h, c, z, k, cs, rfl, A0, q⟩ := h
    refine ⟨_, (pss_cons (ps_set (i := 1) sc_law_share.nd rfl (.inl rfl) (pe_ix ix_list (pe_lst (pa_cons (pe_op op_sub (pe_call G_law_next (hr.mono (by decide)) (by rfl) D_law_next.g D_law_next.F.kp D_law_next.b .nil pass0 (pa_cons (pv 0) (pa_cons pe_int pa_nil))) pe_int) (pa_cons (pe_op op_sub (pe_call G_law_next (hr.mono (by decide)) (by rfl) D_law_next.g D_law_next.F.kp D_law_next.b .nil pass0 (pa_cons (pv 0) (pa_cons (pe_op op_pow pe_int pe_int) pa_nil))) (pe_op op_pow pe_int pe_int)) (pa_cons pe_int pa_nil)))) (pe_call G_law_next (hr.mono (by decide)) (by rfl) D_law_next.g D_law_next.F.kp D_law_next.b .nil pass0 (pa_cons (pv 0) (pa_cons pe_int pa_nil))) (fun _ _ => rfl)))
      (pss_cons (ps_set (i := 2) sc_law_share.nd rfl (.inl rfl) (pe_ix ix_list (pe_lst (pa_cons (pe_op op_add pe_int (pe_call G_law_next (hr.mono (by decide)) (by rfl) D_law_next.g D_law_next.F.kp D_law_next.b .nil pass0 (pa_cons (pv 0) (pa_cons pe_int pa_nil)))) (pa_cons (pe_op op_add pe_int (pe_call G_law_next (hr.mono (by decide)) (by rfl) D_law_next.g D_law_next.F.kp D_law_next.b .nil pass0 (pa_cons (pv 0) (pa_cons (pe_op op_pow pe_int pe_int) pa_nil)))) (pa_cons (pe_op op_sub (pe_un un_neg pe_int) (pe_call G_law_next (hr.mono (by decide)) (by rfl) D_law_next.g D_law_next.F.kp D_law_next.b .nil pass0 (pa_cons (pv 0) (pa_cons pe_int pa_nil)))) pa_nil)))) (pe_call G_law_next (hr.mono (by decide)) (by rfl) D_law_next.g D_law_next.F.kp D_law_next.b .nil pass0 (pa_cons (pv 0) (pa_cons pe_int pa_nil))) (fun _ _ => rfl)))
      (pss_one (ps_ret (pe_call G_share (hr.mono (by decide)) (by rfl) D_share.g D_share.F.kp D_share.b .nil pass0 (pa_cons (pv 1) (pa_cons (pv 2) pa_nil))))))), ?_⟩
    -- the top
    refine ⟨_, rfl, h, c, _, _, _, _, rfl, by decide, by decide, A0, fun s1 k1 cs1 r1 H1 a1 b1 A1 B1 => ?_⟩
    refine ⟨_, _, rfl, rfl, _, rfl, _, _, rfl, rfl, ⟨by decide, by decide, by decide⟩, h, c, _, _, _, _, rfl, by decide +kernel, by decide +kernel, A1, fun s2 k2 cs2 r2 H2 a2 b2 A2 B2 => ?_⟩
    refine ⟨_, _, rfl, rfl, ⟨by decide, by decide, by decide⟩, _, _, rfl, rfl, (by show 3 ≤ sizeLine; decide), fun l hl => ?_⟩
    have A3 := A2.same (same_upd (o := .lst [.int (r1 - 20), .int (r2 - 10 ^ 8), .int 0]) hl)
    have nh : l ≠ h := (ne_of_none A2.h hl).symm
    have nc : l ≠ c := (ne_of_none A2.c hl).symm
    refine ⟨_, rfl, h, c, _, _, _, _, rfl, by decide, by decide, A3, fun s4 k4 cs4 r4 H4 a4 b4 A4 B4 => ?_⟩
    have hl4 := B4 l _ upd_same nh nc
    obtain ⟨j, x, ej, gj, hx⟩ := pick3 (l := [V.int (r1 - 20), V.int (r2 - 10 ^ 8), V.int 0]) rfl a4 b4
    obtain ⟨t, rfl, ht⟩ : ∃ t, x = V.int t ∧ t.natAbs < 2 ^ 31 := by
      rcases hx with rfl | rfl | rfl
      · exact ⟨r1 - 20, rfl, by omega⟩
      · exact ⟨r2 - 10 ^ 8, rfl, by have : r2 < 10 ^ 9 := b2; omega⟩
      · exact ⟨0, rfl, by decide⟩
    refine ⟨l, _, _, _, rfl, rfl, SqL.of hl4, at_of ej gj, ?_⟩
    have B04 : But h c H H4 := fun b o e n1 n2 => B4 b o (same_upd hl _ _ (B2 b o (B1 b o e n1 n2) n1 n2)) n1 n2
    -- the bottom
    refine ⟨_, rfl, h, c, _, _, _, _, rfl, by decide, by decide, A4, fun s5 k5 cs5 r5 H5 a5 b5 A5 B5 => ?_⟩
    refine ⟨_, _, rfl, rfl, _, rfl, _, _, rfl, rfl, ⟨by decide, by decide, by decide⟩, h, c, _, _, _, _, rfl, by decide +kernel, by decide +kernel, A5, fun s6 k6 cs6 r6 H6 a6 b6 A6 B6 => ?_⟩
    refine ⟨_, _, rfl, rfl, _, rfl, _, rfl, h, c, _, _, _, _, rfl, by decide, by decide, A6, fun s7 k7 cs7 r7 H7 a7 b7 A7 B7 => ?_⟩
    refine ⟨_, _, rfl, rfl, (by show 3 ≤ sizeLine; decide), fun l' hl' => ?_⟩
    have A8 := A7.same (same_upd (o := .lst [.int (1 + r5), .int (1 + r6), .int (-1 - r7)]) hl')
    have nh' : l' ≠ h := (ne_of_none A7.h hl').symm
    have nc' : l' ≠ c := (ne_of_none A7.c hl').symm
    refine ⟨_, rfl, h, c, _, _, _, _, rfl, by decide, by decide, A8, fun s9 k9 cs9 r9 H9 a9 b9 A9 B9 => ?_⟩
    have hl9 := B9 l' _ upd_same nh' nc'
    obtain ⟨j', x', ej', gj', hx'⟩ := pick3 (l := [V.int (1 + r5), V.int (1 + r6), V.int (-1 - r7)]) rfl a9 b9
    obtain ⟨b, rfl, hb0, hb⟩ : ∃ t, x' = V.int t ∧ t ≠ 0 ∧ t.natAbs < 2 ^ 31 := by
      rcases hx' with rfl | rfl | rfl
      · exact ⟨1 + r5, rfl, by omega, by omega⟩
      · exact ⟨1 + r6, rfl, by omega, by have : r6 < 10 ^ 9 := b6; omega⟩
      · exact ⟨-1 - r7, rfl, by omega, by omega⟩
    refine ⟨l', _, _, _, rfl, rfl, SqL.of hl9, at_of ej' gj', ?_⟩
    refine ⟨_, rfl, _, rfl, t, b, rfl, hb0, lt_up hb (by decide), fun p H' sm hp ep => ?_⟩
    exact q _ _ _ p _ H' ⟨ep, RB.divInt hb0 ht hb⟩ (A9.same sm) fun d o e n1 n2 => sm _ _ (B9 d o (same_upd hl' _ _ (B7 d o (B6 d o (B5 d o (B04 d o e n1 n2) n1 n2) n1 n2) n1 n2)) n1 n2)
end
/-! ### the law -/
theorem TA.eqn {H : Hp} {p : Addr} {r s : Rat} {b : Nat} (t : TA H p r b) (e : r = s) : TA H p s b := e ▸ t
theorem TA.new {H : Hp} {p : Addr} {xs : List V} {r : Rat} {b : Nat} (_ : H p = none) (e : xs = ratV r) (rb : RB b r) : TA (L2.upd H p (.tup xs)) p r b := ⟨by rw [upd_same, e], rb⟩
/-- a pair of the same share, told twice -/
def Two (H : Hp) (t : Addr) : Prop := ∃ (m y : Addr) (r : Rat) (b b' : Nat), H t = some (.tup [.ref m, .ref y]) ∧ TA H m r b ∧ TA H y r b'
theorem Two.same {H H' : Hp} {t : Addr} (h : Two H t) (s : Same H H') : Two H' t := by
  obtain ⟨m, y, r, b, b', e, h1, h2⟩ := h
  exact ⟨m, y, r, b, b', s _ _ e, h1.same s, h2.same s⟩
theorem Two.upd {H : Hp} {t P : Addr} {xs : List V} {o : HO} (h : Two H t) (e : H P = some (.lst xs)) : Two (upd H P o) t := by
  obtain ⟨m, y, r, b, b', e', h1, h2⟩ := h
  exact ⟨m, y, r, b, b', by rw [upd_ne (ne_of e' e (by intro z; cases z))]; exact e', h1.upd e, h2.upd e⟩
theorem Two.but {H H' : Hp} {h c t : Addr} {s k : Int} {cs : List Int} (q : Two H t) (B : But h c H H') (A : HAt H h c s k cs) : Two H' t := by
  obtain ⟨m, y, r, b, b', e, h1, h2⟩ := q
  exact ⟨m, y, r, b, b', B _ _ e (ne_of e A.h (by intro z; cases z)) (ne_of e A.c (by intro z; cases z)), h1.but B A, h2.but B A⟩
/-- the list of such pairs at P -/
structure Twos (H : Hp) (P : Addr) (L : List Addr) : Prop where
  l : H P = some (.lst (L.map V.ref))
  a : ∀ t, t ∈ L → Two H t
theorem Twos.same {H H' : Hp} {P : Addr} {L : List Addr} (h : Twos H P L) (s : Same H H') : Twos H' P L := ⟨s _ _ h.l, fun t m => (h.a t m).same s⟩
theorem Twos.app {H : Hp} {P t : Addr} {L : List Addr} (h : Twos H P L) (q : Two H t) : Twos (upd H P (.lst (L.map V.ref ++ [.ref t]))) P (L ++ [t]) := by
  refine ⟨by rw [upd_same, List.map_append]; rfl, fun t' m => ?_⟩
  rcases List.mem_append.mp m with m | m
  · exact (h.a t' m).upd h.l
  · have e : t' = t := by simpa using m
    subst e
    exact q.upd h.l
theorem Twos.but {H H' : Hp} {h c P : Addr} {L : List Addr} {s k : Int} {cs : List Int} (q : Twos H P L) (B : But h c H H') (A : HAt H h c s k cs) (n1 : P ≠ h) (n2 : P ≠ c) : Twos H' P L := ⟨B _ _ q.l n1 n2, fun t m => (q.a t m).but B A⟩
theorem lt1000 {L : List Addr} {n : Nat} (h : L.length = n) (hn : n ≤ 100) : (L.map V.ref).length < sizeLine := by
  rw [List.length_map, h]
  exact small1000 (by omega)
theorem scale {r : Rat} {n : Int} (h : n ≠ 0) : Rat.divInt (n * r.num) (n * (r.den : Int)) = r := by
  rw [Rat.divInt_mul_left h, Rat.num_divInt_den]
theorem unscale {r : Rat} {n : Int} (h : n ≠ 0) : Rat.divInt (0 - n * r.num) (0 - n * (r.den : Int)) = r := by
  rw [Int.zero_sub, Int.zero_sub, Rat.neg_divInt_neg, scale h]
theorem upside {r : Rat} (h : r.num ≠ 0) : r * Rat.divInt (r.den : Int) r.num = 1 := by
  conv => lhs; lhs; rw [← Rat.num_divInt_den r]
  rw [Rat.divInt_mul_divInt, Int.mul_comm]
  exact Rat.divInt_self' (Int.mul_ne_zero (den_ne r) h)
theorem sums11 : ∀ i : Nat, i < 11 → Rat.divInt (i : Int) ((i : Int) + 1) + Rat.divInt 1 ((1 + (i : Int)) * (1 + (i : Int) + 1)) = Rat.divInt (1 + (i : Int)) (1 + (i : Int) + 1) := by decide +kernel
theorem shapedT (x y : Int) : SeqAt.shaped (.tuple [.int x, .int y]) = true := by
  simp [SeqAt.shaped, PyData.canLay0, PyData.canLayAll0, PyData.depth, PyData.depthAll]
theorem eqvSelf (x y : Int) : (!PyData.eqv (.tuple [.int x, .int y]) (.tuple [.int x, .int y])) = false := by
  simp [PyData.eqv, PyData.eqvAll]
section
variable {P : Program} {w : World} {K : PySem.W.Frag} {mg : Str → Option Value} {base : Heap}
set_option maxHeartbeats 4000000 in
theorem ok_law {f : Addr} {fd : FuncData} (T : Txt K mg) (D : DefAt K mg "law" "law" s_law ["_law_script"] f fd) : FnOk P w K mg base CX0 4 f fd ["_law_script"] (spLaw K) := by
  obtain ⟨f1, fd1, D_law_next⟩ := T.d_law_next
  have G_law_next : FnOk P w K mg base CX0 1 f1 fd1 ["_law_h", "_law_many"] spNext := ok_law_next T D_law_next
  obtain ⟨f2, fd2, D_law_share⟩ := T.d_law_share
  have G_law_share : FnOk P w K mg base CX0 2 f2 fd2 ["_law_h"] spDrawn := ok_law_share T D_law_share
  obtain ⟨f3, fd3, D_law_lowest⟩ := T.d_law_lowest
  have G_law_lowest : FnOk P w K mg base CX0 1 f3 fd3 ["_law_one"] spLowest := ok_law_lowest T D_law_lowest
  obtain ⟨f4, fd4, D_share⟩ := T.d_share
  have G_share : FnOk P w K mg base CX0 1 f4 fd4 ["top", "bottom"] spShare := ok_share T D_share
  obtain ⟨f5, fd5, D_plus⟩ := T.d_plus
  have G_plus : FnOk P w K mg base CX0 2 f5 fd5 ["one", "other"] (spRat K (· + ·)) := ok_plus T D_plus
  obtain ⟨f6, fd6, D_minus⟩ := T.d_minus
  have G_minus : FnOk P w K mg base CX0 2 f6 fd6 ["one", "other"] (spRat K (· - ·)) := ok_minus T D_minus
  obtain ⟨f7, fd7, D_times⟩ := T.d_times
  have G_times : FnOk P w K mg base CX0 2 f7 fd7 ["one", "other"] (spRat K (· * ·)) := ok_times T D_times
  refine D.F.ok sc_law (fun vs H Q E h => ?_) (fun cdv A outer s H vs Q E hr h => ?_)
  · obtain ⟨a, ns, rfl, _⟩ := h
    rfl
  · obtain ⟨a0, ns, rfl, hS, hlen, q⟩ := h
    refine ⟨_, (pss_cons (ps_set (i := 1) sc_law.nd rfl (.inr rfl) (pe_lst (pa_cons pe_int (pa_cons (pe_callTy call_list_of (by rfl) T.m_list (by decide +kernel) (pa_cons (pv 0) pa_nil)) (pa_cons pe_int pa_nil)))))
      (pss_cons (ps_for PassesOwn.never rfl (pi_range1 rfl T.m_range (pa_cons pe_int pa_nil)) (pg_name (i := 2) sc_law.nd rfl (.inl rfl)) (pss_cons (ps_asg (pe_lc (own := [("_law_k", 3)]) (g := gName 3) (tt := tYes) rfl sc_law.nd (pi_range1 rfl T.m_range (pa_cons pe_int pa_nil)) (blkOk_by (own := [("_law_k", 3)]) (N := ["_law_script", "_law_h", "_law_time", "_law_k", "_law_one", "_law_two", "_law_three", "_law_pairs", "_law_many", "_law_mine", "_law_yours", "_law_total"]) (sc := defScope s_law) (by decide +kernel)) (fun _ _ _ _ _ => pg_name (i := 3) sc_law.nd rfl (.inl rfl)) (fun _ _ _ _ _ => pts_nil) (fun _ _ _ _ _ => (pe_call G_law_share (hr.mono (by decide)) (by rfl) D_law_share.g D_law_share.F.kp D_law_share.b .nil pass0 (pa_cons (pv 1) pa_nil)))) (pg_unl rfl (pgs_cons (pg_name (i := 4) sc_law.nd rfl (.inl rfl)) (pgs_cons (pg_name (i := 5) sc_law.nd rfl (.inl rfl)) (pgs_cons (pg_name (i := 6) sc_law.nd rfl (.inl rfl)) pgs_nil))))) (pss_cons (ps_set (i := 7) sc_law.nd rfl (.inl rfl) (pe_lst (pa_cons (pe_tup (pa_cons (pe_call G_plus (hr.mono (by decide)) (by rfl) D_plus.g D_plus.F.kp D_plus.b .nil pass0 (pa_cons (pv 4) (pa_cons (pv 5) pa_nil))) (pa_cons (pe_call G_plus (hr.mono (by decide)) (by rfl) D_plus.g D_plus.F.kp D_plus.b .nil pass0 (pa_cons (pv 5) (pa_cons (pv 4) pa_nil))) pa_nil))) (pa_cons (pe_tup (pa_cons (pe_call G_times (hr.mono (by decide)) (by rfl) D_times.g D_times.F.kp D_times.b .nil pass0 (pa_cons (pv 4) (pa_cons (pv 5) pa_nil))) (pa_cons (pe_call G_times (hr.mono (by decide)) (by rfl) D_times.g D_times.F.kp D_times.b .nil pass0 (pa_cons (pv 5) (pa_cons (pv 4) pa_nil))) pa_nil))) pa_nil)))) (pss_cons (ps_expr (pe_bm PySem.F.plainAttrs_list PySem.F.slot_list_append PySem.F.type_list_append mt_append (pv 7) (pa_cons (pe_tup (pa_cons (pe_call G_plus (hr.mono (by decide)) (by rfl) D_plus.g D_plus.F.kp D_plus.b .nil pass0 (pa_cons (pe_call G_plus (hr.mono (by decide)) (by rfl) D_plus.g D_plus.F.kp D_plus.b .nil pass0 (pa_cons (pv 4) (pa_cons (pv 5) pa_nil))) (pa_cons (pv 6) pa_nil))) (pa_cons (pe_call G_plus (hr.mono (by decide)) (by rfl) D_plus.g D_plus.F.kp D_plus.b .nil pass0 (pa_cons (pv 4) (pa_cons (pe_call G_plus (hr.mono (by decide)) (by rfl) D_plus.g D_plus.F.kp D_plus.b .nil pass0 (pa_cons (pv 5) (pa_cons (pv 6) pa_nil))) pa_nil))) pa_nil))) pa_nil))) (pss_cons (ps_expr (pe_bm PySem.F.plainAttrs_list PySem.F.slot_list_append PySem.F.type_list_append mt_append (pv 7) (pa_cons (pe_tup (pa_cons (pe_call G_times (hr.mono (by decide)) (by rfl) D_times.g D_times.F.kp D_times.b .nil pass0 (pa_cons (pe_call G_times (hr.mono (by decide)) (by rfl) D_times.g D_times.F.kp D_times.b .nil pass0 (pa_cons (pv 4) (pa_cons (pv 5) pa_nil))) (pa_cons (pv 6) pa_nil))) (pa_cons (pe_call G_times (hr.mono (by decide)) (by rfl) D_times.g D_times.F.kp D_times.b .nil pass0 (pa_cons (pv 4) (pa_cons (pe_call G_times (hr.mono (by decide)) (by rfl) D_times.g D_times.F.kp D_times.b .nil pass0 (pa_cons (pv 5) (pa_cons (pv 6) pa_nil))) pa_nil))) pa_nil))) pa_nil))) (pss_cons (ps_expr (pe_bm PySem.F.plainAttrs_list PySem.F.slot_list_append PySem.F.type_list_append mt_append (pv 7) (pa_cons (pe_tup (pa_cons (pe_call G_times (hr.mono (by decide)) (by rfl) D_times.g D_times.F.kp D_times.b .nil pass0 (pa_cons (pv 4) (pa_cons (pe_call G_plus (hr.mono (by decide)) (by rfl) D_plus.g D_plus.F.kp D_plus.b .nil pass0 (pa_cons (pv 5) (pa_cons (pv 6) pa_nil))) pa_nil))) (pa_cons (pe_call G_plus (hr.mono (by decide)) (by rfl) D_plus.g D_plus.F.kp D_plus.b .nil pass0 (pa_cons (pe_call G_times (hr.mono (by decide)) (by rfl) D_times.g D_times.F.kp D_times.b .nil pass0 (pa_cons (pv 4) (pa_cons (pv 5) pa_nil))) (pa_cons (pe_call G_times (hr.mono (by decide)) (by rfl) D_times.g D_times.F.kp D_times.b .nil pass0 (pa_cons (pv 4) (pa_cons (pv 6) pa_nil))) pa_nil))) pa_nil))) pa_nil))) (pss_cons (ps_expr (pe_bm PySem.F.plainAttrs_list PySem.F.slot_list_append PySem.F.type_list_append mt_append (pv 7) (pa_cons (pe_tup (pa_cons (pe_call G_minus (hr.mono (by decide)) (by rfl) D_minus.g D_minus.F.kp D_minus.b .nil pass0 (pa_cons (pv 4) (pa_cons (pv 5) pa_nil))) (pa_cons (pe_call G_plus (hr.mono (by decide)) (by rfl) D_plus.g D_plus.F.kp D_plus.b .nil pass0 (pa_cons (pv 4) (pa_cons (pe_call G_times (hr.mono (by decide)) (by rfl) D_times.g D_times.F.kp D_times.b .nil pass0 (pa_cons (pe_tup (pa_cons (pe_un un_neg pe_int) (pa_cons pe_int pa_nil))) (pa_cons (pv 5) pa_nil))) pa_nil))) pa_nil))) pa_nil))) (pss_cons (ps_expr (pe_bm PySem.F.plainAttrs_list PySem.F.slot_list_append PySem.F.type_list_append mt_append (pv 7) (pa_cons (pe_tup (pa_cons (pe_call G_minus (hr.mono (by decide)) (by rfl) D_minus.g D_minus.F.kp D_minus.b .nil pass0 (pa_cons (pe_call G_plus (hr.mono (by decide)) (by rfl) D_plus.g D_plus.F.kp D_plus.b .nil pass0 (pa_cons (pv 4) (pa_cons (pv 5) pa_nil))) (pa_cons (pv 5) pa_nil))) (pa_cons (pv 4) pa_nil))) pa_nil))) (pss_cons (ps_expr (pe_bm PySem.F.plainAttrs_list PySem.F.slot_list_append PySem.F.type_list_append mt_append (pv 7) (pa_cons (pe_tup (pa_cons (pe_call G_minus (hr.mono (by decide)) (by rfl) D_minus.g D_minus.F.kp D_minus.b .nil pass0 (pa_cons (pe_call G_times (hr.mono (by decide)) (by rfl) D_times.g D_times.F.kp D_times.b .nil pass0 (pa_cons (pv 4) (pa_cons (pv 4) pa_nil))) (pa_cons (pe_call G_times (hr.mono (by decide)) (by rfl) D_times.g D_times.F.kp D_times.b .nil pass0 (pa_cons (pv 5) (pa_cons (pv 5) pa_nil))) pa_nil))) (pa_cons (pe_call G_times (hr.mono (by decide)) (by rfl) D_times.g D_times.F.kp D_times.b .nil pass0 (pa_cons (pe_call G_plus (hr.mono (by decide)) (by rfl) D_plus.g D_plus.F.kp D_plus.b .nil pass0 (pa_cons (pv 4) (pa_cons (pv 5) pa_nil))) (pa_cons (pe_call G_minus (hr.mono (by decide)) (by rfl) D_minus.g D_minus.F.kp D_minus.b .nil pass0 (pa_cons (pv 4) (pa_cons (pv 5) pa_nil))) pa_nil))) pa_nil))) pa_nil))) (pss_cons (ps_set (i := 8) sc_law.nd rfl (.inl rfl) (pe_op op_add pe_int (pe_call G_law_next (hr.mono (by decide)) (by rfl) D_law_next.g D_law_next.F.kp D_law_next.b .nil pass0 (pa_cons (pv 1) (pa_cons pe_int pa_nil))))) (pss_cons (ps_expr (pe_bm PySem.F.plainAttrs_list PySem.F.slot_list_append PySem.F.type_list_append mt_append (pv 7) (pa_cons (pe_tup (pa_cons (pe_call G_share (hr.mono (by decide)) (by rfl) D_share.g D_share.F.kp D_share.b .nil pass0 (pa_cons (pe_op op_mulW (pv 8) (pe_ix ix_tup (pv 4) pe_int (fun _ _ => rfl))) (pa_cons (pe_op op_mulW (pv 8) (pe_ix ix_tup (pv 4) pe_int (fun _ _ => rfl))) pa_nil))) (pa_cons (pv 4) pa_nil))) pa_nil))) (pss_cons (ps_expr (pe_bm PySem.F.plainAttrs_list PySem.F.slot_list_append PySem.F.type_list_append mt_append (pv 7) (pa_cons (pe_tup (pa_cons (pe_call G_share (hr.mono (by decide)) (by rfl) D_share.g D_share.F.kp D_share.b .nil pass0 (pa_cons (pe_op op_sub pe_int (pe_op op_mulW (pv 8) (pe_ix ix_tup (pv 4) pe_int (fun _ _ => rfl)))) (pa_cons (pe_op op_sub pe_int (pe_op op_mulW (pv 8) (pe_ix ix_tup (pv 4) pe_int (fun _ _ => rfl)))) pa_nil))) (pa_cons (pv 4) pa_nil))) pa_nil))) (pss_cons (ps_expr (pe_bm PySem.F.plainAttrs_list PySem.F.slot_list_append PySem.F.type_list_append mt_append (pv 7) (pa_cons (pe_tup (pa_cons (pe_call G_minus (hr.mono (by decide)) (by rfl) D_minus.g D_minus.F.kp D_minus.b .nil pass0 (pa_cons (pv 4) (pa_cons (pv 4) pa_nil))) (pa_cons (pe_tup (pa_cons pe_int (pa_cons pe_int pa_nil))) pa_nil))) pa_nil))) (pss_cons (ps_if (pt_cmpR op_ne (pe_ix ix_tup (pv 4) pe_int (fun _ _ => rfl)) pe_int (nomark _)) (pss_one (ps_expr (pe_bm PySem.F.plainAttrs_list PySem.F.slot_list_append PySem.F.type_list_append mt_append (pv 7) (pa_cons (pe_tup (pa_cons (pe_call G_times (hr.mono (by decide)) (by rfl) D_times.g D_times.F.kp D_times.b .nil pass0 (pa_cons (pv 4) (pa_cons (pe_call G_share (hr.mono (by decide)) (by rfl) D_share.g D_share.F.kp D_share.b .nil pass0 (pa_cons (pe_ix ix_tup (pv 4) pe_int (fun _ _ => rfl)) (pa_cons (pe_ix ix_tup (pv 4) pe_int (fun _ _ => rfl)) pa_nil))) pa_nil))) (pa_cons (pe_tup (pa_cons pe_int (pa_cons pe_int pa_nil))) pa_nil))) pa_nil)))) pss_nil) (pss_cons (ps_for PassesOwn.never rfl (pi_list (pv 7)) (pg_tup (by rfl) (pgs_cons (pg_name (i := 9) sc_law.nd rfl (.inl rfl)) (pgs_cons (pg_name (i := 10) sc_law.nd rfl (.inl rfl)) pgs_nil))) (pss_one (ps_if (PW.pt (pw_or (pt_cmpR (op_neD hr.units) (pv 9) (pv 10) (nomark _)) (pw_or (pt_not (pt_val (pe_call G_law_lowest (hr.mono (by decide)) (by rfl) D_law_lowest.g D_law_lowest.F.kp D_law_lowest.b .nil pass0 (pa_cons (pv 9) pa_nil)))) (pw_or1 (pt_not (pt_val (pe_callB call_isi (by rfl) T.m_isinstance (by decide +kernel) (pa_cons (pv 9) (pa_cons (pe_bltn (v := .ty "tuple") (by rfl) T.m_tuple (by decide +kernel) rfl) pa_nil))))))))) (pss_one (ps_ret pe_bl)) pss_nil))) (pss_cons (ps_set (i := 11) sc_law.nd rfl (.inl rfl) (pe_tup (pa_cons pe_int (pa_cons pe_int pa_nil)))) (pss_one (ps_for PassesOwn.never rfl (pi_range2 rfl T.m_range (pa_cons pe_int (pa_cons pe_int pa_nil))) (pg_name (i := 3) sc_law.nd rfl (.inl rfl)) (pss_cons (ps_set (i := 11) sc_law.nd rfl (.inl rfl) (pe_call G_plus (hr.mono (by decide)) (by rfl) D_plus.g D_plus.F.kp D_plus.b .nil pass0 (pa_cons (pv 11) (pa_cons (pe_call G_share (hr.mono (by decide)) (by rfl) D_share.g D_share.F.kp D_share.b .nil pass0 (pa_cons pe_int (pa_cons (pe_op op_mulW (pv 3) (pe_op op_add (pv 3) pe_int)) pa_nil))) pa_nil)))) (pss_one (ps_if (pt_cmpR (op_neD hr.units) (pv 11) (pe_call G_share (hr.mono (by decide)) (by rfl) D_share.g D_share.F.kp D_share.b .nil pass0 (pa_cons (pv 3) (pa_cons (pe_op op_add (pv 3) pe_int) pa_nil))) (nomark _)) (pss_one (ps_ret pe_bl)) pss_nil)))))))))))))))))))))
      (pss_one (ps_ret pe_bl)))), ?_⟩
    refine ⟨_, rfl, a0, _, rfl, .inl hS, fun c hc => ⟨(by show 3 ≤ sizeLine; decide), fun h hh => ?_⟩⟩
    have A0 : HAt (upd (upd H c (.lst (ns.map V.int))) h (.lst [.int 167, .ref c, .int 0])) h c 167 0 ns := by
      have nhc : c ≠ h := ne_of_none upd_same hh
      exact ⟨upd_same, by rw [upd_ne nhc]; exact upd_same, hlen⟩
    refine ⟨6, rfl, by decide, by decide, for_range (n := 6) (fun i σ H2 => ∃ (v2 v3 v4 v5 v6 v7 v8 v9 v10 v11 : Option V) (s k : Int) (cs : List Int), σ = [some (.ref a0), some (.ref h), v2, v3, v4, v5, v6, v7, v8, v9, v10, v11] ∧ HAt H2 h c s k cs) ⟨none, none, none, none, none, none, none, none, none, none, _, _, _, rfl, A0⟩ ?_ (fun _ _ _ => q _)⟩
    rintro i σ H2 hi ⟨v2, v3, v4, v5, v6, v7, v8, v9, v10, v11, s1, k1, cs1, rfl, A⟩
    -- three shares
    refine ⟨3, rfl, by decide, by decide, fun D nD => lc_range (lo := 0) (n := 3) (fun i H3 => ∃ (s k : Int) (cs : List Int) (ts : List (Addr × Rat)), HAt H3 h c s k cs ∧ ts.length = i ∧ H3 D = some (.lst (ts.map fun x => V.ref x.1)) ∧ ∀ x, x ∈ ts → TA H3 x.1 x.2 31) ⟨_, _, _, [], A.same (same_upd nD), rfl, upd_same, fun _ z => nomatch z⟩ ?_ ?_⟩
    · intro i H3 hi3 ⟨s3, k3, cs3, ts, A3, hl, hD, ht⟩
      have nDh : D ≠ h := (ne_of_none A.h nD).symm
      have nDc : D ≠ c := (ne_of_none A.c nD).symm
      refine ⟨rfl, _, rfl, h, c, _, _, _, rfl, A3, fun s4 k4 cs4 p r H4 tp A4 B4 => ?_⟩
      refine ⟨_, B4 _ _ hD nDh nDc, ?_, _, _, _, ts ++ [(p, r)], A4.set nDh nDc, by rw [List.length_append, hl]; rfl, by rw [upd_same, List.map_append]; rfl, fun x m => ?_⟩
      · rw [List.length_map, hl]
        exact small1000 (by omega)
      · have e := B4 _ _ hD nDh nDc
        rcases List.mem_append.mp m with m | m
        · exact ((ht x m).but B4 A3).upd e
        · have ex : x = (p, r) := by simpa using m
          subst ex
          exact tp.upd e
    · rintro H0 ⟨s3, k3, cs3, ts, A, hl, hD, ht⟩
      obtain ⟨⟨x1, a⟩, ⟨x2, b⟩, ⟨x3, c'⟩, rfl⟩ : ∃ x y z, ts = [x, y, z] := by
        match ts, hl with
        | [x, y, z], _ => exact ⟨x, y, z, rfl⟩
      have t1 : TA H0 x1 a 31 := ht (x1, a) (by simp)
      have t2 : TA H0 x2 b 31 := ht (x2, b) (by simp)
      have t3 : TA H0 x3 c' 31 := ht (x3, c') (by simp)
      clear ht
      refine ⟨D, [.ref x1, .ref x2, .ref x3], rfl, SqL.of hD, rfl, _, _, rfl, _, _, rfl, _, [], rfl, rfl, ?_⟩
      clear hD
      refine ⟨_, rfl, _, rfl, x1, x2, _, _, 31, 31, rfl, SqT.of t1.1, SqT.of t2.1, t1.2, t2.2, by decide, by decide, by decide, fun o1 Hq1 sm1 no1 eo1 => ?_⟩
      have A := A.same sm1
      have t1 := t1.same sm1
      have t2 := t2.same sm1
      have t3 := t3.same sm1
      have t_1 : TA Hq1 o1 (a + b) 63 := ⟨eo1, t1.2.add t2.2⟩
      refine ⟨_, rfl, _, rfl, x2, x1, _, _, 31, 31, rfl, SqT.of t2.1, SqT.of t1.1, t2.2, t1.2, by decide, by decide, by decide, fun o2 Hq2 sm2 no2 eo2 => ?_⟩
      have A := A.same sm2
      have t1 := t1.same sm2
      have t2 := t2.same sm2
      have t3 := t3.same sm2
      have t_1 := t_1.same sm2
      have t_2 : TA Hq2 o2 (b + a) 63 := ⟨eo2, t2.2.add t1.2⟩
      refine ⟨(by show 2 ≤ sizeLine; decide), fun o3 no3 => ?_⟩
      have sm3 := same_upd (o := .tup [.ref o1, .ref o2]) no3
      have A := A.same sm3
      have t1 := t1.same sm3
      have t2 := t2.same sm3
      have t3 := t3.same sm3
      have t_1 := t_1.same sm3
      have t_2 := t_2.same sm3
      have p_3 : Two _ o3 := ⟨o1, o2, (a + b), 63, 63, upd_same, t_1, by first | exact t_2 | exact (show ((b + a) : Rat) = (a + b) by grind) ▸ t_2⟩
      refine ⟨_, rfl, _, rfl, x1, x2, _, _, 31, 31, rfl, SqT.of t1.1, SqT.of t2.1, t1.2, t2.2, by decide, by decide, by decide, fun o4 Hq4 sm4 no4 eo4 => ?_⟩
      have A := A.same sm4
      have t1 := t1.same sm4
      have t2 := t2.same sm4
      have t3 := t3.same sm4
      have p_3 := p_3.same sm4
      have t_4 : TA Hq4 o4 (a * b) 62 := ⟨eo4, t1.2.mul t2.2⟩
      refine ⟨_, rfl, _, rfl, x2, x1, _, _, 31, 31, rfl, SqT.of t2.1, SqT.of t1.1, t2.2, t1.2, by decide, by decide, by decide, fun o5 Hq5 sm5 no5 eo5 => ?_⟩
      have A := A.same sm5
      have t1 := t1.same sm5
      have t2 := t2.same sm5
      have t3 := t3.same sm5
      have p_3 := p_3.same sm5
      have t_4 := t_4.same sm5
      have t_5 : TA Hq5 o5 (b * a) 62 := ⟨eo5, t2.2.mul t1.2⟩
      refine ⟨(by show 2 ≤ sizeLine; decide), fun o6 no6 => ?_⟩
      have sm6 := same_upd (o := .tup [.ref o4, .ref o5]) no6
      have A := A.same sm6
      have t1 := t1.same sm6
      have t2 := t2.same sm6
      have t3 := t3.same sm6
      have p_3 := p_3.same sm6
      have t_4 := t_4.same sm6
      have t_5 := t_5.same sm6
      have p_6 : Two _ o6 := ⟨o4, o5, (a * b), 62, 62, upd_same, t_4, by first | exact t_5 | exact (show ((b * a) : Rat) = (a * b) by grind) ▸ t_5⟩
      refine ⟨(by show 2 ≤ sizeLine; decide), fun P nP => ?_⟩
      have nPh : P ≠ h := (ne_of_none A.h nP).symm
      have nPc : P ≠ c := (ne_of_none A.c nP).symm
      have smP := same_upd (o := .lst [.ref o3, .ref o6]) nP
      have A := A.same smP
      have t1 := t1.same smP
      have t2 := t2.same smP
      have t3 := t3.same smP
      have p_3 := p_3.same smP
      have p_6 := p_6.same smP
      have W : Twos _ P [o3, o6] := ⟨upd_same, fun t m => by
        rcases (by simpa using m : t = o3 ∨ t = o6) with rfl | rfl
        · exact p_3
        · exact p_6⟩
      refine ⟨_, rfl, .inl ⟨rfl, _, SqL.of W.l⟩, _, rfl, _, rfl, x1, x2, _, _, 31, 31, rfl, SqT.of t1.1, SqT.of t2.1, t1.2, t2.2, by decide, by decide, by decide, fun o7 Hq7 sm7 no7 eo7 => ?_⟩
      have A := A.same sm7
      have t1 := t1.same sm7
      have t2 := t2.same sm7
      have t3 := t3.same sm7
      have W := W.same sm7
      have t_7 : TA Hq7 o7 (a + b) 63 := ⟨eo7, t1.2.add t2.2⟩
      refine ⟨_, rfl, o7, x3, _, _, 63, 31, rfl, SqT.of t_7.1, SqT.of t3.1, t_7.2, t3.2, by decide, by decide, by decide, fun o8 Hq8 sm8 no8 eo8 => ?_⟩
      have A := A.same sm8
      have t1 := t1.same sm8
      have t2 := t2.same sm8
      have t3 := t3.same sm8
      have W := W.same sm8
      have t_7 := t_7.same sm8
      have t_8 : TA Hq8 o8 ((a + b) + c') 95 := ⟨eo8, t_7.2.add t3.2⟩
      refine ⟨_, rfl, _, rfl, _, rfl, x2, x3, _, _, 31, 31, rfl, SqT.of t2.1, SqT.of t3.1, t2.2, t3.2, by decide, by decide, by decide, fun o9 Hq9 sm9 no9 eo9 => ?_⟩
      have A := A.same sm9
      have t1 := t1.same sm9
      have t2 := t2.same sm9
      have t3 := t3.same sm9
      have W := W.same sm9
      have t_7 := t_7.same sm9
      have t_8 := t_8.same sm9
      have t_9 : TA Hq9 o9 (b + c') 63 := ⟨eo9, t2.2.add t3.2⟩
      refine ⟨x1, o9, _, _, 31, 63, rfl, SqT.of t1.1, SqT.of t_9.1, t1.2, t_9.2, by decide, by decide, by decide, fun o10 Hq10 sm10 no10 eo10 => ?_⟩
      have A := A.same sm10
      have t1 := t1.same sm10
      have t2 := t2.same sm10
      have t3 := t3.same sm10
      have W := W.same sm10
      have t_7 := t_7.same sm10
      have t_8 := t_8.same sm10
      have t_9 := t_9.same sm10
      have t_10 : TA Hq10 o10 (a + (b + c')) 95 := ⟨eo10, t1.2.add t_9.2⟩
      refine ⟨(by show 2 ≤ sizeLine; decide), fun o11 no11 => ?_⟩
      have sm11 := same_upd (o := .tup [.ref o8, .ref o10]) no11
      have A := A.same sm11
      have t1 := t1.same sm11
      have t2 := t2.same sm11
      have t3 := t3.same sm11
      have W := W.same sm11
      have t_7 := t_7.same sm11
      have t_8 := t_8.same sm11
      have t_9 := t_9.same sm11
      have t_10 := t_10.same sm11
      have p_11 : Two _ o11 := ⟨o8, o10, ((a + b) + c'), 95, 95, upd_same, t_8, by first | exact t_10 | exact (show ((a + (b + c')) : Rat) = ((a + b) + c') by grind) ▸ t_10⟩
      refine ⟨P, _, _, rfl, rfl, W.l, lt1000 (n := 2) rfl (by decide), ?_⟩
      have t1 := t1.upd (o := .lst ([o3, o6].map V.ref ++ [.ref o11])) W.l
      have t2 := t2.upd (o := .lst ([o3, o6].map V.ref ++ [.ref o11])) W.l
      have t3 := t3.upd (o := .lst ([o3, o6].map V.ref ++ [.ref o11])) W.l
      have A := A.set (o := .lst ([o3, o6].map V.ref ++ [.ref o11])) nPh nPc
      have W := W.app p_11
      refine ⟨_, rfl, .inl ⟨rfl, _, SqL.of W.l⟩, _, rfl, _, rfl, x1, x2, _, _, 31, 31, rfl, SqT.of t1.1, SqT.of t2.1, t1.2, t2.2, by decide, by decide, by decide, fun o12 Hq12 sm12 no12 eo12 => ?_⟩
      have A := A.same sm12
      have t1 := t1.same sm12
      have t2 := t2.same sm12
      have t3 := t3.same sm12
      have W := W.same sm12
      have t_12 : TA Hq12 o12 (a * b) 62 := ⟨eo12, t1.2.mul t2.2⟩
      refine ⟨_, rfl, o12, x3, _, _, 62, 31, rfl, SqT.of t_12.1, SqT.of t3.1, t_12.2, t3.2, by decide, by decide, by decide, fun o13 Hq13 sm13 no13 eo13 => ?_⟩
      have A := A.same sm13
      have t1 := t1.same sm13
      have t2 := t2.same sm13
      have t3 := t3.same sm13
      have W := W.same sm13
      have t_12 := t_12.same sm13
      have t_13 : TA Hq13 o13 ((a * b) * c') 93 := ⟨eo13, t_12.2.mul t3.2⟩
      refine ⟨_, rfl, _, rfl, _, rfl, x2, x3, _, _, 31, 31, rfl, SqT.of t2.1, SqT.of t3.1, t2.2, t3.2, by decide, by decide, by decide, fun o14 Hq14 sm14 no14 eo14 => ?_⟩
      have A := A.same sm14
      have t1 := t1.same sm14
      have t2 := t2.same sm14
      have t3 := t3.same sm14
      have W := W.same sm14
      have t_12 := t_12.same sm14
      have t_13 := t_13.same sm14
      have t_14 : TA Hq14 o14 (b * c') 62 := ⟨eo14, t2.2.mul t3.2⟩
      refine ⟨x1, o14, _, _, 31, 62, rfl, SqT.of t1.1, SqT.of t_14.1, t1.2, t_14.2, by decide, by decide, by decide, fun o15 Hq15 sm15 no15 eo15 => ?_⟩
      have A := A.same sm15
      have t1 := t1.same sm15
      have t2 := t2.same sm15
      have t3 := t3.same sm15
      have W := W.same sm15
      have t_12 := t_12.same sm15
      have t_13 := t_13.same sm15
      have t_14 := t_14.same sm15
      have t_15 : TA Hq15 o15 (a * (b * c')) 93 := ⟨eo15, t1.2.mul t_14.2⟩
      refine ⟨(by show 2 ≤ sizeLine; decide), fun o16 no16 => ?_⟩
      have sm16 := same_upd (o := .tup [.ref o13, .ref o15]) no16
      have A := A.same sm16
      have t1 := t1.same sm16
      have t2 := t2.same sm16
      have t3 := t3.same sm16
      have W := W.same sm16
      have t_12 := t_12.same sm16
      have t_13 := t_13.same sm16
      have t_14 := t_14.same sm16
      have t_15 := t_15.same sm16
      have p_16 : Two _ o16 := ⟨o13, o15, ((a * b) * c'), 93, 93, upd_same, t_13, by first | exact t_15 | exact (show ((a * (b * c')) : Rat) = ((a * b) * c') by grind) ▸ t_15⟩
      refine ⟨P, _, _, rfl, rfl, W.l, lt1000 (n := 3) rfl (by decide), ?_⟩
      have t1 := t1.upd (o := .lst ([o3, o6, o11].map V.ref ++ [.ref o16])) W.l
      have t2 := t2.upd (o := .lst ([o3, o6, o11].map V.ref ++ [.ref o16])) W.l
      have t3 := t3.upd (o := .lst ([o3, o6, o11].map V.ref ++ [.ref o16])) W.l
      have A := A.set (o := .lst ([o3, o6, o11].map V.ref ++ [.ref o16])) nPh nPc
      have W := W.app p_16
      refine ⟨_, rfl, .inl ⟨rfl, _, SqL.of W.l⟩, _, rfl, _, rfl, _, rfl, x2, x3, _, _, 31, 31, rfl, SqT.of t2.1, SqT.of t3.1, t2.2, t3.2, by decide, by decide, by decide, fun o17 Hq17 sm17 no17 eo17 => ?_⟩
      have A := A.same sm17
      have t1 := t1.same sm17
      have t2 := t2.same sm17
      have t3 := t3.same sm17
      have W := W.same sm17
      have t_17 : TA Hq17 o17 (b + c') 63 := ⟨eo17, t2.2.add t3.2⟩
      refine ⟨x1, o17, _, _, 31, 63, rfl, SqT.of t1.1, SqT.of t_17.1, t1.2, t_17.2, by decide, by decide, by decide, fun o18 Hq18 sm18 no18 eo18 => ?_⟩
      have A := A.same sm18
      have t1 := t1.same sm18
      have t2 := t2.same sm18
      have t3 := t3.same sm18
      have W := W.same sm18
      have t_17 := t_17.same sm18
      have t_18 : TA Hq18 o18 (a * (b + c')) 94 := ⟨eo18, t1.2.mul t_17.2⟩
      refine ⟨_, rfl, _, rfl, x1, x2, _, _, 31, 31, rfl, SqT.of t1.1, SqT.of t2.1, t1.2, t2.2, by decide, by decide, by decide, fun o19 Hq19 sm19 no19 eo19 => ?_⟩
      have A := A.same sm19
      have t1 := t1.same sm19
      have t2 := t2.same sm19
      have t3 := t3.same sm19
      have W := W.same sm19
      have t_17 := t_17.same sm19
      have t_18 := t_18.same sm19
      have t_19 : TA Hq19 o19 (a * b) 62 := ⟨eo19, t1.2.mul t2.2⟩
      refine ⟨_, rfl, _, rfl, x1, x3, _, _, 31, 31, rfl, SqT.of t1.1, SqT.of t3.1, t1.2, t3.2, by decide, by decide, by decide, fun o20 Hq20 sm20 no20 eo20 => ?_⟩
      have A := A.same sm20
      have t1 := t1.same sm20
      have t2 := t2.same sm20
      have t3 := t3.same sm20
      have W := W.same sm20
      have t_17 := t_17.same sm20
      have t_18 := t_18.same sm20
      have t_19 := t_19.same sm20
      have t_20 : TA Hq20 o20 (a * c') 62 := ⟨eo20, t1.2.mul t3.2⟩
      refine ⟨o19, o20, _, _, 62, 62, rfl, SqT.of t_19.1, SqT.of t_20.1, t_19.2, t_20.2, by decide, by decide, by decide, fun o21 Hq21 sm21 no21 eo21 => ?_⟩
      have A := A.same sm21
      have t1 := t1.same sm21
      have t2 := t2.same sm21
      have t3 := t3.same sm21
      have W := W.same sm21
      have t_17 := t_17.same sm21
      have t_18 := t_18.same sm21
      have t_19 := t_19.same sm21
      have t_20 := t_20.same sm21
      have t_21 : TA Hq21 o21 ((a * b) + (a * c')) 125 := ⟨eo21, t_19.2.add t_20.2⟩
      refine ⟨(by show 2 ≤ sizeLine; decide), fun o22 no22 => ?_⟩
      have sm22 := same_upd (o := .tup [.ref o18, .ref o21]) no22
      have A := A.same sm22
      have t1 := t1.same sm22
      have t2 := t2.same sm22
      have t3 := t3.same sm22
      have W := W.same sm22
      have t_17 := t_17.same sm22
      have t_18 := t_18.same sm22
      have t_19 := t_19.same sm22
      have t_20 := t_20.same sm22
      have t_21 := t_21.same sm22
      have p_22 : Two _ o22 := ⟨o18, o21, (a * (b + c')), 94, 125, upd_same, t_18, by first | exact t_21 | exact (show (((a * b) + (a * c')) : Rat) = (a * (b + c')) by grind) ▸ t_21⟩
      refine ⟨P, _, _, rfl, rfl, W.l, lt1000 (n := 4) rfl (by decide), ?_⟩
      have t1 := t1.upd (o := .lst ([o3, o6, o11, o16].map V.ref ++ [.ref o22])) W.l
      have t2 := t2.upd (o := .lst ([o3, o6, o11, o16].map V.ref ++ [.ref o22])) W.l
      have t3 := t3.upd (o := .lst ([o3, o6, o11, o16].map V.ref ++ [.ref o22])) W.l
      have A := A.set (o := .lst ([o3, o6, o11, o16].map V.ref ++ [.ref o22])) nPh nPc
      have W := W.app p_22
      refine ⟨_, rfl, .inl ⟨rfl, _, SqL.of W.l⟩, _, rfl, _, rfl, x1, x2, _, _, 31, 31, rfl, SqT.of t1.1, SqT.of t2.1, t1.2, t2.2, by decide, by decide, by decide, fun o23 Hq23 sm23 no23 eo23 => ?_⟩
      have A := A.same sm23
      have t1 := t1.same sm23
      have t2 := t2.same sm23
      have t3 := t3.same sm23
      have W := W.same sm23
      have t_23 : TA Hq23 o23 (a - b) 63 := ⟨eo23, t1.2.sub t2.2⟩
      refine ⟨_, rfl, _, rfl, (by show 2 ≤ sizeLine; decide), fun o24 no24 => ?_⟩
      have sm24 := same_upd (o := .tup [.int (-1), .int (1)]) no24
      have A := A.same sm24
      have t1 := t1.same sm24
      have t2 := t2.same sm24
      have t3 := t3.same sm24
      have W := W.same sm24
      have t_23 := t_23.same sm24
      have t_24 := TA.new (xs := [.int (-1), .int (1)]) (r := ((-1) : Rat)) (b := 2) no24 rfl ⟨by decide, by decide⟩
      refine ⟨_, rfl, o24, x2, _, _, 2, 31, rfl, SqT.of t_24.1, SqT.of t2.1, t_24.2, t2.2, by decide, by decide, by decide, fun o25 Hq25 sm25 no25 eo25 => ?_⟩
      have A := A.same sm25
      have t1 := t1.same sm25
      have t2 := t2.same sm25
      have t3 := t3.same sm25
      have W := W.same sm25
      have t_23 := t_23.same sm25
      have t_24 := t_24.same sm25
      have t_25 : TA Hq25 o25 (((-1) : Rat) * b) 33 := ⟨eo25, t_24.2.mul t2.2⟩
      refine ⟨x1, o25, _, _, 31, 33, rfl, SqT.of t1.1, SqT.of t_25.1, t1.2, t_25.2, by decide, by decide, by decide, fun o26 Hq26 sm26 no26 eo26 => ?_⟩
      have A := A.same sm26
      have t1 := t1.same sm26
      have t2 := t2.same sm26
      have t3 := t3.same sm26
      have W := W.same sm26
      have t_23 := t_23.same sm26
      have t_24 := t_24.same sm26
      have t_25 := t_25.same sm26
      have t_26 : TA Hq26 o26 (a + (((-1) : Rat) * b)) 65 := ⟨eo26, t1.2.add t_25.2⟩
      refine ⟨(by show 2 ≤ sizeLine; decide), fun o27 no27 => ?_⟩
      have sm27 := same_upd (o := .tup [.ref o23, .ref o26]) no27
      have A := A.same sm27
      have t1 := t1.same sm27
      have t2 := t2.same sm27
      have t3 := t3.same sm27
      have W := W.same sm27
      have t_23 := t_23.same sm27
      have t_24 := t_24.same sm27
      have t_25 := t_25.same sm27
      have t_26 := t_26.same sm27
      have p_27 : Two _ o27 := ⟨o23, o26, (a - b), 63, 65, upd_same, t_23, by first | exact t_26 | exact (show ((a + (((-1) : Rat) * b)) : Rat) = (a - b) by grind) ▸ t_26⟩
      refine ⟨P, _, _, rfl, rfl, W.l, lt1000 (n := 5) rfl (by decide), ?_⟩
      have t1 := t1.upd (o := .lst ([o3, o6, o11, o16, o22].map V.ref ++ [.ref o27])) W.l
      have t2 := t2.upd (o := .lst ([o3, o6, o11, o16, o22].map V.ref ++ [.ref o27])) W.l
      have t3 := t3.upd (o := .lst ([o3, o6, o11, o16, o22].map V.ref ++ [.ref o27])) W.l
      have A := A.set (o := .lst ([o3, o6, o11, o16, o22].map V.ref ++ [.ref o27])) nPh nPc
      have W := W.app p_27
      refine ⟨_, rfl, .inl ⟨rfl, _, SqL.of W.l⟩, _, rfl, _, rfl, x1, x2, _, _, 31, 31, rfl, SqT.of t1.1, SqT.of t2.1, t1.2, t2.2, by decide, by decide, by decide, fun o28 Hq28 sm28 no28 eo28 => ?_⟩
      have A := A.same sm28
      have t1 := t1.same sm28
      have t2 := t2.same sm28
      have t3 := t3.same sm28
      have W := W.same sm28
      have t_28 : TA Hq28 o28 (a + b) 63 := ⟨eo28, t1.2.add t2.2⟩
      refine ⟨_, rfl, o28, x2, _, _, 63, 31, rfl, SqT.of t_28.1, SqT.of t2.1, t_28.2, t2.2, by decide, by decide, by decide, fun o29 Hq29 sm29 no29 eo29 => ?_⟩
      have A := A.same sm29
      have t1 := t1.same sm29
      have t2 := t2.same sm29
      have t3 := t3.same sm29
      have W := W.same sm29
      have t_28 := t_28.same sm29
      have t_29 : TA Hq29 o29 ((a + b) - b) 95 := ⟨eo29, t_28.2.sub t2.2⟩
      refine ⟨_, rfl, (by show 2 ≤ sizeLine; decide), fun o30 no30 => ?_⟩
      have sm30 := same_upd (o := .tup [.ref o29, .ref x1]) no30
      have A := A.same sm30
      have t1 := t1.same sm30
      have t2 := t2.same sm30
      have t3 := t3.same sm30
      have W := W.same sm30
      have t_28 := t_28.same sm30
      have t_29 := t_29.same sm30
      have p_30 : Two _ o30 := ⟨o29, x1, ((a + b) - b), 95, 31, upd_same, t_29, by first | exact t1 | exact (show (a : Rat) = ((a + b) - b) by grind) ▸ t1⟩
      refine ⟨P, _, _, rfl, rfl, W.l, lt1000 (n := 6) rfl (by decide), ?_⟩
      have t1 := t1.upd (o := .lst ([o3, o6, o11, o16, o22, o27].map V.ref ++ [.ref o30])) W.l
      have t2 := t2.upd (o := .lst ([o3, o6, o11, o16, o22, o27].map V.ref ++ [.ref o30])) W.l
      have t3 := t3.upd (o := .lst ([o3, o6, o11, o16, o22, o27].map V.ref ++ [.ref o30])) W.l
      have A := A.set (o := .lst ([o3, o6, o11, o16, o22, o27].map V.ref ++ [.ref o30])) nPh nPc
      have W := W.app p_30
      refine ⟨_, rfl, .inl ⟨rfl, _, SqL.of W.l⟩, _, rfl, _, rfl, x1, x1, _, _, 31, 31, rfl, SqT.of t1.1, SqT.of t1.1, t1.2, t1.2, by decide, by decide, by decide, fun o31 Hq31 sm31 no31 eo31 => ?_⟩
      have A := A.same sm31
      have t1 := t1.same sm31
      have t2 := t2.same sm31
      have t3 := t3.same sm31
      have W := W.same sm31
      have t_31 : TA Hq31 o31 (a * a) 62 := ⟨eo31, t1.2.mul t1.2⟩
      refine ⟨_, rfl, _, rfl, x2, x2, _, _, 31, 31, rfl, SqT.of t2.1, SqT.of t2.1, t2.2, t2.2, by decide, by decide, by decide, fun o32 Hq32 sm32 no32 eo32 => ?_⟩
      have A := A.same sm32
      have t1 := t1.same sm32
      have t2 := t2.same sm32
      have t3 := t3.same sm32
      have W := W.same sm32
      have t_31 := t_31.same sm32
      have t_32 : TA Hq32 o32 (b * b) 62 := ⟨eo32, t2.2.mul t2.2⟩
      refine ⟨o31, o32, _, _, 62, 62, rfl, SqT.of t_31.1, SqT.of t_32.1, t_31.2, t_32.2, by decide, by decide, by decide, fun o33 Hq33 sm33 no33 eo33 => ?_⟩
      have A := A.same sm33
      have t1 := t1.same sm33
      have t2 := t2.same sm33
      have t3 := t3.same sm33
      have W := W.same sm33
      have t_31 := t_31.same sm33
      have t_32 := t_32.same sm33
      have t_33 : TA Hq33 o33 ((a * a) - (b * b)) 125 := ⟨eo33, t_31.2.sub t_32.2⟩
      refine ⟨_, rfl, _, rfl, x1, x2, _, _, 31, 31, rfl, SqT.of t1.1, SqT.of t2.1, t1.2, t2.2, by decide, by decide, by decide, fun o34 Hq34 sm34 no34 eo34 => ?_⟩
      have A := A.same sm34
      have t1 := t1.same sm34
      have t2 := t2.same sm34
      have t3 := t3.same sm34
      have W := W.same sm34
      have t_31 := t_31.same sm34
      have t_32 := t_32.same sm34
      have t_33 := t_33.same sm34
      have t_34 : TA Hq34 o34 (a + b) 63 := ⟨eo34, t1.2.add t2.2⟩
      refine ⟨_, rfl, _, rfl, x1, x2, _, _, 31, 31, rfl, SqT.of t1.1, SqT.of t2.1, t1.2, t2.2, by decide, by decide, by decide, fun o35 Hq35 sm35 no35 eo35 => ?_⟩
      have A := A.same sm35
      have t1 := t1.same sm35
      have t2 := t2.same sm35
      have t3 := t3.same sm35
      have W := W.same sm35
      have t_31 := t_31.same sm35
      have t_32 := t_32.same sm35
      have t_33 := t_33.same sm35
      have t_34 := t_34.same sm35
      have t_35 : TA Hq35 o35 (a - b) 63 := ⟨eo35, t1.2.sub t2.2⟩
      refine ⟨o34, o35, _, _, 63, 63, rfl, SqT.of t_34.1, SqT.of t_35.1, t_34.2, t_35.2, by decide, by decide, by decide, fun o36 Hq36 sm36 no36 eo36 => ?_⟩
      have A := A.same sm36
      have t1 := t1.same sm36
      have t2 := t2.same sm36
      have t3 := t3.same sm36
      have W := W.same sm36
      have t_31 := t_31.same sm36
      have t_32 := t_32.same sm36
      have t_33 := t_33.same sm36
      have t_34 := t_34.same sm36
      have t_35 := t_35.same sm36
      have t_36 : TA Hq36 o36 ((a + b) * (a - b)) 126 := ⟨eo36, t_34.2.mul t_35.2⟩
      refine ⟨(by show 2 ≤ sizeLine; decide), fun o37 no37 => ?_⟩
      have sm37 := same_upd (o := .tup [.ref o33, .ref o36]) no37
      have A := A.same sm37
      have t1 := t1.same sm37
      have t2 := t2.same sm37
      have t3 := t3.same sm37
      have W := W.same sm37
      have t_31 := t_31.same sm37
      have t_32 := t_32.same sm37
      have t_33 := t_33.same sm37
      have t_34 := t_34.same sm37
      have t_35 := t_35.same sm37
      have t_36 := t_36.same sm37
      have p_37 : Two _ o37 := ⟨o33, o36, ((a * a) - (b * b)), 125, 126, upd_same, t_33, by first | exact t_36 | exact (show (((a + b) * (a - b)) : Rat) = ((a * a) - (b * b)) by grind) ▸ t_36⟩
      refine ⟨P, _, _, rfl, rfl, W.l, lt1000 (n := 7) rfl (by decide), ?_⟩
      have t1 := t1.upd (o := .lst ([o3, o6, o11, o16, o22, o27, o30].map V.ref ++ [.ref o37])) W.l
      have t2 := t2.upd (o := .lst ([o3, o6, o11, o16, o22, o27, o30].map V.ref ++ [.ref o37])) W.l
      have t3 := t3.upd (o := .lst ([o3, o6, o11, o16, o22, o27, o30].map V.ref ++ [.ref o37])) W.l
      have A := A.set (o := .lst ([o3, o6, o11, o16, o22, o27, o30].map V.ref ++ [.ref o37])) nPh nPc
      have W := W.app p_37
      -- a multiple
      refine ⟨_, rfl, h, c, _, _, _, _, rfl, by decide, by decide, A, fun s5 k5 cs5 r5 H5 a5 b5 A5 B5 => ?_⟩
      have t1 := t1.but B5 A
      have t2 := t2.but B5 A
      have t3 := t3.but B5 A
      have W := W.but B5 A nPh nPc
      clear A
      have A := A5
      have m0 : (1 + r5) ≠ 0 := by omega
      have m7 : (1 + r5).natAbs < 2 ^ 7 := by omega
      refine ⟨_, _, rfl, rfl, ?_⟩
      refine ⟨_, rfl, .inl ⟨rfl, _, SqL.of W.l⟩, _, rfl, _, rfl, x1, _, _, _, rfl, rfl, SqT.of t1.1, ratV_num _, _, _, rfl, rfl, mulOk m7 (b := 31) t1.2.1 (by decide) (by decide) (by decide), _, rfl, _, rfl, x1, _, _, _, rfl, rfl, SqT.of t1.1, ratV_den _, _, _, rfl, rfl, mulOk m7 (b := 31) t1.2.den (by decide) (by decide) (by decide), _, _, rfl, Int.mul_ne_zero m0 (den_ne a), lt_up (natAbs_mul_lt m7 (b := 31) t1.2.den) (by decide), fun o38 Hq38 sm38 no38 eo38 => ?_⟩
      have A := A.same sm38
      have t1 := t1.same sm38
      have t2 := t2.same sm38
      have t3 := t3.same sm38
      have W := W.same sm38
      rw [scale m0] at eo38
      have t_38 : TA Hq38 o38 a 31 := ⟨eo38, t1.2⟩
      refine ⟨_, rfl, (by show 2 ≤ sizeLine; decide), fun o39 no39 => ?_⟩
      have sm39 := same_upd (o := .tup [.ref o38, .ref x1]) no39
      have A := A.same sm39
      have t1 := t1.same sm39
      have t2 := t2.same sm39
      have t3 := t3.same sm39
      have W := W.same sm39
      have t_38 := t_38.same sm39
      have p_39 : Two _ o39 := ⟨o38, x1, a, 31, 31, upd_same, t_38, by first | exact t1 | exact (show (a : Rat) = a by grind) ▸ t1⟩
      refine ⟨P, _, _, rfl, rfl, W.l, lt1000 (n := 8) rfl (by decide), ?_⟩
      have t1 := t1.upd (o := .lst ([o3, o6, o11, o16, o22, o27, o30, o37].map V.ref ++ [.ref o39])) W.l
      have t2 := t2.upd (o := .lst ([o3, o6, o11, o16, o22, o27, o30, o37].map V.ref ++ [.ref o39])) W.l
      have t3 := t3.upd (o := .lst ([o3, o6, o11, o16, o22, o27, o30, o37].map V.ref ++ [.ref o39])) W.l
      have A := A.set (o := .lst ([o3, o6, o11, o16, o22, o27, o30, o37].map V.ref ++ [.ref o39])) nPh nPc
      have W := W.app p_39
      refine ⟨_, rfl, .inl ⟨rfl, _, SqL.of W.l⟩, _, rfl, _, rfl, x1, _, _, _, rfl, rfl, SqT.of t1.1, ratV_num _, _, _, rfl, rfl, mulOk m7 (b := 31) t1.2.1 (by decide) (by decide) (by decide), _, _, rfl, rfl, _, rfl, _, rfl, x1, _, _, _, rfl, rfl, SqT.of t1.1, ratV_den _, _, _, rfl, rfl, mulOk m7 (b := 31) t1.2.den (by decide) (by decide) (by decide), _, _, rfl, rfl, _, _, rfl, by have := Int.mul_ne_zero m0 (den_ne a); omega, by have := natAbs_mul_lt m7 (b := 31) t1.2.den; exact lt_up (a := 38) (by omega) (by decide), fun o40 Hq40 sm40 no40 eo40 => ?_⟩
      have A := A.same sm40
      have t1 := t1.same sm40
      have t2 := t2.same sm40
      have t3 := t3.same sm40
      have W := W.same sm40
      rw [unscale m0] at eo40
      have t_40 : TA Hq40 o40 a 31 := ⟨eo40, t1.2⟩
      refine ⟨_, rfl, (by show 2 ≤ sizeLine; decide), fun o41 no41 => ?_⟩
      have sm41 := same_upd (o := .tup [.ref o40, .ref x1]) no41
      have A := A.same sm41
      have t1 := t1.same sm41
      have t2 := t2.same sm41
      have t3 := t3.same sm41
      have W := W.same sm41
      have t_40 := t_40.same sm41
      have p_41 : Two _ o41 := ⟨o40, x1, a, 31, 31, upd_same, t_40, by first | exact t1 | exact (show (a : Rat) = a by grind) ▸ t1⟩
      refine ⟨P, _, _, rfl, rfl, W.l, lt1000 (n := 9) rfl (by decide), ?_⟩
      have t1 := t1.upd (o := .lst ([o3, o6, o11, o16, o22, o27, o30, o37, o39].map V.ref ++ [.ref o41])) W.l
      have t2 := t2.upd (o := .lst ([o3, o6, o11, o16, o22, o27, o30, o37, o39].map V.ref ++ [.ref o41])) W.l
      have t3 := t3.upd (o := .lst ([o3, o6, o11, o16, o22, o27, o30, o37, o39].map V.ref ++ [.ref o41])) W.l
      have A := A.set (o := .lst ([o3, o6, o11, o16, o22, o27, o30, o37, o39].map V.ref ++ [.ref o41])) nPh nPc
      have W := W.app p_41
      refine ⟨_, rfl, .inl ⟨rfl, _, SqL.of W.l⟩, _, rfl, _, rfl, x1, x1, _, _, 31, 31, rfl, SqT.of t1.1, SqT.of t1.1, t1.2, t1.2, by decide, by decide, by decide, fun o42 Hq42 sm42 no42 eo42 => ?_⟩
      have A := A.same sm42
      have t1 := t1.same sm42
      have t2 := t2.same sm42
      have t3 := t3.same sm42
      have W := W.same sm42
      have t_42 : TA Hq42 o42 (a - a) 63 := ⟨eo42, t1.2.sub t1.2⟩
      refine ⟨(by show 2 ≤ sizeLine; decide), fun o43 no43 => ?_⟩
      have sm43 := same_upd (o := .tup [.int (0), .int (1)]) no43
      have A := A.same sm43
      have t1 := t1.same sm43
      have t2 := t2.same sm43
      have t3 := t3.same sm43
      have W := W.same sm43
      have t_42 := t_42.same sm43
      have t_43 := TA.new (xs := [.int (0), .int (1)]) (r := (0 : Rat)) (b := 2) no43 rfl ⟨by decide, by decide⟩
      refine ⟨(by show 2 ≤ sizeLine; decide), fun o44 no44 => ?_⟩
      have sm44 := same_upd (o := .tup [.ref o42, .ref o43]) no44
      have A := A.same sm44
      have t1 := t1.same sm44
      have t2 := t2.same sm44
      have t3 := t3.same sm44
      have W := W.same sm44
      have t_42 := t_42.same sm44
      have t_43 := t_43.same sm44
      have p_44 : Two _ o44 := ⟨o42, o43, (a - a), 63, 2, upd_same, t_42, by first | exact t_43 | exact (show ((0 : Rat) : Rat) = (a - a) by grind) ▸ t_43⟩
      refine ⟨P, _, _, rfl, rfl, W.l, lt1000 (n := 10) rfl (by decide), ?_⟩
      have t1 := t1.upd (o := .lst ([o3, o6, o11, o16, o22, o27, o30, o37, o39, o41].map V.ref ++ [.ref o44])) W.l
      have t2 := t2.upd (o := .lst ([o3, o6, o11, o16, o22, o27, o30, o37, o39, o41].map V.ref ++ [.ref o44])) W.l
      have t3 := t3.upd (o := .lst ([o3, o6, o11, o16, o22, o27, o30, o37, o39, o41].map V.ref ++ [.ref o44])) W.l
      have A := A.set (o := .lst ([o3, o6, o11, o16, o22, o27, o30, o37, o39, o41].map V.ref ++ [.ref o44])) nPh nPc
      have W := W.app p_44
      -- the one turned over
      refine ⟨_, rfl, x1, _, _, _, rfl, rfl, SqT.of t1.1, ratV_num _, rfl, _, rfl, ite2 (fun e => ?_) (fun e => ?_)⟩
      rotate_left
      · obtain ⟨L, W⟩ : ∃ L, Twos _ P L := ⟨_, W⟩
        clear t1 t2 t3
        -- all pairs
        refine ⟨_, rfl, P, rfl, ⟨_, SqL.of W.l⟩, for_list (K := K) (a := P) (xs := L.map V.ref) (fun j σ H6 => ∃ (v9 v10 : Option V), σ = [some (.ref a0), some (.ref h), some (.int (0 + i)), v3, some (.ref x1), some (.ref x2), some (.ref x3), some (.ref P), some (.int (1 + r5)), v9, v10, v11] ∧ HAt H6 h c s5 k5 cs5 ∧ Twos H6 P L) ⟨v9, v10, rfl, A, W⟩ (fun j σ H6 _ ⟨_, _, _, _, W6⟩ => SqL.of W6.l) ?_ ?_⟩
        · rintro j x σ H6 hj ⟨w9, w10, rfl, A6, W6⟩
          obtain ⟨t, ht, rfl⟩ : ∃ t, L[j]? = some t ∧ V.ref t = x := by
            rw [List.getElem?_map] at hj
            cases e : L[j]? with
            | none => rw [e] at hj; cases hj
            | some t => rw [e] at hj; exact ⟨t, rfl, Option.some.inj hj⟩
          obtain ⟨m, y, r, b1, b2, et, hm, hy⟩ := W6.a t (List.mem_of_getElem? ht)
          refine ⟨t, _, rfl, SqT.of et, rfl, _, _, rfl, _, [], rfl, rfl, ?_⟩
          have dp : ∀ p, H6 p = some (.tup (ratV r)) → Dp K H6 (.ref p) (.tuple [.int r.num, .int (r.den : Int)]) := fun p e => .tup (SqT.of e) (.cons (.int _) (.cons (.int _) .nil))
          refine ⟨_, rfl, _, rfl, _, _, dp m hm.1, dp y hy.1, shapedT _ _, shapedT _ _, _, rfl, ?_⟩
          rw [eqvSelf]
          refine iteF ⟨_, rfl, m, r, b1, rfl, hm, _, rfl, iteF ⟨_, rfl, _, _, _, _, true, rfl, .ty "tuple", .base (.tup hm.1), kit_ty (by decide +kernel), _, rfl, iteF ?_⟩⟩
          exact ⟨_, _, rfl, A6, W6⟩
        · rintro σ H6 ⟨w9, w10, rfl, A6, W6⟩
          refine ⟨(by show 2 ≤ sizeLine; decide), fun p0 np0 => ?_⟩
          refine ⟨1, 12, rfl, ⟨by decide, by decide, by decide, by decide⟩, for_range (lo := 1) (n := 11) (fun j σ H7 => ∃ (v3 : Option V) (p : Addr), σ = [some (.ref a0), some (.ref h), some (.int (0 + i)), v3, some (.ref x1), some (.ref x2), some (.ref x3), some (.ref P), some (.int (1 + r5)), w9, w10, some (.ref p)] ∧ HAt H7 h c s5 k5 cs5 ∧ H7 p = some (.tup (ratV (Rat.divInt (j : Int) ((j : Int) + 1))))) ⟨_, p0, rfl, A6.same (same_upd np0), upd_same⟩ ?_ ?_⟩
          · rintro j σ H7 hj ⟨u3, p, rfl, A7, ep⟩
            have jb : ((j : Int) + 1).natAbs < 2 ^ 10 := by omega
            have jp : (1 + (j : Int)).natAbs < 2 ^ 10 := by omega
            have jq : (1 + (j : Int) + 1).natAbs < 2 ^ 10 := by omega
            have jn : (1 + (j : Int)) * (1 + (j : Int) + 1) ≠ 0 := Int.mul_ne_zero (by omega) (by omega)
            have R1 : RB 10 (Rat.divInt (j : Int) ((j : Int) + 1)) := RB.divInt (by omega) (by omega) jb
            have R2 : RB 20 (Rat.divInt 1 ((1 + (j : Int)) * (1 + (j : Int) + 1))) := RB.divInt jn (by decide) (natAbs_mul_lt jp jq)
            refine ⟨_, rfl, _, rfl, _, rfl, _, _, rfl, rfl, _, _, rfl, rfl, mulOk jp jq (by decide) (by decide) (by decide), _, _, rfl, jn, lt_up (natAbs_mul_lt jp jq) (by decide), fun o8 H8 sm8 no8 eo8 => ?_⟩
            refine ⟨p, o8, _, _, 10, 20, rfl, SqT.of (sm8 _ _ ep), SqT.of eo8, R1, R2, by decide, by decide, by decide, fun o9 H9 sm9 no9 eo9 => ?_⟩
            replace eo9 : H9 o9 = some (.tup (ratV (Rat.divInt (1 + (j : Int)) (1 + (j : Int) + 1)))) := by
              rw [← sums11 j hj]
              exact eo9
            refine ⟨_, rfl, _, rfl, _, rfl, _, _, rfl, rfl, _, _, rfl, by omega, lt_up jq (by decide), fun o10 H10 sm10 no10 eo10 => ?_⟩
            have dp : ∀ p, H10 p = some (.tup (ratV (Rat.divInt (1 + (j : Int)) (1 + (j : Int) + 1)))) → Dp K H10 (.ref p) (.tuple [.int (Rat.divInt (1 + (j : Int)) (1 + (j : Int) + 1)).num, .int ((Rat.divInt (1 + (j : Int)) (1 + (j : Int) + 1)).den : Int)]) := fun p e => .tup (SqT.of e) (.cons (.int _) (.cons (.int _) .nil))
            refine ⟨_, _, dp o9 (sm10 _ _ eo9), dp o10 eo10, shapedT _ _, shapedT _ _, _, rfl, ?_⟩
            rw [eqvSelf]
            refine iteF ?_
            refine ⟨_, o9, rfl, ((A7.same sm8).same sm9).same sm10, ?_⟩
            have ec : ((j + 1 : Nat) : Int) = 1 + (j : Int) := by omega
            rw [ec]
            exact sm10 _ _ eo9
          · rintro σ H7 ⟨u3, p, rfl, A7, ep⟩
            exact ⟨_, _, _, _, _, _, _, _, _, _, _, _, _, rfl, A7⟩
      · have nz : a.num ≠ 0 := fun z => by
          rw [z] at e
          exact absurd e (by decide)
        refine ⟨_, rfl, .inl ⟨rfl, _, SqL.of W.l⟩, _, rfl, _, rfl, x1, _, _, _, rfl, rfl, SqT.of t1.1, ratV_den _, _, rfl, x1, _, _, _, rfl, rfl, SqT.of t1.1, ratV_num _, _, _, rfl, nz, lt_up t1.2.1 (by decide), fun o45 Hq45 sm45 no45 eo45 => ?_⟩
        have A := A.same sm45
        have t1 := t1.same sm45
        have t2 := t2.same sm45
        have t3 := t3.same sm45
        have W := W.same sm45
        have t_45 : TA Hq45 o45 (Rat.divInt (a.den : Int) a.num) 31 := ⟨eo45, RB.divInt nz t1.2.den t1.2.1⟩
        refine ⟨x1, o45, _, _, 31, 31, rfl, SqT.of t1.1, SqT.of t_45.1, t1.2, t_45.2, by decide, by decide, by decide, fun o46 Hq46 sm46 no46 eo46 => ?_⟩
        have A := A.same sm46
        have t1 := t1.same sm46
        have t2 := t2.same sm46
        have t3 := t3.same sm46
        have W := W.same sm46
        have t_45 := t_45.same sm46
        have t_46 : TA Hq46 o46 (1 : Rat) 62 := TA.eqn ⟨eo46, t1.2.mul t_45.2⟩ (upside nz)
        refine ⟨(by show 2 ≤ sizeLine; decide), fun o47 no47 => ?_⟩
        have sm47 := same_upd (o := .tup [.int (1), .int (1)]) no47
        have A := A.same sm47
        have t1 := t1.same sm47
        have t2 := t2.same sm47
        have t3 := t3.same sm47
        have W := W.same sm47
        have t_45 := t_45.same sm47
        have t_46 := t_46.same sm47
        have t_47 := TA.new (xs := [.int (1), .int (1)]) (r := (1 : Rat)) (b := 2) no47 rfl ⟨by decide, by decide⟩
        refine ⟨(by show 2 ≤ sizeLine; decide), fun o48 no48 => ?_⟩
        have sm48 := same_upd (o := .tup [.ref o46, .ref o47]) no48
        have A := A.same sm48
        have t1 := t1.same sm48
        have t2 := t2.same sm48
        have t3 := t3.same sm48
        have W := W.same sm48
        have t_45 := t_45.same sm48
        have t_46 := t_46.same sm48
        have t_47 := t_47.same sm48
        have p_48 : Two _ o48 := ⟨o46, o47, (1 : Rat), 62, 2, upd_same, t_46, by first | exact t_47 | exact (show ((1 : Rat) : Rat) = (1 : Rat) by grind) ▸ t_47⟩
        refine ⟨P, _, _, rfl, rfl, W.l, lt1000 (n := 11) rfl (by decide), ?_⟩
        have t1 := t1.upd (o := .lst ([o3, o6, o11, o16, o22, o27, o30, o37, o39, o41, o44].map V.ref ++ [.ref o48])) W.l
        have t2 := t2.upd (o := .lst ([o3, o6, o11, o16, o22, o27, o30, o37, o39, o41, o44].map V.ref ++ [.ref o48])) W.l
        have t3 := t3.upd (o := .lst ([o3, o6, o11, o16, o22, o27, o30, o37, o39, o41, o44].map V.ref ++ [.ref o48])) W.l
        have A := A.set (o := .lst ([o3, o6, o11, o16, o22, o27, o30, o37, o39, o41, o44].map V.ref ++ [.ref o48])) nPh nPc
        have W := W.app p_48
        obtain ⟨L, W⟩ : ∃ L, Twos _ P L := ⟨_, W⟩
        clear t1 t2 t3
        -- all pairs
        refine ⟨_, rfl, P, rfl, ⟨_, SqL.of W.l⟩, for_list (K := K) (a := P) (xs := L.map V.ref) (fun j σ H6 => ∃ (v9 v10 : Option V), σ = [some (.ref a0), some (.ref h), some (.int (0 + i)), v3, some (.ref x1), some (.ref x2), some (.ref x3), some (.ref P), some (.int (1 + r5)), v9, v10, v11] ∧ HAt H6 h c s5 k5 cs5 ∧ Twos H6 P L) ⟨v9, v10, rfl, A, W⟩ (fun j σ H6 _ ⟨_, _, _, _, W6⟩ => SqL.of W6.l) ?_ ?_⟩
        · rintro j x σ H6 hj ⟨w9, w10, rfl, A6, W6⟩
          obtain ⟨t, ht, rfl⟩ : ∃ t, L[j]? = some t ∧ V.ref t = x := by
            rw [List.getElem?_map] at hj
            cases e : L[j]? with
            | none => rw [e] at hj; cases hj
            | some t => rw [e] at hj; exact ⟨t, rfl, Option.some.inj hj⟩
          obtain ⟨m, y, r, b1, b2, et, hm, hy⟩ := W6.a t (List.mem_of_getElem? ht)
          refine ⟨t, _, rfl, SqT.of et, rfl, _, _, rfl, _, [], rfl, rfl, ?_⟩
          have dp : ∀ p, H6 p = some (.tup (ratV r)) → Dp K H6 (.ref p) (.tuple [.int r.num, .int (r.den : Int)]) := fun p e => .tup (SqT.of e) (.cons (.int _) (.cons (.int _) .nil))
          refine ⟨_, rfl, _, rfl, _, _, dp m hm.1, dp y hy.1, shapedT _ _, shapedT _ _, _, rfl, ?_⟩
          rw [eqvSelf]
          refine iteF ⟨_, rfl, m, r, b1, rfl, hm, _, rfl, iteF ⟨_, rfl, _, _, _, _, true, rfl, .ty "tuple", .base (.tup hm.1), kit_ty (by decide +kernel), _, rfl, iteF ?_⟩⟩
          exact ⟨_, _, rfl, A6, W6⟩
        · rintro σ H6 ⟨w9, w10, rfl, A6, W6⟩
          refine ⟨(by show 2 ≤ sizeLine; decide), fun p0 np0 => ?_⟩
          refine ⟨1, 12, rfl, ⟨by decide, by decide, by decide, by decide⟩, for_range (lo := 1) (n := 11) (fun j σ H7 => ∃ (v3 : Option V) (p : Addr), σ = [some (.ref a0), some (.ref h), some (.int (0 + i)), v3, some (.ref x1), some (.ref x2), some (.ref x3), some (.ref P), some (.int (1 + r5)), w9, w10, some (.ref p)] ∧ HAt H7 h c s5 k5 cs5 ∧ H7 p = some (.tup (ratV (Rat.divInt (j : Int) ((j : Int) + 1))))) ⟨_, p0, rfl, A6.same (same_upd np0), upd_same⟩ ?_ ?_⟩
          · rintro j σ H7 hj ⟨u3, p, rfl, A7, ep⟩
            have jb : ((j : Int) + 1).natAbs < 2 ^ 10 := by omega
            have jp : (1 + (j : Int)).natAbs < 2 ^ 10 := by omega
            have jq : (1 + (j : Int) + 1).natAbs < 2 ^ 10 := by omega
            have jn : (1 + (j : Int)) * (1 + (j : Int) + 1) ≠ 0 := Int.mul_ne_zero (by omega) (by omega)
            have R1 : RB 10 (Rat.divInt (j : Int) ((j : Int) + 1)) := RB.divInt (by omega) (by omega) jb
            have R2 : RB 20 (Rat.divInt 1 ((1 + (j : Int)) * (1 + (j : Int) + 1))) := RB.divInt jn (by decide) (natAbs_mul_lt jp jq)
            refine ⟨_, rfl, _, rfl, _, rfl, _, _, rfl, rfl, _, _, rfl, rfl, mulOk jp jq (by decide) (by decide) (by decide), _, _, rfl, jn, lt_up (natAbs_mul_lt jp jq) (by decide), fun o8 H8 sm8 no8 eo8 => ?_⟩
            refine ⟨p, o8, _, _, 10, 20, rfl, SqT.of (sm8 _ _ ep), SqT.of eo8, R1, R2, by decide, by decide, by decide, fun o9 H9 sm9 no9 eo9 => ?_⟩
            replace eo9 : H9 o9 = some (.tup (ratV (Rat.divInt (1 + (j : Int)) (1 + (j : Int) + 1)))) := by
              rw [← sums11 j hj]
              exact eo9
            refine ⟨_, rfl, _, rfl, _, rfl, _, _, rfl, rfl, _, _, rfl, by omega, lt_up jq (by decide), fun o10 H10 sm10 no10 eo10 => ?_⟩
            have dp : ∀ p, H10 p = some (.tup (ratV (Rat.divInt (1 + (j : Int)) (1 + (j : Int) + 1)))) → Dp K H10 (.ref p) (.tuple [.int (Rat.divInt (1 + (j : Int)) (1 + (j : Int) + 1)).num, .int ((Rat.divInt (1 + (j : Int)) (1 + (j : Int) + 1)).den : Int)]) := fun p e => .tup (SqT.of e) (.cons (.int _) (.cons (.int _) .nil))
            refine ⟨_, _, dp o9 (sm10 _ _ eo9), dp o10 eo10, shapedT _ _, shapedT _ _, _, rfl, ?_⟩
            rw [eqvSelf]
            refine iteF ?_
            refine ⟨_, o9, rfl, ((A7.same sm8).same sm9).same sm10, ?_⟩
            have ec : ((j + 1 : Nat) : Int) = 1 + (j : Int) := by omega
            rw [ec]
            exact sm10 _ _ eo9
          · rintro σ H7 ⟨u3, p, rfl, A7, ep⟩
            exact ⟨_, _, _, _, _, _, _, _, _, _, _, _, _, rfl, A7⟩
end
theorem all_mk {l : PySem.W.OpenLaw} {w : World} {K : PySem.W.Frag} {h : Heap} {mg : Str → Option Value} {fa : Addr} (X : K.In h) (G : h.Ns mainGlobals mg) (hfa : mg "law" = some (.ref fa))
    {f0 : Addr} {od0 an0 : Option Addr} {sl0 : Array (Option Value)} {oc0 kV0 dc0 pm0 cd0 ct0 : Value}
    (a0 : PySem.W.nsIn K mainGlobals "share" = some (some (.ref f0))) (l0 : K.lookup f0 = some ⟨oc0, od0, .func (PySem.W.fnOf "share" "share" (defArgs s_share) (defBody s_share) (defScope s_share) .none kV0 dc0 pm0 an0 cd0 ct0), sl0⟩) (c0 : PySem.W.codeIn K cd0 "share" = true) (k0 : PySem.W.keepIn K (.ref f0) = true)
    {f1 : Addr} {od1 an1 : Option Addr} {sl1 : Array (Option Value)} {oc1 kV1 dc1 pm1 cd1 ct1 : Value}
    (a1 : PySem.W.nsIn K mainGlobals "plus" = some (some (.ref f1))) (l1 : K.lookup f1 = some ⟨oc1, od1, .func (PySem.W.fnOf "plus" "plus" (defArgs s_plus) (defBody s_plus) (defScope s_plus) .none kV1 dc1 pm1 an1 cd1 ct1), sl1⟩) (c1 : PySem.W.codeIn K cd1 "plus" = true) (k1 : PySem.W.keepIn K (.ref f1) = true)
    {f2 : Addr} {od2 an2 : Option Addr} {sl2 : Array (Option Value)} {oc2 kV2 dc2 pm2 cd2 ct2 : Value}
    (a2 : PySem.W.nsIn K mainGlobals "minus" = some (some (.ref f2))) (l2 : K.lookup f2 = some ⟨oc2, od2, .func (PySem.W.fnOf "minus" "minus" (defArgs s_minus) (defBody s_minus) (defScope s_minus) .none kV2 dc2 pm2 an2 cd2 ct2), sl2⟩) (c2 : PySem.W.codeIn K cd2 "minus" = true) (k2 : PySem.W.keepIn K (.ref f2) = true)
    {f3 : Addr} {od3 an3 : Option Addr} {sl3 : Array (Option Value)} {oc3 kV3 dc3 pm3 cd3 ct3 : Value}
    (a3 : PySem.W.nsIn K mainGlobals "times" = some (some (.ref f3))) (l3 : K.lookup f3 = some ⟨oc3, od3, .func (PySem.W.fnOf "times" "times" (defArgs s_times) (defBody s_times) (defScope s_times) .none kV3 dc3 pm3 an3 cd3 ct3), sl3⟩) (c3 : PySem.W.codeIn K cd3 "times" = true) (k3 : PySem.W.keepIn K (.ref f3) = true)
    {f4 : Addr} {od4 an4 : Option Addr} {sl4 : Array (Option Value)} {oc4 kV4 dc4 pm4 cd4 ct4 : Value}
    (a4 : PySem.W.nsIn K mainGlobals "_law_next" = some (some (.ref f4))) (l4 : K.lookup f4 = some ⟨oc4, od4, .func (PySem.W.fnOf "_law_next" "_law_next" (defArgs s_law_next) (defBody s_law_next) (defScope s_law_next) .none kV4 dc4 pm4 an4 cd4 ct4), sl4⟩) (c4 : PySem.W.codeIn K cd4 "_law_next" = true) (k4 : PySem.W.keepIn K (.ref f4) = true)
    {f5 : Addr} {od5 an5 : Option Addr} {sl5 : Array (Option Value)} {oc5 kV5 dc5 pm5 cd5 ct5 : Value}
    (a5 : PySem.W.nsIn K mainGlobals "_law_share" = some (some (.ref f5))) (l5 : K.lookup f5 = some ⟨oc5, od5, .func (PySem.W.fnOf "_law_share" "_law_share" (defArgs s_law_share) (defBody s_law_share) (defScope s_law_share) .none kV5 dc5 pm5 an5 cd5 ct5), sl5⟩) (c5 : PySem.W.codeIn K cd5 "_law_share" = true) (k5 : PySem.W.keepIn K (.ref f5) = true)
    {f6 : Addr} {od6 an6 : Option Addr} {sl6 : Array (Option Value)} {oc6 kV6 dc6 pm6 cd6 ct6 : Value}
    (a6 : PySem.W.nsIn K mainGlobals "_law_lowest" = some (some (.ref f6))) (l6 : K.lookup f6 = some ⟨oc6, od6, .func (PySem.W.fnOf "_law_lowest" "_law_lowest" (defArgs s_law_lowest) (defBody s_law_lowest) (defScope s_law_lowest) .none kV6 dc6 pm6 an6 cd6 ct6), sl6⟩) (c6 : PySem.W.codeIn K cd6 "_law_lowest" = true) (k6 : PySem.W.keepIn K (.ref f6) = true)
    {f7 : Addr} {od7 an7 : Option Addr} {sl7 : Array (Option Value)} {oc7 kV7 dc7 pm7 cd7 ct7 : Value}
    (a7 : PySem.W.nsIn K mainGlobals "law" = some (some (.ref f7))) (l7 : K.lookup f7 = some ⟨oc7, od7, .func (PySem.W.fnOf "law" "law" (defArgs s_law) (defBody s_law) (defScope s_law) .none kV7 dc7 pm7 an7 cd7 ct7), sl7⟩) (c7 : PySem.W.codeIn K cd7 "law" = true) (k7 : PySem.W.keepIn K (.ref f7) = true)
    (z_max : PySem.W.nsIn K mainGlobals "max" = some none)
    (z_len : PySem.W.nsIn K mainGlobals "len" = some none)
    (z_int : PySem.W.nsIn K mainGlobals "int" = some none)
    (z_abs : PySem.W.nsIn K mainGlobals "abs" = some none)
    (z_list : PySem.W.nsIn K mainGlobals "list" = some none)
    (z_range : PySem.W.nsIn K mainGlobals "range" = some none)
    (z_isinstance : PySem.W.nsIn K mainGlobals "isinstance" = some none)
    (z_tuple : PySem.W.nsIn K mainGlobals "tuple" = some none)
    (y_gcd : PySem.W.nsIn K mainGlobals "gcd" = some (some (.builtin "math.gcd"))) :
    ∃ fd : FuncData, (∀ (s : Shared) (v : Value), BindsTo s fd ⟨[v], []⟩ [("_law_script", v)]) ∧ ∀ base : Heap, K.In base → base.Ns mainGlobals mg → FnOk l.prog w K mg base CX0 4 fa fd ["_law_script"] (spLaw K) := by
  have e := hfa.symm.trans (PySem.W.mg_of X G a7)
  cases e
  have F0 := fun_mk (st := s_share) l0 c0 k0
  have D0 : DefAt K mg "share" "share" s_share ["top", "bottom"] _ _ := ⟨F0, PySem.W.mg_of X G a0, F0.binds (ps := ["top", "bottom"]) fun _ _ _ _ _ _ us hl => match us, hl with | [_, _], _ => rfl⟩
  have F1 := fun_mk (st := s_plus) l1 c1 k1
  have D1 : DefAt K mg "plus" "plus" s_plus ["one", "other"] _ _ := ⟨F1, PySem.W.mg_of X G a1, F1.binds (ps := ["one", "other"]) fun _ _ _ _ _ _ us hl => match us, hl with | [_, _], _ => rfl⟩
  have F2 := fun_mk (st := s_minus) l2 c2 k2
  have D2 : DefAt K mg "minus" "minus" s_minus ["one", "other"] _ _ := ⟨F2, PySem.W.mg_of X G a2, F2.binds (ps := ["one", "other"]) fun _ _ _ _ _ _ us hl => match us, hl with | [_, _], _ => rfl⟩
  have F3 := fun_mk (st := s_times) l3 c3 k3
  have D3 : DefAt K mg "times" "times" s_times ["one", "other"] _ _ := ⟨F3, PySem.W.mg_of X G a3, F3.binds (ps := ["one", "other"]) fun _ _ _ _ _ _ us hl => match us, hl with | [_, _], _ => rfl⟩
  have F4 := fun_mk (st := s_law_next) l4 c4 k4
  have D4 : DefAt K mg "_law_next" "_law_next" s_law_next ["_law_h", "_law_many"] _ _ := ⟨F4, PySem.W.mg_of X G a4, F4.binds (ps := ["_law_h", "_law_many"]) fun _ _ _ _ _ _ us hl => match us, hl with | [_, _], _ => rfl⟩
  have F5 := fun_mk (st := s_law_share) l5 c5 k5
  have D5 : DefAt K mg "_law_share" "_law_share" s_law_share ["_law_h"] _ _ := ⟨F5, PySem.W.mg_of X G a5, F5.binds (ps := ["_law_h"]) fun _ _ _ _ _ _ us hl => match us, hl with | [_], _ => rfl⟩
  have F6 := fun_mk (st := s_law_lowest) l6 c6 k6
  have D6 : DefAt K mg "_law_lowest" "_law_lowest" s_law_lowest ["_law_one"] _ _ := ⟨F6, PySem.W.mg_of X G a6, F6.binds (ps := ["_law_one"]) fun _ _ _ _ _ _ us hl => match us, hl with | [_], _ => rfl⟩
  have F7 := fun_mk (st := s_law) l7 c7 k7
  have D7 : DefAt K mg "law" "law" s_law ["_law_script"] _ _ := ⟨F7, PySem.W.mg_of X G a7, F7.binds (ps := ["_law_script"]) fun _ _ _ _ _ _ us hl => match us, hl with | [_], _ => rfl⟩
  have T : Txt K mg := ⟨⟨_, _, D0⟩, ⟨_, _, D1⟩, ⟨_, _, D2⟩, ⟨_, _, D3⟩, ⟨_, _, D4⟩, ⟨_, _, D5⟩, ⟨_, _, D6⟩, PySem.W.mg_none_of X G z_max, PySem.W.mg_none_of X G z_len, PySem.W.mg_none_of X G z_int, PySem.W.mg_none_of X G z_abs, PySem.W.mg_none_of X G z_list, PySem.W.mg_none_of X G z_range, PySem.W.mg_none_of X G z_isinstance, PySem.W.mg_none_of X G z_tuple, PySem.W.mg_of X G y_gcd⟩
  exact ⟨PySem.W.fnOf "law" "law" (defArgs s_law) (defBody s_law) (defScope s_law) .none kV7 dc7 pm7 an7 cd7 ct7, fun s v => .of_eq rfl, fun base _ _ => ok_law T D7⟩
end K35
open PySem PySem.W PyProof.Rows
set_option maxHeartbeats 0 in
theorem PySem.Challenge.cw_lapfold_k35_whole_shares_are_fractions_holds : PySem.Challenge.rw_lapfold_k35_whole_shares_are_fractions.Holds := by
  w_on; o_law; k_head; (case hw => w_witness2)
  k_fill
  refine L2.walk_of (l := PySem.Challenge.rw_lapfold_k35_whole_shares_are_fractions) (n := 63) (k := 4) (x := "_law_script") (CX := fun _ => L2.CX0) (sp := fun w => K35.spLaw _) rfl (by decide) rfl ⟨rfl, by decide, by decide⟩ (fun w h Y => PySem.W.kIn_of Y) ?F (fun _ _ a ns hl _ hS => ⟨a, ns, rfl, hS, hl, fun _ => rfl⟩) (fun _ _ _ _ _ h => h)
  case F =>
    intro w mg fa h KX G hmg
    refine' K35.all_mk KX G hmg ?a0 ?l0 ?c0 ?k0 ?a1 ?l1 ?c1 ?k1 ?a2 ?l2 ?c2 ?k2 ?a3 ?l3 ?c3 ?k3 ?a4 ?l4 ?c4 ?k4 ?a5 ?l5 ?c5 ?k5 ?a6 ?l6 ?c6 ?k6 ?a7 ?l7 ?c7 ?k7 ?z_max ?z_len ?z_int ?z_abs ?z_list ?z_range ?z_isinstance ?z_tuple ?y_gcd
    (case a0 => k_is)
    (case l0 => k_is)
    (case c0 => k_is)
    (case k0 => k_is)
    (case a1 => k_is)
    (case l1 => k_is)
    (case c1 => k_is)
    (case k1 => k_is)
    (case a2 => k_is)
    (case l2 => k_is)
    (case c2 => k_is)
    (case k2 => k_is)
    (case a3 => k_is)
    (case l3 => k_is)
    (case c3 => k_is)
    (case k3 => k_is)
    (case a4 => k_is)
    (case l4 => k_is)
    (case c4 => k_is)
    (case k4 => k_is)
    (case a5 => k_is)
    (case l5 => k_is)
    (case c5 => k_is)
    (case k5 => k_is)
    (case a6 => k_is)
    (case l6 => k_is)
    (case c6 => k_is)
    (case k6 => k_is)
    (case a7 => k_is)
    (case l7 => k_is)
    (case c7 => k_is)
    (case k7 => k_is)
    (case z_max => k_is)
    (case z_len => k_is)
    (case z_int => k_is)
    (case z_abs => k_is)
    (case z_list => k_is)
    (case z_range => k_is)
    (case z_isinstance => k_is)
    (case z_tuple => k_is)
    (case y_gcd => k_is)
