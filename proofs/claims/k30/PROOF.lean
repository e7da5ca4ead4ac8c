import PyProof.Rows.All
import Wide.All
import OpenK.AllK
import Wide.FinOn
import HandS.ForMost
import HandS.Gcd
import HandS.Wide
import HandS.IsInst
import HandS.NoneIn
import HandS.DictTup
import HandS.DictComp
import KE.KDictKeyed
import KE.KDictDisplayH
import KE.KEqDict
import HandS.Conv
import HandS.Text
import HandS.Iter
import HandS.SortInts
import KE.KDictSum
import HandS.SetKeys
import HandS.SetTxt0
import HandS.Set
import HandS.TupLe
import HandS.More
import KE.KMinKey
import HandS.SortKw
import HandS.TupLen
import HandS.Style
import HandS.TupSets
import HandS.ExcOwn
import HandS.ExcIs
import HandS.Exc
import KE.GoesEnum
import KE.GoesMore
import HandS.TupAny
import HandS.TryOnly
import HandS.WordsExc
import KE.KEqNest
import PySem.Challenge.RW_lapfold_k30_whole_runs_one_behind_anothe
set_option Elab.async false
set_option linter.all false
set_option maxRecDepth 100000
namespace K30
open PySem PySem.Spec PyProof.Rows L2
def topS (i : Nat) : Stmt := PySem.Challenge.pw_lapfold_k30_whole_runs_one_behind_anothe.main.body.getD i (.Pass ⟨0, 0, 0, 0⟩)
abbrev s_names_of : Stmt := topS 4
theorem sc_names_of : FnScope ["program", "found"] ["program"] (defScope s_names_of) := ⟨rfl, rfl, rfl, by decide +kernel, rfl, by decide +kernel, by decide +kernel⟩
abbrev s_find_in_row : Stmt := topS 5
theorem sc_find_in_row : FnScope ["row", "found", "statement"] ["row", "found"] (defScope s_find_in_row) := ⟨rfl, rfl, rfl, by decide +kernel, rfl, by decide +kernel, by decide +kernel⟩
abbrev s_find_in_expression : Stmt := topS 6
theorem sc_find_in_expression : FnScope ["expression", "found"] ["expression", "found"] (defScope s_find_in_expression) := ⟨rfl, rfl, rfl, by decide +kernel, rfl, by decide +kernel, by decide +kernel⟩
abbrev s_ran : Stmt := topS 9
theorem sc_ran : FnScope ["program", "names", "most", "run", "name"] ["program", "names", "most"] (defScope s_ran) := ⟨rfl, rfl, rfl, by decide +kernel, rfl, by decide +kernel, by decide +kernel⟩
abbrev s_do_row : Stmt := topS 10
theorem sc_do_row : FnScope ["run", "row", "place", "at", "statement"] ["run", "row", "place"] (defScope s_do_row) := ⟨rfl, rfl, rfl, by decide +kernel, rfl, by decide +kernel, by decide +kernel⟩
abbrev s_do_lap : Stmt := topS 11
theorem sc_do_lap : FnScope ["run", "lap", "place", "guard", "measure", "turns"] ["run", "lap", "place"] (defScope s_do_lap) := ⟨rfl, rfl, rfl, by decide +kernel, rfl, by decide +kernel, by decide +kernel⟩
abbrev s_reckoned : Stmt := topS 12
theorem sc_reckoned : FnScope ["expression", "names", "word", "one", "other"] ["expression", "names"] (defScope s_reckoned) := ⟨rfl, rfl, rfl, by decide +kernel, rfl, by decide +kernel, by decide +kernel⟩
abbrev s_law_next : Stmt := topS 14
theorem sc_law_next : FnScope ["_law_h", "_law_many", "_law_at", "_law_cell"] ["_law_h", "_law_many"] (defScope s_law_next) := ⟨rfl, rfl, rfl, by decide +kernel, rfl, by decide +kernel, by decide +kernel⟩
abbrev s_law_names : Stmt := topS 15
theorem sc_law_names : FnScope ["_law_h", "_law_some", "_law_word", "_law_turn", "_law_letters", "_law_ends", "_law_k", "_law_letter"] ["_law_h"] (defScope s_law_names) := ⟨rfl, rfl, rfl, by decide +kernel, rfl, by decide +kernel, by decide +kernel⟩
abbrev s_law_part : Stmt := topS 16
theorem sc_law_part : FnScope ["_law_h", "_law_some", "_law_deep", "_law_way", "_law_word", "_law_one"] ["_law_h", "_law_some", "_law_deep"] (defScope s_law_part) := ⟨rfl, rfl, rfl, by decide +kernel, rfl, by decide +kernel, by decide +kernel⟩
abbrev s_law_measure : Stmt := topS 17
theorem sc_law_measure : FnScope ["_law_h", "_law_guard", "_law_calm", "_law_name", "_law_some", "_law_found"] ["_law_h", "_law_guard", "_law_calm"] (defScope s_law_measure) := ⟨rfl, rfl, rfl, by decide +kernel, rfl, by decide +kernel, by decide +kernel⟩
abbrev s_law_lap : Stmt := topS 18
theorem sc_law_lap : FnScope ["_law_h", "_law_names_here", "_law_depth", "_law_odd", "_law_guard", "_law_inner", "_law_last", "_law_more"] ["_law_h", "_law_names_here", "_law_depth", "_law_odd"] (defScope s_law_lap) := ⟨rfl, rfl, rfl, by decide +kernel, rfl, by decide +kernel, by decide +kernel⟩
abbrev s_law_grow : Stmt := topS 19
theorem sc_law_grow : FnScope ["_law_h", "_law_low", "_law_some", "_law_one", "_law_other"] ["_law_h", "_law_low", "_law_some"] (defScope s_law_grow) := ⟨rfl, rfl, rfl, by decide +kernel, rfl, by decide +kernel, by decide +kernel⟩
abbrev s_law_row : Stmt := topS 20
theorem sc_law_row : FnScope ["_law_h", "_law_names_here", "_law_depth", "_law_odd", "_law_parts", "_law_low", "_law_laps", "_law_k", "_law_way", "_law_at", "_law_part_here", "_law_some"] ["_law_h", "_law_names_here", "_law_depth", "_law_odd"] (defScope s_law_row) := ⟨rfl, rfl, rfl, by decide +kernel, rfl, by decide +kernel, by decide +kernel⟩
abbrev s_law_inputs : Stmt := topS 21
theorem sc_law_inputs : FnScope ["_law_h", "_law_names_here", "_law_found", "_law_k", "_law_many"] ["_law_h", "_law_names_here"] (defScope s_law_inputs) := ⟨rfl, rfl, rfl, by decide +kernel, rfl, by decide +kernel, by decide +kernel⟩
abbrev s_law_dry : Stmt := topS 22
theorem sc_law_dry : FnScope ["_law_program", "_law_names_here", "_law_most"] ["_law_program", "_law_names_here", "_law_most"] (defScope s_law_dry) := ⟨rfl, rfl, rfl, by decide +kernel, rfl, by decide +kernel, by decide +kernel⟩
abbrev s_law : Stmt := topS 23
theorem sc_law : FnScope ["_law_script", "_law_h", "_law_names_here", "_law_one", "_law_two", "_law_both", "_law_time", "_law_inputs_here", "_law_first", "_law_second", "_law_told", "_law_ends", "_law_turns", "_law_entries", "_law_later", "_law_entry", "_law_name"] ["_law_script"] (defScope s_law) := ⟨rfl, rfl, rfl, by decide +kernel, rfl, by decide +kernel, by decide +kernel⟩
abbrev s_Run_init : Stmt := inClass (topS 8) 0
theorem sc_Run_init : FnScope ["self", "names", "most", "name", "number"] ["self", "names", "most"] (defScope s_Run_init) := ⟨rfl, rfl, rfl, by decide +kernel, rfl, by decide +kernel, by decide +kernel⟩
structure DefAt (K : PySem.W.Frag) (mg : Str → Option Value) (x qual : Str) (st : Stmt) (ps : List Str) (f : Addr) (fd : FuncData) : Prop where
  F : Fun K x qual st f fd
  g : mg x = some (.ref f)
  b : Binds K fd ps []
def HasDef (K : PySem.W.Frag) (mg : Str → Option Value) (x qual : Str) (st : Stmt) (ps : List Str) : Prop := ∃ f fd, DefAt K mg x qual st ps f fd
/-- what is written of the own exceptions -/
structure ExTxt (K : PySem.W.Frag) (mg : Str → Option Value) (L D : Addr) : Prop where
  gL : mg "LapError" = some (.ref L)
  gD : mg "Dry" = some (.ref D)
  xD : PySem.W.excIn K D [.type "ValueError", .type "Exception", .type "BaseException", .type "object"] "ValueError.__new__" = true
  kD : PySem.W.keepIn K (.ref D) = true
  bD : PySem.W.subIn K (.ref D) (.type "BaseException") = some true
  tD : PySem.W.typeIn K (.ref D) = some (.type "type")
  bL : PySem.W.subIn K (.ref L) (.type "BaseException") = some true
  hL : PySem.W.hasDictIn K L = true
  tL : PySem.W.typeIn K (.ref L) = some (.type "type")
  sDL : PySem.W.subIn K (.ref D) (.ref L) = some true
  hgD : PySem.W.findIn K (.ref D) "__getattribute__" = some (some (.builtin "BaseException.__getattribute__"))
  hkD : PySem.W.findIn K (.ref D) "__getattr__" = some none
  hdD : PySem.W.hasDictIn K D = true
  haD : PySem.W.findIn K (.ref D) "__class__" = some (some (.builtin "object.__class__"))
  hnD : PySem.W.specialIn K (.builtin "object.__class__") "__get__" = some (some (.builtin "getset_descriptor.__get__"))
  htD : PySem.W.takesIn K (.builtin "object.__class__") = some true
  hmD : PySem.W.mroIn K D (.type "object") = some true
  sDD : PySem.W.subIn K (.ref D) (.ref D) = some true
  iDD : PySem.W.kitOne K (.ref D) (.ref D) = some true
  iDV : PySem.W.kitOne K (.ref D) (.type "ValueError") = some true
structure Txt (K : PySem.W.Frag) (mg : Str → Option Value) (C_Run : Addr) : Prop where
  cl_Run : Cls K C_Run
  g_Run : mg "Run" = some (.ref C_Run)
  n_Run_entries : NoAttr K C_Run "entries"
  n_Run_most : NoAttr K C_Run "most"
  n_Run_names : NoAttr K C_Run "names"
  n_Run_told : NoAttr K C_Run "told"
  n_Run_turns : NoAttr K C_Run "turns"
  mk_Run : ∃ f fd, Mk K C_Run f ∧ Fun K "__init__" "Run.__init__" s_Run_init f fd ∧ Binds K fd ["self", "names", "most"] []
  ex : ∃ L D, ExTxt K mg L D
  d_names_of : HasDef K mg "names_of" "names_of" s_names_of ["program"]
  d_find_in_row : HasDef K mg "_find_in_row" "_find_in_row" s_find_in_row ["row", "found"]
  d_find_in_expression : HasDef K mg "_find_in_expression" "_find_in_expression" s_find_in_expression ["expression", "found"]
  d_ran : HasDef K mg "ran" "ran" s_ran ["program", "names", "most"]
  d_do_row : HasDef K mg "_do_row" "_do_row" s_do_row ["run", "row", "place"]
  d_do_lap : HasDef K mg "_do_lap" "_do_lap" s_do_lap ["run", "lap", "place"]
  d_reckoned : HasDef K mg "_reckoned" "_reckoned" s_reckoned ["expression", "names"]
  d_law_next : HasDef K mg "_law_next" "_law_next" s_law_next ["_law_h", "_law_many"]
  d_law_names : HasDef K mg "_law_names" "_law_names" s_law_names ["_law_h"]
  d_law_part : HasDef K mg "_law_part" "_law_part" s_law_part ["_law_h", "_law_some", "_law_deep"]
  d_law_measure : HasDef K mg "_law_measure" "_law_measure" s_law_measure ["_law_h", "_law_guard", "_law_calm"]
  d_law_lap : HasDef K mg "_law_lap" "_law_lap" s_law_lap ["_law_h", "_law_names_here", "_law_depth", "_law_odd"]
  d_law_grow : HasDef K mg "_law_grow" "_law_grow" s_law_grow ["_law_h", "_law_low", "_law_some"]
  d_law_row : HasDef K mg "_law_row" "_law_row" s_law_row ["_law_h", "_law_names_here", "_law_depth", "_law_odd"]
  d_law_inputs : HasDef K mg "_law_inputs" "_law_inputs" s_law_inputs ["_law_h", "_law_names_here"]
  d_law_dry : HasDef K mg "_law_dry" "_law_dry" s_law_dry ["_law_program", "_law_names_here", "_law_most"]
  m_sorted : mg "sorted" = none
  m_enumerate : mg "enumerate" = none
  m_max : mg "max" = none
  m_len : mg "len" = none
  m_int : mg "int" = none
  m_range : mg "range" = none
  m_tuple : mg "tuple" = none
  m_list : mg "list" = none
  m_sum : mg "sum" = none
/-! ### fractions -/
theorem divInt_num_pos {t b : Int} (h : 0 < b) : (Rat.divInt t b).num = t.fdiv ((Nat.gcd t.natAbs b.natAbs : Nat) : Int) := by
  rw [Rat.num_divInt, Int.sign_eq_one_of_pos h, Int.one_mul, Int.fdiv_eq_ediv_of_nonneg _ (by omega), Int.gcd, Nat.gcd_comm]
theorem divInt_den_pos {t b : Int} (h : 0 < b) : ((Rat.divInt t b).den : Int) = b.fdiv ((Nat.gcd t.natAbs b.natAbs : Nat) : Int) := by
  have e : ((b.natAbs : Nat) : Int) = b := by omega
  rw [Rat.den_divInt, if_neg (by omega), Int.fdiv_eq_ediv_of_nonneg _ (by omega), Int.gcd, Nat.gcd_comm, Int.natCast_ediv, e]
theorem gcd_pos {t b : Int} (h : b ≠ 0) : 0 < Nat.gcd t.natAbs b.natAbs := Nat.gcd_pos_of_pos_right _ (by omega)
theorem fdiv_neg_gcd {x : Int} {g : Nat} (hg : 0 < g) (hd : (g : Int) ∣ x) : x.fdiv (-(g : Int)) = (-x).fdiv (g : Int) := by
  obtain ⟨q, rfl⟩ := hd
  have e1 : (g : Int) * q = (-(g : Int)) * (-q) := by rw [Int.neg_mul_neg]
  have e2 : -((g : Int) * q) = (g : Int) * (-q) := by rw [Int.mul_neg]
  rw [e2, Int.mul_fdiv_cancel_left _ (by omega), e1, Int.mul_fdiv_cancel_left _ (by omega)]
theorem divInt_num_neg {t b : Int} (h : b < 0) : (Rat.divInt t b).num = t.fdiv (-((Nat.gcd t.natAbs b.natAbs : Nat) : Int)) := by
  rw [show Rat.divInt t b = Rat.divInt (-t) (-b) from (Rat.neg_divInt_neg t b).symm, divInt_num_pos (by omega : 0 < -b), fdiv_neg_gcd (gcd_pos (by omega)) (Int.ofNat_dvd_left.mpr (Nat.gcd_dvd_left _ _)), Int.natAbs_neg, Int.natAbs_neg]
theorem divInt_den_neg {t b : Int} (h : b < 0) : ((Rat.divInt t b).den : Int) = b.fdiv (-((Nat.gcd t.natAbs b.natAbs : Nat) : Int)) := by
  rw [show Rat.divInt t b = Rat.divInt (-t) (-b) from (Rat.neg_divInt_neg t b).symm, divInt_den_pos (by omega : 0 < -b), fdiv_neg_gcd (gcd_pos (by omega)) (Int.ofNat_dvd_left.mpr (Nat.gcd_dvd_right _ _)), Int.natAbs_neg, Int.natAbs_neg]
/-- the size of a fraction -/
def RB (a : Nat) (r : Rat) : Prop := r.num.natAbs < 2 ^ a ∧ r.den < 2 ^ a
theorem RB.divInt {a : Nat} {t b : Int} (h : b ≠ 0) (ht : t.natAbs < 2 ^ a) (hb : b.natAbs < 2 ^ a) : RB a (Rat.divInt t b) := by
  constructor
  · have hd : ((b.gcd t : Nat) : Int) ∣ b.sign * t := Int.dvd_trans (Int.gcd_dvd_right ..) (Int.dvd_mul_left _ _)
    rw [Rat.num_divInt, Int.natAbs_ediv_of_dvd hd, Int.natAbs_mul, Int.natAbs_sign, if_neg h, Nat.one_mul]
    exact Nat.lt_of_le_of_lt (Nat.div_le_self _ _) ht
  · rw [Rat.den_divInt, if_neg h]
    exact Nat.lt_of_le_of_lt (Nat.div_le_self _ _) hb
theorem RB.mono {a b : Nat} {r : Rat} (h : RB a r) (hab : a ≤ b) : RB b r := ⟨Nat.lt_of_lt_of_le h.1 (Nat.pow_le_pow_right (by decide) hab), Nat.lt_of_lt_of_le h.2 (Nat.pow_le_pow_right (by decide) hab)⟩
theorem den_ne (r : Rat) : (r.den : Int) ≠ 0 := by
  have := r.den_nz
  omega
theorem add_eq (r s : Rat) : r + s = Rat.divInt (r.num * s.den + s.num * r.den) (r.den * s.den) := by
  conv => lhs; rw [← Rat.num_divInt_den r, ← Rat.num_divInt_den s]
  exact Rat.divInt_add_divInt _ _ (den_ne r) (den_ne s)
theorem sub_eq (r s : Rat) : r - s = Rat.divInt (r.num * s.den - s.num * r.den) (r.den * s.den) := by
  conv => lhs; rw [← Rat.num_divInt_den r, ← Rat.num_divInt_den s]
  exact Rat.divInt_sub_divInt _ _ (den_ne r) (den_ne s)
theorem mul_eq (r s : Rat) : r * s = Rat.divInt (r.num * s.num) (r.den * s.den) := by
  conv => lhs; rw [← Rat.num_divInt_den r, ← Rat.num_divInt_den s]
  exact Rat.divInt_mul_divInt _ _ ..
theorem divInt_mul_den (t b : Int) (h : b ≠ 0) : (Rat.divInt t b).num * b = t * (Rat.divInt t b).den := by
  have e : Rat.divInt (Rat.divInt t b).num (Rat.divInt t b).den = Rat.divInt t b := Rat.num_divInt_den _
  exact (Rat.divInt_eq_divInt_iff (den_ne _) h).mp e
theorem natAbs_mul_lt {x y : Int} {a b : Nat} (hx : x.natAbs < 2 ^ a) (hy : y.natAbs < 2 ^ b) : (x * y).natAbs < 2 ^ (a + b) := by
  rw [Int.natAbs_mul, Nat.pow_add]
  exact Nat.mul_lt_mul'' hx hy
theorem natAbs_add_lt {x y : Int} {a : Nat} (hx : x.natAbs < 2 ^ a) (hy : y.natAbs < 2 ^ a) : (x + y).natAbs < 2 ^ (a + 1) := by
  rw [Nat.pow_succ]
  omega
theorem natAbs_sub_lt {x y : Int} {a : Nat} (hx : x.natAbs < 2 ^ a) (hy : y.natAbs < 2 ^ a) : (x - y).natAbs < 2 ^ (a + 1) := by
  rw [Nat.pow_succ]
  omega
theorem lt_up {n a b : Nat} (h : n < 2 ^ a) (hab : a ≤ b) : n < 2 ^ b := Nat.lt_of_lt_of_le h (Nat.pow_le_pow_right (by decide) hab)
/-! ### small things -/
theorem ixNat {n j : Nat} (h : j < n) : ixN n (j : Int) = some j := by
  unfold ixN
  rw [if_pos (by omega), if_pos (by omega)]
  rfl
theorem dpInts {K : PySem.W.Frag} {H : Hp} : ∀ cs : List Int, DpAll K H (cs.map V.int) (cs.map PyData.int)
  | [] => .nil
  | _ :: r => .cons (.int _) (dpInts r)
theorem canLayInts : ∀ cs : List Int, PyData.canLayAll0 (cs.map PyData.int) = true
  | [] => by simp [PyData.canLayAll0]
  | x :: r => by simp [PyData.canLayAll0, PyData.canLay0, canLayInts r]
theorem depthInts : ∀ cs : List Int, PyData.depthAll (cs.map PyData.int) = 0
  | [] => by simp [PyData.depthAll]
  | x :: r => by simp [PyData.depthAll, PyData.depth, depthInts r]
theorem shapedInts (cs : List Int) : SeqAt.shaped (.list (cs.map PyData.int)) = true := by
  simp [SeqAt.shaped, PyData.canLay0, PyData.depth, canLayInts, depthInts]
theorem eqvNil : ∀ cs : List Int, PyData.eqv (.list (cs.map PyData.int)) (.list []) = cs.isEmpty
  | [] => by simp [PyData.eqv, PyData.eqvAll]
  | x :: r => by simp [PyData.eqv, PyData.eqvAll]
theorem mulOk {i j : Int} {a b : Nat} (ha : i.natAbs < 2 ^ a) (hb : j.natAbs < 2 ^ b) (h0 : 0 < a) (h1 : 0 < b) (h : a + b ≤ 1000000) : CMulW i j := wide_mul ha hb h0 h1 h
theorem same_upd {H : Hp} {p : Addr} {o : HO} (h : H p = none) : Same H (upd H p o) := fun b x e => by
  rw [upd_ne (ne_of_none e h)]
  exact e
/-! ### dicts whose keys are products: tuples of pairs (name, power) -/
abbrev Pr := List (Str × Int)
def keyN (m : Pr) : NestedKey := .tup (m.map fun x => .tup [.text x.1, .num x.2])
theorem keyN_inj' : ∀ {a b : Pr}, (a.map fun x => NestedKey.tup [.text x.1, .num x.2]) = (b.map fun x => NestedKey.tup [.text x.1, .num x.2]) → a = b
  | [], [], _ => rfl
  | [], _ :: _, h => by simp at h
  | _ :: _, [], h => by simp at h
  | (x1, x2) :: r, (y1, y2) :: t, h => by
    simp only [List.map_cons, List.cons.injEq, NestedKey.tup.injEq, NestedKey.text.injEq, NestedKey.num.injEq, and_true] at h
    obtain ⟨⟨h1, h2⟩, h3⟩ := h
    rw [h1, h2, keyN_inj' h3]
theorem keyN_inj {a b : Pr} (h : keyN a = keyN b) : a = b := by
  unfold keyN at h
  injection h with h
  exact keyN_inj' h
/-- the pair x stands at q; the product m stands at p -/
def PairAt (K : PySem.W.Frag) (H : Hp) (q : Addr) (x : Str × Int) : Prop := SqT K H q [.str x.1, .int x.2]
def ProdAt (K : PySem.W.Frag) (H : Hp) (p : Addr) (m : Pr) : Prop := ∃ qs : List Addr, SqT K H p (qs.map V.ref) ∧ Paired (PairAt K H) qs m
theorem SqT.keeps {K : PySem.W.Frag} {H H' : Hp} {a : Addr} {xs : List V} (h : SqT K H a xs) (k : ∀ b o, Rd H b (.tup o) → Rd H' b (.tup o)) : SqT K H' a xs := by
  rcases h with h | h
  · exact .inl (k _ _ h)
  · exact .inr h
/-- tuples stay -/
def TupsStay (H H' : Hp) : Prop := ∀ b o, Rd H b (.tup o) → Rd H' b (.tup o)
theorem TupsStay.refl (H : Hp) : TupsStay H H := fun _ _ h => h
theorem TupsStay.trans {H H1 H2 : Hp} (a : TupsStay H H1) (b : TupsStay H1 H2) : TupsStay H H2 := fun x o h => b x o (a x o h)
theorem TupsStay.same {H H' : Hp} (s : Same H H') : TupsStay H H' := fun b o h => by
  rcases h with h | ⟨ob, h⟩
  · exact .inl (s _ _ h)
  · exact .inr ⟨ob, s _ _ h⟩
def NotTup : HO → Prop
  | .tup _ => False
  | .frz _ (.tup _) => False
  | _ => True
theorem TupsStay.upd {H : Hp} {d : Addr} {u o : HO} (e : H d = some u) (n : NotTup u) : TupsStay H (upd H d o) := fun b xs h => by
  have nb : b ≠ d := fun z => by
    subst z
    rcases h with h | ⟨ob, h⟩
    · rw [e] at h
      cases h
      exact n
    · rw [e] at h
      cases h
      exact n
  rcases h with h | ⟨ob, h⟩
  · exact .inl (by rw [upd_ne nb]; exact h)
  · exact .inr ⟨ob, by rw [upd_ne nb]; exact h⟩
theorem TupsStay.new {H : Hp} {d : Addr} {o : HO} (e : H d = none) : TupsStay H (L2.upd H d o) := TupsStay.same (same_upd e)
theorem PairAt.stay {K : PySem.W.Frag} {H H' : Hp} {q : Addr} {x : Str × Int} (h : PairAt K H q x) (t : TupsStay H H') : PairAt K H' q x := SqT.keeps h t
theorem ProdAt.stay {K : PySem.W.Frag} {H H' : Hp} {p : Addr} {m : Pr} (h : ProdAt K H p m) (t : TupsStay H H') : ProdAt K H' p m := by
  obtain ⟨qs, h1, h2⟩ := h
  exact ⟨qs, SqT.keeps h1 t, Paired.mapP h2 fun _ _ z => PairAt.stay z t⟩
section
variable {X : Cx} {pins : List (Addr × Obj)} {σ : L2.St} {H : Hp} {s : Shared}
theorem ProdAt.nested (I : Inv X pins σ H s) {p : Addr} {m : Pr} (h : ProdAt X.K H p m) : (nestedKind X.prog X.w).is s.heap (keyN m) p := by
  obtain ⟨qs, h1, h2⟩ := h
  obtain ⟨its, rv, ⟨o, ho, hc, n, hd⟩, _⟩ := I.tuple h1
  have all : ∀ (qs : List Addr) (m : Pr) (its : List Value), Paired (PairAt X.K H) qs m → Vals (qs.map V.ref) its → NestedAll s.heap (m.map fun x => NestedKey.tup [.text x.1, .num x.2]) its := by
    intro qs m its q
    induction q generalizing its with
    | nil =>
      intro r
      cases r
      exact .nil
    | @cons q x qs m hq _ ih =>
      intro r
      rw [List.map_cons] at r
      cases r with
      | cons r1 r2 =>
        cases r1
        obtain ⟨jts, rj, ⟨o', ho', hc', n', hd'⟩, _⟩ := I.tuple hq
        rw [List.map_cons]
        refine .cons (.tup ho' hc' hd' ?_) (ih _ r2)
        cases rj with
        | cons r3 r4 =>
          cases r4 with
          | cons r5 r6 =>
            cases r6
            obtain ⟨t, rfl⟩ := r3
            obtain ⟨t', rfl⟩ := r5
            exact .cons (.text _ _) (.cons (.int _ _) .nil)
  refine ⟨.tup ho hc hd (by simpa using all qs m its h2 rv), ?_⟩
  show (keyN m).depth ≤ 8
  have hdep : ∀ m : Pr, NestedKey.depthAll (m.map fun x => NestedKey.tup [.text x.1, .num x.2]) ≤ 1 := by
    intro m
    induction m with
    | nil => simp [NestedKey.depthAll]
    | cons x r ih =>
      rw [List.map_cons]
      simp only [NestedKey.depthAll, NestedKey.depth]
      omega
  have := hdep m
  show NestedKey.depth (.tup _) ≤ 8
  simp only [NestedKey.depth]
  omega
theorem ProdAt.inj (I : Inv X pins σ H s) {p : Addr} {m m' : Pr} (h : ProdAt X.K H p m) (h' : ProdAt X.K H p m') : m = m' := by
  have a := h.nested I
  have b := h'.nested I
  exact keyN_inj ((nestedKind X.prog X.w).inj a b)
end
/-- the entries of such a dict's object -/
def rawN (w : World) (a : Addr) (xs : List (NestedKey × Addr × Value)) (h : Heap) : Prop :=
  ∃ o es ep, h.get? a = some o ∧ o.ExactDict ∧ o.data = .dict es ep ∧ es.toList = xs.map (fun x => (⟨x.1.hash w, .ref x.2.1, x.2.2⟩ : DictEntry))
def ndO (w : World) (a : Addr) (xs : List (NestedKey × Addr × Value)) : HO := .ext (rawN w a xs)
/-- what its entries are -/
abbrev KN (K : PySem.W.Frag) (H : Hp) : List (Pr × V) → List (NestedKey × Addr × Value) → Prop := Paired fun p q => keyN p.1 = q.1 ∧ ProdAt K H q.2.1 p.1 ∧ RelV p.2 q.2.2
/-- the dict L with such keys stands at d: u is how it stands there -/
structure NDAs (K : PySem.W.Frag) (w : World) (H : Hp) (d : Addr) (L : List (Pr × V)) (xs : List (NestedKey × Addr × Value)) : Prop where
  len : L.length ≤ sizeLine
  sys : (d == sysModules) = false
  rel : KN K H L xs
  nd : (L.map (·.1)).Nodup
def ND (K : PySem.W.Frag) (w : World) (H : Hp) (d : Addr) (L : List (Pr × V)) : Prop := ∃ xs, H d = some (ndO w d xs) ∧ NDAs K w H d L xs
def NF (K : PySem.W.Frag) (w : World) (H : Hp) (d : Addr) (o : Obj) (L : List (Pr × V)) : Prop := ∃ xs, H d = some (.frz o (ndO w d xs)) ∧ NDAs K w H d L xs
/-- .. to be read -/
def NR (K : PySem.W.Frag) (w : World) (H : Hp) (d : Addr) (L : List (Pr × V)) : Prop := ∃ xs, Rd H d (ndO w d xs) ∧ NDAs K w H d L xs
theorem ND.r {K w H d L} (h : ND K w H d L) : NR K w H d L := let ⟨xs, e, n⟩ := h; ⟨xs, .inl e, n⟩
theorem NF.r {K w H d o L} (h : NF K w H d o L) : NR K w H d L := let ⟨xs, e, n⟩ := h; ⟨xs, .inr ⟨o, e⟩, n⟩
theorem NDAs.stay {K w H H' d L xs} (n : NDAs K w H d L xs) (t : TupsStay H H') : NDAs K w H' d L xs := ⟨n.len, n.sys, Paired.mapP n.rel fun _ _ z => ⟨z.1, z.2.1.stay t, z.2.2⟩, n.nd⟩
theorem ND.stay {K w H H' d L} (h : ND K w H d L) (t : TupsStay H H') (k : ∀ o, H d = some o → H' d = some o) : ND K w H' d L := let ⟨xs, e, n⟩ := h; ⟨xs, k _ e, n.stay t⟩
theorem NF.stay {K w H H' d o L} (h : NF K w H d o L) (t : TupsStay H H') (k : ∀ o, H d = some o → H' d = some o) : NF K w H' d o L := let ⟨xs, e, n⟩ := h; ⟨xs, k _ e, n.stay t⟩
theorem NR.stay {K w H H' d L} (h : NR K w H d L) (t : TupsStay H H') (k : ∀ o, H d = some o → H' d = some o) : NR K w H' d L := by
  obtain ⟨xs, e, n⟩ := h
  refine ⟨xs, ?_, n.stay t⟩
  rcases e with e | ⟨o, e⟩
  · exact .inl (k _ e)
  · exact .inr ⟨o, k _ e⟩
section
variable {K : PySem.W.Frag} {H : Hp}
theorem KN.val {kvs : List (Pr × V)} {xs : List (NestedKey × Addr × Value)} (r : KN K H kvs xs) (k : Pr) : RelO (valV kvs k) ((atKey xs (keyN k)).map (·.2)) := by
  induction r with
  | nil => exact True.intro
  | @cons p q ps qs h t ih =>
    obtain ⟨h1, _, h2⟩ := h
    by_cases e : p.1 = k
    · have e' : q.1 = keyN k := by rw [← h1, e]
      have b : atKey (q :: qs) (keyN k) = some q.2 := by simp [atKey, List.find?_cons, e']
      rw [valV_pos e, b]
      exact h2
    · have e' : ¬ q.1 = keyN k := fun z => e (keyN_inj (h1.trans z))
      have b : atKey (q :: qs) (keyN k) = atKey qs (keyN k) := by simp [atKey, List.find?_cons, e']
      rw [valV_neg e, b]
      exact ih
theorem KN.repl {kvs : List (Pr × V)} {xs : List (NestedKey × Addr × Value)} (r : KN K H kvs xs) (k : Pr) {y : V} {u : Value} (ry : RelV y u) :
    KN K H (kvs.map fun kv => if kv.1 = k then (kv.1, y) else kv) (xs.map (putAt (keyN k) u)) := by
  induction r with
  | nil => exact .nil
  | @cons p q ps qs h t ih =>
    rw [List.map_cons, List.map_cons]
    refine .cons ?_ ih
    obtain ⟨h1, h2, h3⟩ := h
    unfold putAt
    by_cases e : p.1 = k
    · rw [if_pos e, if_pos (by rw [← h1, e])]
      exact ⟨h1, h2, ry⟩
    · rw [if_neg e, if_neg (fun z => e (keyN_inj (h1.trans z)))]
      exact ⟨h1, h2, h3⟩
theorem KN.put {kvs : List (Pr × V)} {xs : List (NestedKey × Addr × Value)} (r : KN K H kvs xs) (k : Pr) {b : Addr} {y : V} {u : Value} (hb : ProdAt K H b k) (ry : RelV y u) :
    KN K H (putK kvs k y) (storedH xs (keyN k) b u) := by
  have e : (kvs.any fun kv => decide (kv.1 = k)) = (atKey xs (keyN k)).isSome := by
    rw [valV_any, (r.val k).isSome_eq, Option.isSome_map]
  unfold putK storedH
  rw [e]
  by_cases q : (atKey xs (keyN k)).isSome = true
  · rw [if_pos q, if_pos q]
    exact r.repl k ry
  · rw [if_neg q, if_neg q]
    exact Paired.snoc r ⟨rfl, hb, ry⟩
theorem KN.drop {kvs : List (Pr × V)} {xs : List (NestedKey × Addr × Value)} (r : KN K H kvs xs) (k : Pr) : KN K H (dropK kvs k) (withoutH xs (keyN k)) := by
  induction r with
  | nil => exact .nil
  | @cons p q ps qs h t ih =>
    obtain ⟨h1, h2, h3⟩ := h
    unfold dropK withoutH
    rw [List.filter_cons, List.filter_cons]
    by_cases e : p.1 = k
    · rw [if_neg (by simp [e]), if_neg (by simp [← h1, e])]
      exact ih
    · rw [if_pos (by simp [e]), if_pos (by simp only [decide_eq_true_eq]; exact fun z => e (keyN_inj (h1.trans z)))]
      exact .cons ⟨h1, h2, h3⟩ ih
theorem nd_put {kvs : List (Pr × V)} (k : Pr) (v : V) (h : (kvs.map (·.1)).Nodup) : ((putK kvs k v).map (·.1)).Nodup := by
  unfold putK
  split
  · have e : (kvs.map fun kv => if kv.1 = k then (kv.1, v) else kv).map (·.1) = kvs.map (·.1) := by
      rw [List.map_map]
      refine List.map_congr_left fun x _ => ?_
      show (if x.1 = k then (x.1, v) else x).1 = x.1
      split <;> rfl
    rw [e]
    exact h
  · rename_i hn
    rw [List.map_append]
    refine List.nodup_append.mpr ⟨h, by simp, fun a ha b hb z => ?_⟩
    have eb : b = k := by simpa using hb
    subst z
    subst eb
    obtain ⟨x, hx, e⟩ := List.mem_map.mp ha
    exact hn (List.any_eq_true.mpr ⟨x, hx, by simp [e]⟩)
theorem nd_drop {kvs : List (Pr × V)} (k : Pr) (h : (kvs.map (·.1)).Nodup) : ((dropK kvs k).map (·.1)).Nodup := by
  unfold dropK
  exact h.sublist (List.Sublist.map _ List.filter_sublist)
end
section
variable {X : Cx} {pins : List (Addr × Obj)} {σ : L2.St} {H : Hp} {s : Shared} {a : Addr}
theorem rawN_ok {xs : List (NestedKey × Addr × Value)} (I : Inv X pins σ H s) (e : Rd H a (ndO X.w a xs)) : rawN X.w a xs s.heap := by
  have z : ObjOk X.prog X.w H s.heap a (ndO X.w a xs) := e.ok I.hok
  exact z.1
theorem keys_ok {L : List (Pr × V)} {xs : List (NestedKey × Addr × Value)} (I : Inv X pins σ H s) (r : KN X.K H L xs) : ∀ x ∈ xs, (nestedKind X.prog X.w).is s.heap x.1 x.2.1 := by
  induction r with
  | nil => intro x hx; exact nomatch hx
  | @cons p q ps qs h t ih =>
    intro x hx
    rcases List.mem_cons.mp hx with e | hx
    · subst e
      rw [← h.1]
      exact h.2.1.nested I
    · exact ih x hx
theorem keys_map {L : List (Pr × V)} {xs : List (NestedKey × Addr × Value)} {K : PySem.W.Frag} (r : KN K H L xs) : xs.map (·.1) = (L.map (·.1)).map keyN := by
  induction r with
  | nil => rfl
  | @cons p q ps qs h t ih => rw [List.map_cons, List.map_cons, List.map_cons, ih, ← h.1]
theorem nodup_keys {l : List Pr} (h : l.Nodup) : (l.map keyN).Nodup := by
  induction l with
  | nil => exact List.nodup_nil
  | cons x r ih =>
    obtain ⟨h1, h2⟩ := List.nodup_cons.mp h
    rw [List.map_cons]
    refine List.nodup_cons.mpr ⟨fun z => ?_, ih h2⟩
    obtain ⟨y, hy, e⟩ := List.mem_map.mp z
    rw [keyN_inj e] at hy
    exact h1 hy
/-- the library's own view of it -/
theorem NDAs.dict {L : List (Pr × V)} {xs : List (NestedKey × Addr × Value)} (I : Inv X pins σ H s) (n : NDAs X.K X.w H a L xs) (e : Rd H a (ndO X.w a xs)) : s.heap.DictOfH (nestedKind X.prog X.w) a xs := by
  obtain ⟨o, es, ep, h1, h2, h3, h4⟩ := rawN_ok I e
  refine ⟨o, es, ep, h1, h2, h3, h4, keys_ok I n.rel, ?_⟩
  rw [keys_map n.rel]
  exact nodup_keys n.nd
theorem rawN_of {h : Heap} {prog : Program} {w : World} {xs : List (NestedKey × Addr × Value)} (d : h.DictOfH (nestedKind prog w) a xs) : rawN w a xs h := by
  obtain ⟨o, es, ep, h1, h2, h3, h4, _⟩ := d
  exact ⟨o, es, ep, h1, h2, h3, h4⟩
theorem ndO_ok {prog : Program} {w : World} {H' : Hp} {h : Heap} {xs : List (NestedKey × Addr × Value)} (r : rawN w a xs h) : ObjOk prog w H' h a (ndO w a xs) := by
  refine ⟨r, let ⟨o, _, _, e, _⟩ := r; ⟨o, e⟩, fun h1 h2 x k => ?_⟩
  obtain ⟨o, es, ep, e, q⟩ := x
  exact ⟨o, es, ep, k _ e, q⟩
theorem notTup_nd {w : World} {xs : List (NestedKey × Addr × Value)} : NotTup (ndO w a xs) := True.intro
theorem notTup_ndf {w : World} {o : Obj} {xs : List (NestedKey × Addr × Value)} : NotTup (.frz o (ndO w a xs)) := True.intro
/-- its object is changed -/
theorem nd_write {L L' : List (Pr × V)} {xs xs' : List (NestedKey × Addr × Value)} {h' : Heap} {t' : Nat} (I : Inv X pins σ H s) (e : H a = some (ndO X.w a xs)) (hl : L'.length ≤ sizeLine) (n : NDAs X.K X.w H a L xs) (rel : KN X.K H L' xs') (hn : (L'.map (·.1)).Nodup)
    (dd : h'.DictOfH (nestedKind X.prog X.w) a xs') (hs : Heap.SameBut a s.heap h') : Inv X pins σ (upd H a (ndO X.w a xs')) { s with heap := h', toks := t' } ∧ ND X.K X.w (upd H a (ndO X.w a xs')) a L' := by
  have r := rawN_of dd
  refine ⟨d_write I (by rw [e]; exact True.intro) hs (let ⟨o, _, _, z, _⟩ := r; ⟨o, z⟩) (ndO_ok r), xs', upd_same, ?_⟩
  exact NDAs.stay (H := H) ⟨hl, n.sys, rel, hn⟩ (TupsStay.upd e True.intro)
theorem room9 {A : Around} (hu : A.units + 64 < cLine) : (nestedKind X.prog X.w).room A.in1 := by
  show A.in1.units + 8 < cLine
  rw [Around.in1_units]
  omega
theorem NR.typeIs {L : List (Pr × V)} (I : Inv X pins σ H s) (h : NR X.K X.w H a L) : s.TypeIs (.ref a) "dict" ∧ (∀ b, Value.ref a = .ref b → ∃ ob, s.heap.get? b = some ob ∧ ob.dict = none) ∧ (a == sysModules) = false := by
  obtain ⟨xs, e, n⟩ := h
  obtain ⟨o, es, ep, h1, h2, h3, h4⟩ := rawN_ok I e
  refine ⟨⟨o, h1, h2.1⟩, fun b q => ?_, n.sys⟩
  cases q
  exact ⟨o, h1, h2.2.1⟩
end
/-! ### their rules -/
def tNewN (w : World) : TE := fun _ H Q => ∀ p, H p = none → (p == sysModules) = false → Q (.ref p) (upd H p (ndO w p []))
def tGetN (K : PySem.W.Frag) (w : World) (td ty tx : TE) : TE := fun σ H Q => td σ H fun x H1 => ∃ a L0, x = .ref a ∧ NR K w H1 a L0 ∧ ty σ H1 fun y H2 => tx σ H2 fun z H3 => ∃ L k b, y = .ref b ∧ NR K w H3 a L ∧ ProdAt K H3 b k ∧ Q ((valV L k).getD z) H3
def tPopN (K : PySem.W.Frag) (w : World) (td ty tx : TE) : TE := fun σ H Q => td σ H fun x H1 => ∃ a L0, x = .ref a ∧ NR K w H1 a L0 ∧ ty σ H1 fun y H2 => tx σ H2 fun z H3 => ∃ L k b, y = .ref b ∧ ND K w H3 a L ∧ ProdAt K H3 b k ∧
  (∀ v o, valV L k = some v → ND K w (upd H3 a o) a (dropK L k) → Q v (upd H3 a o)) ∧ (valV L k = none → Q z H3)
def sPutN (K : PySem.W.Frag) (w : World) (td ty tv : TE) : TS := fun D σ H => tv σ H fun v H1 => td σ H1 fun x H2 => ty σ H2 fun y H3 => ∃ a L k b, x = .ref a ∧ y = .ref b ∧ ND K w H3 a L ∧ L.length < sizeLine ∧ ProdAt K H3 b k ∧
  ∀ o, ND K w (upd H3 a o) a (putK L k v) → D.nx σ (upd H3 a o)
section
variable {X : Cx} {o e f i value : Expr} {apos cpos pos pos' : Pos} {td ty tx tv : TE}
theorem pe_newN : PE X (.Dict [] [] pos) (tNewN X.w) := ⟨fun pins s σ H Q I h =>
  wpAny_Dict_empty ⟨.ref s.heap.objs.size, _, I.laid (a := s.heap.objs.size) (o := ndO X.w s.heap.objs.size []) (t' := s.toks) (fun _ _ q => Heap.get?_push_of_some _ q) (Nat.le_refl _)
    (ndO_ok ⟨_, #[], 0, Heap.get?_push_size _ rfl, ⟨rfl, rfl, rfl⟩, rfl, rfl⟩), rfl, h _ (I.hok.fresh (Nat.le_refl _)) (beq_eq_false_iff_ne.mpr (Ne.symm (Nat.ne_of_lt I.big)))⟩⟩
theorem pe_getN (hu : X.A.units + 64 < cLine) (ho : PE X o td) (he : PE X e ty) (hf : PE X f tx) (m : M2 X o "get" apos e f cpos) : PE X (.Call (.Attribute o "get" apos) [e, f] [] cpos) (tGetN X.K X.w td ty tx) := by
  refine ⟨fun pins s σ H Q I h => ?_⟩
  refine wpAny_Call_method m.base m.few m.line PySem.F.plainAttrs_dict PySem.F.slot_dict_get PySem.F.type_dict_get (thn (ho.run pins s σ H _ I h) fun u s1 ⟨x, H1, I1, rx, a, L0, ex, d, q1⟩ => ?_)
  subst ex
  obtain rfl : u = Value.ref a := rx
  obtain ⟨t1, t2, _⟩ := d.typeIs I1
  refine ⟨t1, t2, ?_⟩
  rw [m.trees]
  refine Calls.callWith_builtin rfl (Calls.evalArgs_plain (Calls.spliced_cons (thn (he.run pins s1 σ H1 _ I1 q1) fun iv s2 ⟨y, H2, I2, ry, q2⟩ =>
    Calls.spliced_cons (thn (hf.run pins s2 σ H2 _ I2 q2) fun fv s3 ⟨z, H3, I3, rz, L, k, b, ey, g, hk, q3⟩ => Calls.spliced_nil ?_))))
  subst ey
  obtain rfl : iv = Value.ref b := ry
  obtain ⟨xs, er, n⟩ := g
  have dd := n.dict I3 er
  refine call_meetsIn PySem.F.slot_dict_get dd.typeIs PySem.F.entry_dict_get (PySem.F.args_dict_get_3 _ _ _) (meetsH_dict_get_default (nestedKind X.prog X.w) a b n.sys fv) ⟨room9 hu, keyN k, xs, hk.nested I3, dd, ?_⟩
  exact ⟨_, H3, I3.tok _, (n.rel.val k).getD rz, q3⟩
theorem pe_popN (hu : X.A.units + 64 < cLine) (ho : PE X o td) (he : PE X e ty) (hf : PE X f tx) (m : M2 X o "pop" apos e f cpos) : PE X (.Call (.Attribute o "pop" apos) [e, f] [] cpos) (tPopN X.K X.w td ty tx) := by
  refine ⟨fun pins s σ H Q I h => ?_⟩
  refine wpAny_Call_method m.base m.few m.line PySem.F.plainAttrs_dict PySem.F.slot_dict_pop PySem.F.type_dict_pop (thn (ho.run pins s σ H _ I h) fun u s1 ⟨x, H1, I1, rx, a, L0, ex, d, q1⟩ => ?_)
  subst ex
  obtain rfl : u = Value.ref a := rx
  obtain ⟨t1, t2, _⟩ := d.typeIs I1
  refine ⟨t1, t2, ?_⟩
  rw [m.trees]
  refine Calls.callWith_builtin rfl (Calls.evalArgs_plain (Calls.spliced_cons (thn (he.run pins s1 σ H1 _ I1 q1) fun iv s2 ⟨y, H2, I2, ry, q2⟩ =>
    Calls.spliced_cons (thn (hf.run pins s2 σ H2 _ I2 q2) fun fv s3 ⟨z, H3, I3, rz, L, k, b, ey, g, hk, q3, q4⟩ => Calls.spliced_nil ?_))))
  subst ey
  obtain rfl : iv = Value.ref b := ry
  obtain ⟨xs, er, n⟩ := g
  have dd := n.dict I3 (.inl er)
  have hz : xs.length ≤ sizeLine := by rw [← Paired.length n.rel]; exact n.len
  cases l : valV L k with
  | none =>
    have hn : atKey xs (keyN k) = none := Option.map_eq_none_iff.mp (RelO.none_of (by rw [← l]; exact n.rel.val k))
    exact PySem.call_pop_default_heap (hsz := hz) (room9 hu) (hk.nested I3) n.sys dd hn fun tk => ⟨z, H3, I3.tok _, rz, q4 l⟩
  | some v =>
    obtain ⟨w', hw, rw'⟩ := RelO.some_of (v := v) (o := (atKey xs (keyN k)).map (·.2)) (by rw [← l]; exact n.rel.val k)
    obtain ⟨p, hp, hp2⟩ := Option.map_eq_some_iff.mp hw
    refine PySem.call_pop_heap (hsz := hz) (.inr ⟨fv, rfl⟩) (PySem.F.args_dict_pop_3 _ _ _) (room9 hu) (hk.nested I3) n.sys dd hp fun h' hm' hs => ?_
    have hl : (dropK L k).length ≤ sizeLine := Nat.le_trans (dropK_le L k) n.len
    obtain ⟨I4, n4⟩ := nd_write (t' := s3.toks + (nestedKind X.prog X.w).draws (keyN k)) I3 er hl n (n.rel.drop k) (nd_drop k n.nd) hm' hs
    rw [hp2]
    exact ⟨v, _, I4, rw', q3 v _ l n4⟩
theorem ps_putN (hu : X.A.units + 64 < cLine) (ho : PE X o td) (hi : PE X i ty) (hv : PE X value tv) (hs : swapsWith value (some (.Subscript o i pos')) pos.line X.env = pure false) :
    PS X (.Assign [.Subscript o i pos'] value pos) (sPutN X.K X.w td ty tv) := by
  refine ⟨fun pins s σ H D I h => ?_⟩
  refine wpAny_Assign_Subscript (thn (hv.run pins s σ H _ I h) fun r s1 ⟨v, H1, I1, rv, q1⟩ => thn (ho.run pins s1 σ H1 _ I1 q1) fun u s2 ⟨x, H2, I2, rx, q2⟩ => thn (hi.run pins s2 σ H2 _ I2 q2) fun iv s3 ⟨y, H3, I3, ry, a, L, k, b, ex, ey, g, hlt, hk, q3⟩ => ?_) hs
  subst ex ey
  obtain rfl : u = Value.ref a := rx
  obtain rfl : iv = Value.ref b := ry
  obtain ⟨xs, er, n⟩ := g
  have dd := n.dict I3 (.inl er)
  have hz : xs.length ≤ sizeLine := by rw [← Paired.length n.rel]; exact n.len
  refine PySem.wpAny_setItem_heap (hsz := hz) (room9 hu) (hk.nested I3) dd fun h' dd' hs' => ?_
  have hl : (putK L k v).length ≤ sizeLine := by have := length_putK L k v; omega
  obtain ⟨I4, n4⟩ := nd_write (t' := s3.toks + (nestedKind X.prog X.w).draws (keyN k)) I3 er hl n (n.rel.put k hk rv) (nd_put k v n.nd) dd' hs'
  exact ⟨σ, _, I4, q3 _ n4⟩
end
/-! ### .. walked by its pairs, and copied by a comprehension -/
/-- the entries of such a dict that is locked -/
theorem NF.entries {X : Cx} {pins : List (Addr × Obj)} {σ : L2.St} {H : Hp} {s : Shared} {d : Addr} {o : Obj} {L : List (Pr × V)} (I : Inv X pins σ H s) (h : NF X.K X.w H d o L) :
    s.heap.get? d = some o ∧ ∃ es ep, o.data = .dict es ep ∧ DT.Raw s.heap d es ep ∧ es.size = L.length ∧
      ∀ i (hi : i < es.size), ∃ (k : Pr) (v : V) (b : Addr), L[i]? = some (k, v) ∧ es[i].key = .ref b ∧ RelV v es[i].val ∧ ProdAt X.K H b k := by
  obtain ⟨xs, e, n⟩ := h
  have hd : s.heap.get? d = some o := (I.hok d _ e).1
  obtain ⟨o', es, ep, h1, h2, h3, h4⟩ := rawN_ok I (.inr ⟨o, e⟩)
  rw [hd] at h1
  cases h1
  have hl : L.length = xs.length := Paired.length n.rel
  have hs : es.size = L.length := by rw [← Array.length_toList, h4, List.length_map, hl]
  refine ⟨hd, es, ep, h3, ⟨o, hd, h2, h3⟩, hs, fun i hi => ?_⟩
  have hiL : i < L.length := by omega
  obtain ⟨q, hq, r1, r2, r3⟩ := paired_get n.rel (List.getElem?_eq_getElem hiL)
  have en : es[i] = (⟨q.1.hash X.w, .ref q.2.1, q.2.2⟩ : DictEntry) := by
    have z : es[i]? = (xs.map (fun x => (⟨x.1.hash X.w, .ref x.2.1, x.2.2⟩ : DictEntry)))[i]? := by rw [← Array.getElem?_toList, h4]
    rw [List.getElem?_map, hq, Array.getElem?_eq_getElem hi] at z
    exact Option.some.inj z
  exact ⟨L[i].1, L[i].2, q.2.1, List.getElem?_eq_getElem hiL, by rw [en], by rw [en]; exact r3, r2⟩
/-- its pairs, each a new tuple -/
def ItN (K : PySem.W.Frag) (w : World) (d : Addr) (o : Obj) (L : List (Pr × V)) : It :=
  ⟨fun i H => NF K w H d o L ∧ i < L.length, fun i H x H' => ∃ (T b : Addr) (k : Pr) (v : V), L[i]? = some (k, v) ∧ x = .ref T ∧ H T = none ∧ ProdAt K H b k ∧ H' = upd H T (.tup [.ref b, v]), fun i H => NF K w H d o L ∧ L.length ≤ i⟩
theorem turn_itemsN {P : Program} {w : World} {K : PySem.W.Frag} {d : Addr} {o : Obj} {es : Array DictEntry} {ep : Nat} {L : List (Pr × V)} {elts : List Expr} {kk : Nat} {tpos : Pos} (it : Addr) (hod : o.data = .dict es ep) (hsz : es.size = L.length) :
    Turn P w K (.Tuple elts kk tpos) (ItN K w d o L) [it] it (fun i h => ∃ ok ov, IsItemIter h it d i es.size ep ok ov) where
  mem := by simp
  obj := fun i h ⟨ok, ov, e⟩ b hb => by
    cases (show b = it by simpa using hb)
    exact ⟨_, e, fun v z => nomatch z⟩
  keep := fun i h h' ⟨ok, ov, e⟩ k => ⟨ok, ov, k it (by simp) _ e⟩
  item := by
    intro X hP hw hK hc i pins s σ H E I hf st hg
    subst hP hw hK
    obtain ⟨hF, hi⟩ := hg
    obtain ⟨hgd, es', ep', hdt, raw, _, ent⟩ := hF.entries I
    obtain ⟨rfl, rfl⟩ := dict_ep hod hdt
    obtain ⟨ok, ov, he⟩ := st
    have hi' : i < es'.size := by omega
    obtain ⟨k, v, b, hL, hk, rv, hb⟩ := ent i hi'
    have hlt : it < s.heap.objs.size := Heap.lt_size he
    refine DT.nextI he raw hi' fun h1 hout hT hz hk1 => ⟨_, rfl, wpAny_letOwnedTupleGo_items (s := { s with heap := h1 }) hout fun h2 he2 sb => ?_⟩
    have keepAll : ∀ c ob, c ∉ [it] → s.heap.get? c = some ob → h2.get? c = some ob := fun c ob hc' e => (sb.2 c (by simpa using hc')).trans (hk1 c ob (by simpa using hc') e)
    have tupAt : h2.get? s.heap.objs.size = some { cls := .type "tuple", data := .seq #[es'[i].key, es'[i].val] } := (sb.2 _ (Nat.ne_of_gt hlt)).trans hT
    have fresh : H s.heap.objs.size = none := I.hok.fresh (Nat.le_refl _)
    have okT : ObjOk X.prog X.w (upd H s.heap.objs.size (.tup [.ref b, v])) h2 s.heap.objs.size (.tup [.ref b, v]) :=
      ⟨by show 2 ≤ sizeLine; decide, [es'[i].key, es'[i].val], .cons hk (.cons rv .nil), ⟨_, tupAt, rfl, _, rfl⟩⟩
    refine ⟨.ref s.heap.objs.size, _, I.turnedNew (t' := s.toks) (ch := [it]) keepAll hf (Nat.le_refl _) okT, rfl, ⟨_, b, k, v, hL, rfl, fresh, hb, rfl⟩, ⟨_, _, he2⟩, fun c hc' => ?_⟩
    cases (show c = it by simpa using hc')
    rw [upd_ne (Nat.ne_of_lt hlt)]
    exact (hf it (by simp)).1
  done := by
    intro X hP hw hK hc i pins s σ H E I hf st hg
    subst hP hw hK
    obtain ⟨hF, hi⟩ := hg
    obtain ⟨hgd, es', ep', hdt, raw, hs', _⟩ := hF.entries I
    obtain ⟨rfl, rfl⟩ := dict_ep hod hdt
    obtain ⟨f0, f1, f2, f3, f4, f5⟩ := hf it (by simp)
    obtain ⟨ok, ov, he⟩ := st
    exact DT.endI (I.ok.hd hc) he raw (by omega) fun h' eb => ⟨rfl, I.turned (t' := s.toks) (fun c ob hc' e => eb c ob hc' e) f0 f1 f3 f4 f5⟩
  self := fun A i s Q E ⟨_, _, e⟩ h => PySem.W.kcp_self e h
def iItemsN (K : PySem.W.Frag) (w : World) (td : TE) : TI := fun σ H R => td σ H fun x H1 => ∃ d o L, x = .ref d ∧ NF K w H1 d o L ∧ R (ItN K w d o L) H1
theorem pi_itemsN {X : Cx} {e : Expr} {td : TE} {apos cpos : Pos} {elts : List Expr} {kk : Nat} {tpos : Pos} (he : PE X e td) (hbase : attributeBase e "items" X.env (eval e X.env) = eval e X.env := by rfl) (hline : (apos.endLine == cpos.line) = true := by rfl) :
    PI X (.Tuple elts kk tpos) (.Call (.Attribute e "items" apos) [] [] cpos) (iItemsN X.K X.w td) := by
  refine ⟨fun pins s σ H R I h => wpAny_Call_method (T := "dict") (id := "dict.items") hbase rfl hline F.plainAttrs_dict F.slot_dict_items F.type_dict_items (thn (he.run pins s σ H _ I h) fun u s1 ⟨x, H1, I1, rx, d, o, L, ex, hF, q⟩ => ?_)⟩
  subst ex
  obtain rfl : u = Value.ref d := rx
  obtain ⟨t1, t2, hs⟩ := hF.r.typeIs I1
  obtain ⟨hgd, es, ep, hdt, raw, hsz, _⟩ := hF.entries I1
  refine ⟨t1, t2, ?_⟩
  have view : Inv X pins σ H1 { s1 with heap := s1.heap.push { cls := .type "dict_items", data := .fields #[.ref d] } } := I1.kept (t' := s1.toks) fun b ob z => Heap.get?_push_of_some _ z
  refine method_meetsIn F.slot_dict_items F.entry_dict_items rfl (PySem.evalArgs_none ⟨rfl, raw.typeIs, F.args_dict_items_1 _, _, DT.meetsItems (es := es) (ep := ep) hs, raw, ?_⟩)
  refine DT.iterI (d := d) (es := es) (ep := ep) (s := { s1 with heap := s1.heap.push { cls := .type "dict_items", data := .fields #[.ref d] } }) ⟨_, Heap.get?_push_size _ rfl, rfl, rfl⟩ (raw.push _) ?_
  exact pi_one (tk := s1.toks) view _ (turn_itemsN _ hdt hsz) ⟨.none, .none, Heap.get?_push_size _ rfl⟩ q
/-- for k, v in d.items() by turns -/
theorem for_itemsN {K : PySem.W.Frag} {w : World} {d : Addr} {o : Obj} {L : List (Pr × V)} {g : TG} {tb : TS} {D : Ends} {σ : L2.St} {H : Hp} (Pv : Nat → L2.St → Hp → Prop) (h0 : Pv 0 σ H) (hl : ∀ i σ H, i ≤ L.length → Pv i σ H → NF K w H d o L)
    (hs : ∀ i k v σ H T b, L[i]? = some (k, v) → Pv i σ H → H T = none → ProdAt K H b k → g (.ref T) σ (upd H T (.tup [.ref b, v])) fun σ2 H2 => tb { D with nx := Pv (i + 1), ct := Pv (i + 1), bk := D.nx } σ2 H2) (hd : ∀ σ H, Pv L.length σ H → D.nx σ H) :
    ∃ W : Nat → Nat → L2.St → Hp → Prop, (∃ m, W 0 m σ H) ∧ ∀ i m σ H, W i m σ H → ((ItN K w d o L).stop i H ∧ D.nx σ H) ∨ ((ItN K w d o L).go i H ∧ ∃ N : L2.St → Hp → Prop, (∀ σ' H', N σ' H' → ∃ m', m' < m ∧ W (i + 1) m' σ' H') ∧
      ∀ x H', (ItN K w d o L).yld i H x H' → g x σ H' fun σ2 H2 => tb { D with nx := N, ct := N, bk := D.nx } σ2 H2) := by
  refine ⟨fun i m σ H => m = L.length - i ∧ i ≤ L.length ∧ Pv i σ H, ⟨_, rfl, Nat.zero_le _, h0⟩, fun i m σ H ⟨em, hi, p⟩ => ?_⟩
  have F := hl i σ H hi p
  by_cases lt : i < L.length
  · refine .inr ⟨⟨F, lt⟩, Pv (i + 1), fun σ' H' p' => ⟨L.length - (i + 1), by omega, rfl, lt, p'⟩, fun x H' ⟨T, b, k, v, hL, ex, nT, hb, eH⟩ => ?_⟩
    subst ex
    subst eH
    exact hs i k v σ H T b hL p nT hb
  · have e : i = L.length := by omega
    subst e
    exact .inl ⟨⟨F, Nat.le_refl _⟩, hd σ H p⟩
/-! ### a dict comprehension whose keys are products -/
def setN (K : PySem.W.Frag) (w : World) (D : Addr) (y z : V) (H : Hp) (Nx : Hp → Prop) : Prop := ∃ L k b, y = .ref b ∧ ND K w H D L ∧ L.length < sizeLine ∧ ProdAt K H b k ∧ ∀ o, ND K w (upd H D o) D (putK L k z) → Nx (upd H D o)
theorem setN_run {X : Cx} {pins : List (Addr × Obj)} {σ : L2.St} {H : Hp} {s : Shared} {E : Value → Shared → Prop} {D : Addr} {y z : V} {u r : Value} {Nx : Hp → Prop} {Q : Unit → Shared → Prop} (hu : X.A.units + 64 < cLine) (I : Inv X pins σ H s) (ry : RelV y u) (rz : RelV z r)
    (st : setN X.K X.w D y z H Nx) (h : ∀ s' H', Inv X pins σ H' s' → Nx H' → Q () s') : wpAny (model X.prog X.w) X.A (dictSet D u r) Q E s := by
  obtain ⟨L, k, b, ey, ⟨xs, er, n⟩, hlt, hk, q⟩ := st
  subst ey
  obtain rfl : u = Value.ref b := ry
  have dd := n.dict I (.inl er)
  have room : (nestedKind X.prog X.w).room X.A := by
    show X.A.units + 8 < cLine
    omega
  refine PySem.wpAny_dictSet_heap (hsz := by rw [← Paired.length n.rel]; exact n.len) room (hk.nested I) dd fun h' dd' hs' => ?_
  have hl : (putK L k z).length ≤ sizeLine := by have := length_putK L k z; omega
  obtain ⟨I', n'⟩ := nd_write (t' := s.toks + (nestedKind X.prog X.w).draws (keyN k)) I er hl n (n.rel.put k hk rz) (nd_put k z n.nd) dd' hs'
  exact h _ _ I' (q _ n')
section
variable {X : Cx}
/-- {k: v for target in iter if ..}: D the new dict -/
def tDn (K : PySem.W.Frag) (w : World) (wi : TI) (g : TG) (tt : TT) (tk tv : TE) (vs : List Nat) : TE := fun σ H Q => wi σ H fun J H1 => ∀ D, H1 D = none → (D == sysModules) = false → ∃ W : Nat → Nat → Hp → Prop, (∃ m, W 0 m (upd H1 D (ndO w D []))) ∧ ∀ i m H, W i m H →
  (J.stop i H ∧ Q (.ref D) H) ∨ (J.go i H ∧ ∃ Nx : Hp → Prop, (∀ H', Nx H' → ∃ m', m' < m ∧ W (i + 1) m' H') ∧ ∀ x H', J.yld i H x H' → g x (wipe σ vs) H' fun σ2 H2 => wipe σ2 vs = wipe σ vs ∧ tt σ2 H2 fun b H3 =>
    if b = true then tk σ2 H3 fun y H4 => tv σ2 H4 fun z H5 => setN K w D y z H5 Nx else Nx H3)
theorem dn_core {pins : List (Addr × Obj)} {s : Shared} {σ : L2.St} {H : Hp} {Q : VK} {kx vx tg iter : Expr} {ifs : List Expr} {scope : Scope} {own : List (Str × Nat)} {pos pos' : Pos} {wi : TI} {g : TG} {tt : TT} {tk tv : TE} {use : Option (Value → Sem Unit)} {Qf : Value → Shared → Prop}
    (hu : X.A.units + 64 < cLine) (hc : X.calm = true) (hN : X.N.Nodup) (I : Inv X pins σ H s) (hi : PI X tg iter wi) (ok : BlkOk X.N X.env.scope scope own)
    (hg : ∀ (s : Shared) (H : Hp) (C : Addr) (cl : List (Str × Addr)) (fp : List Addr), PG (X.blk s H scope (compEnvC scope cl C X.env) fp) tg g) (ht : ∀ (s : Shared) (H : Hp) (C : Addr) (cl : List (Str × Addr)) (fp : List Addr), PTs (X.blk s H scope (compEnvC scope cl C X.env) fp) ifs tt) (hk : ∀ (s : Shared) (H : Hp) (C : Addr) (cl : List (Str × Addr)) (fp : List Addr), PE (X.blk s H scope (compEnvC scope cl C X.env) fp) kx tk) (he : ∀ (s : Shared) (H : Hp) (C : Addr) (cl : List (Str × Addr)) (fp : List Addr), PE (X.blk s H scope (compEnvC scope cl C X.env) fp) vx tv) (hs : ∀ x, foldedSetIterable iter X.env x = pure x)
    (h : tDn X.K X.w wi g tt tk tv (own.map (·.2)) σ H Q)
    (hRR : ∀ D C s' m H', Inv X pins σ H' s' → Q (.ref D) H' → s'.heap.Ns C m → FpOk X pins H' C → compPost (model X.prog X.w) X.A X.xe use Qf (.ref D) C (.ok .next) s') :
    wpAny (model X.prog X.w) X.A (comprehension (.DictComp kx vx [⟨tg, iter, ifs, 0⟩] scope pos) scope X.env pos' newDict false (eval iter X.env) use) Qf X.xe s := by
  have free : ∀ y ∈ scope.names, y.2 = .free → ∃ c, X.env.cells.lookup y.1 = some c := fun y hy e => (ok.free y hy e).elim (fun k => I.ok.has _ (.inl k)) (fun k => I.ok.has _ (.inr k))
  refine wpAny_comprehension_free (use := use) rfl hs (closure_ok free) ok.kind (fun y hy e => by rw [ok.uniq y hy, e]) (thn (hi.run pins s σ H _ I h) fun _ _ hx => thn hx fun _ s2 h2 => ?_)
  obtain ⟨it, fp, tn, J, H2, rfl, I2, T, st2, f2, q⟩ := h2
  refine wpAny_newObj_type (newEnv_comp ?_)
  -- the new dict, at D
  generalize hD : s2.heap.objs.size = D
  have nD : H2 D = none := I2.hok.fresh (Nat.le_of_eq hD)
  have sD : (D == sysModules) = false := by rw [← hD]; exact beq_eq_false_iff_ne.mpr (Ne.symm (Nat.ne_of_lt I2.big))
  obtain ⟨W, ⟨m0, w0⟩, turn⟩ := q D nD sD
  generalize hs3 : ({ s2 with heap := s2.heap.push { cls := .type "dict", data := .dict #[] } } : Shared) = s3
  have h3 : s3.heap = s2.heap.push { cls := .type "dict", data := .dict #[] } := by rw [← hs3]
  have I3 : Inv X pins σ (upd H2 D (ndO X.w D [])) s3 := by
    subst hs3
    refine I2.laid (t' := s2.toks) (fun b o e => Heap.get?_push_of_some _ e) (Nat.le_of_eq hD) (ndO_ok ⟨{ cls := .type "dict", data := .dict #[] }, #[], 0, ?_, ⟨rfl, rfl, rfl⟩, rfl, rfl⟩)
    rw [← hD]
    exact Heap.get?_push_size _ rfl
  have below : ∀ b ∈ fp, b < s2.heap.objs.size := fun b hb => let ⟨_, e, _⟩ := T.obj _ _ st2 b hb; Heap.lt_size e
  have f3 : ∀ b ∈ fp, FpOk X pins (upd H2 D (ndO X.w D [])) b ∧ b < s3.heap.objs.size := fun b hb => by
    refine ⟨⟨?_, (f2 b hb).2⟩, by rw [h3, Heap.size_push]; exact Nat.lt_succ_of_lt (below b hb)⟩
    rw [upd_ne (by rw [← hD]; exact Nat.ne_of_lt (below b hb))]
    exact (f2 b hb).1
  have st3 : tn 0 s3.heap := T.keep _ _ _ st2 fun b _ o e => by rw [h3]; exact Heap.get?_push_of_some _ e
  have I4 := block_start I3 ok hN f3
  have pg := hg s3 (upd H2 D (ndO X.w D [])) s3.heap.objs.size (cellsFrom (s3.heap.objs.size + 1) scope.names (cloFrom X.env.cells scope.names [])) fp
  have pt := ht s3 (upd H2 D (ndO X.w D [])) s3.heap.objs.size (cellsFrom (s3.heap.objs.size + 1) scope.names (cloFrom X.env.cells scope.names [])) fp
  have pk := hk s3 (upd H2 D (ndO X.w D [])) s3.heap.objs.size (cellsFrom (s3.heap.objs.size + 1) scope.names (cloFrom X.env.cells scope.names [])) fp
  have pe := he s3 (upd H2 D (ndO X.w D [])) s3.heap.objs.size (cellsFrom (s3.heap.objs.size + 1) scope.names (cloFrom X.env.cells scope.names [])) fp
  have nfp : ∀ b ∈ fp, (upd H2 D (ndO X.w D [])) b = none := fun b hb => (f3 b hb).1.1
  show codeAny _ _ (.compStart (.DictComp kx vx [⟨tg, iter, ifs, 0⟩] scope pos) 0 (.ref it) (.ref D) (compEnvC scope (cellsFrom (s3.heap.objs.size + 1) scope.names (cloFrom X.env.cells scope.names [])) s3.heap.objs.size X.env))
    (compPost (model X.prog X.w) X.A X.xe use Qf (.ref D) s3.heap.objs.size) { s3 with heap := pushCells (s3.heap.push { cls := .type "dict", data := .dict #[] }) scope.names }
  generalize hce : compEnvC scope (cellsFrom (s3.heap.objs.size + 1) scope.names (cloFrom X.env.cells scope.names [])) s3.heap.objs.size X.env = ce at I4 pg pt pk pe ⊢
  have cL : ce.locals = s3.heap.objs.size := by rw [← hce]; rfl
  generalize upd H2 D (ndO X.w D []) = H3 at I3 I4 pg pt pk pe w0 nfp f3
  generalize hs4 : ({ s3 with heap := pushCells (s3.heap.push { cls := .type "dict", data := .dict #[] }) scope.names } : Shared) = s4 at I4 ⊢
  have st4 : tn 0 s4.heap := T.keep _ _ _ st3 fun b _ o e => by rw [← hs4]; exact pushCells_keeps _ _ _ _ (Heap.get?_push_of_some _ e)
  have stat : ∀ {σ' : L2.St} {H' : Hp} {s' : Shared}, Inv (X.blk s3 H3 scope ce fp) [] σ' H' s' → (∀ b ∈ fp, H' b = none) → ∀ b ∈ fp, FpOk (X.blk s3 H3 scope ce fp) [] H' b := fun I' hn b hb =>
    ⟨hn b hb, (I'.ok.exf b hb).1, I'.ok.exfs b hb, .inl hb, fun x c e => (I'.ok.exf b hb).2 x c e, fun p hp => absurd (show p ∈ ([] : List (Addr × Obj)) ++ [] from hp) (by simp)⟩
  let Here : Nat → Shared → Prop := fun n s' => ∃ i H', Inv (X.blk s3 H3 scope ce fp) [] (wipe σ (own.map (·.2))) H' s' ∧ tn i s'.heap ∧ (∀ b ∈ fp, H' b = none) ∧ W i n H'
  have loop : codeAny (model X.prog X.w) X.A (.compLoop (.DictComp kx vx [⟨tg, iter, ifs, 0⟩] scope pos) 0 (.ref it) (.ref D) ce) (compPost (model X.prog X.w) X.A X.xe use Qf (.ref D) s3.heap.objs.size) s4 := by
    refine compLoop_anyD Here (fun n s5 hHere => ?_) m0 ⟨0, H3, I4, st4, nfp, w0⟩
    obtain ⟨i, H5, I5, st5, n5, w5⟩ := hHere
    rcases turn i n H5 w5 with ⟨stop, fine⟩ | ⟨go, Nx, hNx, step⟩
    · refine thnF (T.done (X.blk s3 H3 scope ce fp) rfl rfl rfl hc i [] s5 _ H5 (fun _ _ => False) I5 (stat I5 n5) st5 stop) fun r s6 ⟨hr, I6⟩ => ?_
      subst hr
      -- back in the def
      have I7 : Inv X pins σ H5 s6 := I3.call' (ch := fp) I6.os I6.base I6.hok I6.bare fun b hb => let z := (f3 b hb).1; ⟨z.2.2.2.1, z.2.1, z.2.2.2.2.1, z.2.2.2.2.2⟩
      have nC : H5 s3.heap.objs.size = none := cL ▸ (show H5 ce.locals = none from I6.free)
      obtain ⟨m, ns, _⟩ := I6.loc
      have ns : s6.heap.Ns s3.heap.objs.size m := cL ▸ (show s6.heap.Ns ce.locals m from ns)
      exact hRR D s3.heap.objs.size s6 m H5 I7 fine ns (I3.fpOk (Nat.le_refl _) nC)
    · refine thnF (T.item (X.blk s3 H3 scope ce fp) rfl rfl rfl hc i [] s5 _ H5 (fun _ _ => False) I5 (stat I5 n5) st5 go) fun r s6 ⟨u, hr, h6⟩ => ?_
      subst hr
      refine thnF h6 fun _ s7 ⟨x, H7, I7, r7, y7, st7, n7⟩ => ?_
      have I7p := I7.pinned (stat I7 n7) (T.obj _ _ st7)
      refine thnF (pg.run _ s7 _ H7 x u _ I7p r7 (step x H7 y7)) fun _ s8 ⟨σ8, H8, I8, hw8, q8⟩ => thnF (pt.run _ s8 σ8 H8 _ I8 q8) fun b s9 ⟨H9, I9, q9⟩ => ?_
      -- the turn's end
      have fin : ∀ {s' : Shared} {H' : Hp}, Inv (X.blk s3 H3 scope ce fp) ([] ++ pinsAt fp s7.heap) σ8 H' s' → Nx H' → ∃ m, m < n ∧ Here m s' := fun {s' H'} I' nx => by
        obtain ⟨m', hm, w'⟩ := hNx H' nx
        have pin' : ∀ b ∈ fp, ∀ o, s7.heap.get? b = some o → s'.heap.get? b = some o ∧ H' b = none := fun b hb o e =>
          let z := I'.pin (b, o) (List.mem_append_right _ (List.mem_append_right _ (mem_pinsAt hb e)))
          ⟨z.1, z.2.1⟩
        refine ⟨m', hm, i + 1, H', (I'.unpinned (pins := [])).weak (by rw [← hw8, wipe_length]) (fun j v e => ?_), T.keep _ _ _ st7 fun b hb o e => (pin' b hb o e).1, fun b hb => ?_, w'⟩
        · rw [← hw8] at e
          exact (wipe_some e).1
        · obtain ⟨o, e, _⟩ := T.obj _ _ st7 b hb
          exact (pin' b hb o e).2
      cases b with
      | false =>
        simp only [Bool.false_eq_true, if_false] at q9 ⊢
        exact fin I9 q9
      | true =>
        simp only [if_true] at q9 ⊢
        refine thnF (pk.run _ s9 σ8 H9 _ I9 q9) fun z s10 ⟨yk, H10, I10, r10, q10⟩ => thnF (pe.run _ s10 σ8 H10 _ I10 q10) fun z2 s11 ⟨yv, H11, I11, r11, put⟩ => ?_
        exact setN_run (X := X.blk s3 H3 scope ce fp) hu I11 r10 r11 put fun s12 H12 I12 nx => fin I12 nx
  exact codeAny_compStart_dict loop (T.self X.A 0 _ _ _ st4 loop)
theorem pe_dn {kx vx tg iter : Expr} {ifs : List Expr} {scope : Scope} {own : List (Str × Nat)} {pos : Pos} {wi : TI} {g : TG} {tt : TT} {tk tv : TE} (hu : X.A.units + 64 < cLine) (hc : X.calm = true) (hN : X.N.Nodup) (hi : PI X tg iter wi) (ok : BlkOk X.N X.env.scope scope own)
    (hg : ∀ (s : Shared) (H : Hp) (C : Addr) (cl : List (Str × Addr)) (fp : List Addr), PG (X.blk s H scope (compEnvC scope cl C X.env) fp) tg g) (ht : ∀ (s : Shared) (H : Hp) (C : Addr) (cl : List (Str × Addr)) (fp : List Addr), PTs (X.blk s H scope (compEnvC scope cl C X.env) fp) ifs tt) (hk : ∀ (s : Shared) (H : Hp) (C : Addr) (cl : List (Str × Addr)) (fp : List Addr), PE (X.blk s H scope (compEnvC scope cl C X.env) fp) kx tk) (he : ∀ (s : Shared) (H : Hp) (C : Addr) (cl : List (Str × Addr)) (fp : List Addr), PE (X.blk s H scope (compEnvC scope cl C X.env) fp) vx tv) (hs : ∀ x, foldedSetIterable iter X.env x = pure x := by intro _; rfl) :
    PE X (.DictComp kx vx [⟨tg, iter, ifs, 0⟩] scope pos) (tDn X.K X.w wi g tt tk tv (own.map (·.2))) := by
  refine ⟨fun pins s σ H Q I h => ?_⟩
  rw [arm_eval_DictComp]
  refine dn_core hu hc hN I hi ok hg ht hk he hs h fun D C s' m H' I' q hn ⟨f0, f1, f2, f3, f4, f5⟩ => ⟨m, hn, fun h'' sb => ?_⟩
  exact ⟨.ref D, H', I'.turned (t' := s'.toks) (fun b o hb e => (sb.2 b hb).trans e) f0 f1 f3 f4 f5, rfl, q⟩
/-- .. over the pairs of such a dict that is locked -/
theorem dn_items {K : PySem.W.Frag} {w : World} {d : Addr} {o : Obj} {L : List (Pr × V)} {g : TG} {tt : TT} {tk tv : TE} {vs : List Nat} {σ : L2.St} {H1 : Hp} {D : Addr} {Qd : Hp → Prop} (Pv : Nat → Hp → Prop) (h0 : Pv 0 (upd H1 D (ndO w D []))) (hl : ∀ i H, i ≤ L.length → Pv i H → NF K w H d o L)
    (hs : ∀ i k v H T b, L[i]? = some (k, v) → Pv i H → H T = none → ProdAt K H b k → g (.ref T) (wipe σ vs) (upd H T (.tup [.ref b, v])) fun σ2 H2 => wipe σ2 vs = wipe σ vs ∧ tt σ2 H2 fun b H3 =>
      if b = true then tk σ2 H3 fun y H4 => tv σ2 H4 fun z H5 => setN K w D y z H5 (Pv (i + 1)) else Pv (i + 1) H3) (hd : ∀ H, Pv L.length H → Qd H) :
    ∃ W : Nat → Nat → Hp → Prop, (∃ m, W 0 m (upd H1 D (ndO w D []))) ∧ ∀ i m H, W i m H → ((ItN K w d o L).stop i H ∧ Qd H) ∨ ((ItN K w d o L).go i H ∧ ∃ Nx : Hp → Prop, (∀ H', Nx H' → ∃ m', m' < m ∧ W (i + 1) m' H') ∧
      ∀ x H', (ItN K w d o L).yld i H x H' → g x (wipe σ vs) H' fun σ2 H2 => wipe σ2 vs = wipe σ vs ∧ tt σ2 H2 fun b H3 => if b = true then tk σ2 H3 fun y H4 => tv σ2 H4 fun z H5 => setN K w D y z H5 Nx else Nx H3) := by
  refine ⟨fun i m H => m = L.length - i ∧ i ≤ L.length ∧ Pv i H, ⟨_, rfl, Nat.zero_le _, h0⟩, fun i m H ⟨em, hi, p⟩ => ?_⟩
  have F := hl i H hi p
  by_cases lt : i < L.length
  · refine .inr ⟨⟨F, lt⟩, Pv (i + 1), fun H' p' => ⟨L.length - (i + 1), by omega, rfl, lt, p'⟩, fun x H' ⟨T, b, k, v, hL, ex, nT, hb, eH⟩ => ?_⟩
    subst ex
    subst eH
    exact hs i k v H T b hL p nT hb
  · have e : i = L.length := by omega
    subst e
    exact .inl ⟨⟨F, Nat.le_refl _⟩, hd H p⟩
end
theorem nodup_len {α : Type} [DecidableEq α] : ∀ {l m : List α}, l.Nodup → (∀ x ∈ l, x ∈ m) → l.length ≤ m.length
  | [], _, _, _ => Nat.zero_le _
  | x :: r, m, h, s => by
    obtain ⟨h1, h2⟩ := List.nodup_cons.mp h
    have hx : x ∈ m := s x (by simp)
    have ih := nodup_len (m := m.erase x) h2 fun y hy => (List.mem_erase_of_ne (fun e => h1 (by rw [← e]; exact hy))).mpr (s y (by simp [hy]))
    rw [List.length_erase_of_mem hx] at ih
    have := List.length_pos_of_mem hx
    rw [List.length_cons]
    omega
/-! ### sorted(d.items()), keys texts, values whole numbers -/
def slt (x y : Str) : Prop := x.cps.toList < y.cps.toList
instance (x y : Str) : Decidable (slt x y) := inferInstanceAs (Decidable (x.cps.toList < y.cps.toList))
theorem slt_irrefl (x : Str) : ¬ slt x x := List.lt_irrefl _
theorem slt_trans {x y z : Str} (h : slt x y) (g : slt y z) : slt x z := List.lt_trans h g
theorem slt_or {x y : Str} (h : ¬ slt x y) : slt y x ∨ x = y := by
  by_cases g : slt y x
  · exact .inl g
  · right
    have e : x.cps.toList = y.cps.toList := List.le_antisymm (List.not_lt.mp g) (List.not_lt.mp h)
    obtain ⟨⟨l⟩⟩ := x
    obtain ⟨⟨m⟩⟩ := y
    simp only at e
    rw [e]
/-- how many of the names stand ahead of x -/
def rankS (l : List Str) (x : Str) : Int := ((l.filter fun y => decide (slt y x)).length : Int)
theorem rankS_lt {l : List Str} {x y : Str} (hx : x ∈ l) (h : slt x y) : rankS l x < rankS l y := by
  unfold rankS
  have mono : ∀ m : List Str, (m.filter fun z => decide (slt z x)).length ≤ (m.filter fun z => decide (slt z y)).length ∧ (x ∈ m → (m.filter fun z => decide (slt z x)).length < (m.filter fun z => decide (slt z y)).length) := by
    intro m
    induction m with
    | nil => exact ⟨Nat.le_refl _, fun z => nomatch z⟩
    | cons a r ih =>
      rw [List.filter_cons, List.filter_cons]
      by_cases e : slt a x
      · rw [if_pos (by simpa using e), if_pos (by simpa using slt_trans e h), List.length_cons, List.length_cons]
        refine ⟨Nat.succ_le_succ ih.1, fun z => Nat.succ_lt_succ (ih.2 ?_)⟩
        rcases List.mem_cons.mp z with z | z
        · exact absurd (z ▸ e) (slt_irrefl x)
        · exact z
      · rw [if_neg (by simpa using e)]
        by_cases e2 : slt a y
        · rw [if_pos (by simpa using e2), List.length_cons]
          exact ⟨Nat.le_succ_of_le ih.1, fun _ => Nat.lt_succ_of_le ih.1⟩
        · rw [if_neg (by simpa using e2)]
          refine ⟨ih.1, fun z => ih.2 ?_⟩
          rcases List.mem_cons.mp z with z | z
          · exact absurd (z ▸ h) e2
          · exact z
  have := (mono l).2 hx
  omega
theorem rankS_iff {l : List Str} {x y : Str} (hx : x ∈ l) (hy : y ∈ l) : decide (slt x y) = decide (rankS l x < rankS l y) := by
  by_cases h : slt x y
  · rw [decide_eq_true h, decide_eq_true (rankS_lt hx h)]
  · rw [decide_eq_false h]
    rcases slt_or h with g | g
    · have := rankS_lt hy g
      rw [decide_eq_false (by omega)]
    · subst g
      rw [decide_eq_false (by omega)]
section
variable {prog : Program} {w : World} {A : Around} {E : Value → Shared → Prop} {s : Shared}
/-- v is the pair e -/
def PairV (h : Heap) (v : Value) (e : Str × Int) : Prop := ∃ (a : Addr) (t u : Tok), v = .ref a ∧ IsTup h a #[.str e.1 t, .int e.2 u]
def nameV (h : Heap) (v : Value) : Str := DT.txOf (DT.seqAt0 h (DT.refOf (some v)))
theorem PairV.name {h : Heap} {v : Value} {e : Str × Int} (p : PairV h v e) : nameV h v = e.1 := by
  obtain ⟨a, t, u, rfl, ha⟩ := p
  show DT.txOf (DT.seqAt0 h a) = e.1
  rw [DT.seqAt0_of ha]
  rfl
theorem pairs_firsts {h : Heap} : ∀ vs : List Value, (∀ v ∈ vs, ∃ e, PairV h v e) → ∃ fs : List Value, PySem.W.KatTups h vs fs ∧ fs.length = vs.length ∧ ∀ f ∈ fs, ∃ x t, f = Value.str x t
  | [], _ => ⟨[], PySem.W.KatTups.nil, rfl, fun f hf => nomatch hf⟩
  | v :: vs, p => by
    obtain ⟨fs, k, hl, hi⟩ := pairs_firsts vs fun u hu => p u (by simp [hu])
    obtain ⟨e, a, t, u, rfl, o, ho, hc, n, hd⟩ := p v (by simp)
    refine ⟨.str e.1 t :: fs, PySem.W.KatTups.cons ho hc hd rfl k, by simp [hl], fun f hf => ?_⟩
    rcases List.mem_cons.mp hf with z | z
    · exact ⟨_, _, z⟩
    · exact hi f z
theorem kind_pairs {vs : List Value} {l : List Str} (h2 : 2 ≤ vs.length) (p : ∀ v ∈ vs, ∃ e : Str × Int, PairV s.heap v e ∧ e.1 ∈ l) (inj : ∀ (v u : Value) (e f : Str × Int), v ∈ vs → u ∈ vs → PairV s.heap v e → PairV s.heap u f → e.1 = f.1 → e = f) (Q : PyProof.Rows.SortKind → Shared → Prop)
    (h : ∀ κ, TS.Cmp prog w A s κ (PyProof.Rows.pairsOf vs) (fun v => rankS l (nameV s.heap v)) → Q κ s) : wpAny (model prog w) A (PyProof.Rows.keyKind' vs.toArray) Q E s := by
  obtain ⟨fs, k, hl, hi⟩ := pairs_firsts vs fun v hv => let ⟨e, z, _⟩ := p v hv; ⟨e, z⟩
  refine PySem.W.kat_kind (T := Value.type "str") k (by omega) (fun f hf => ?_) rfl (h _ ?_)
  · obtain ⟨x, t, rfl⟩ := hi f hf
    exact .now
  · rw [show (Value.type "str" != Value.type "tuple") = true by decide]
    intro a b ha hb Q' E' hQ
    rw [PyProof.Rows.pairsOf_toList] at ha hb
    have ma := (mem_zip_self ha).2
    have mb := (mem_zip_self hb).2
    obtain ⟨e, pe, ie⟩ := p _ ma
    obtain ⟨f, pf, jf⟩ := p _ mb
    have hQ2 : Q' (decide (slt e.1 f.1)) s := by
      rw [rankS_iff ie jf, ← pe.name, ← pf.name]
      exact hQ
    have same := inj _ _ e f ma mb pe pf
    obtain ⟨x, t, u, e1, o, ho, hc, n, hd⟩ := pe
    obtain ⟨y, t', u', e2, o', ho', hc', n', hd'⟩ := pf
    rw [e1, e2]
    refine PySem.W.kat_lt ho hd ho' hd' ?_
    show PySem.W.KatLex prog w A true false Q' [(Value.str e.1 t, Value.str f.1 t'), (Value.int e.2 u, Value.int f.2 u')] 0 s
    refine PySem.W.kat_cons (wpAny_eqBool_str (PySem.W.kat_go (fun c => ?_) (fun c => ?_)))
    · have z := same (of_decide_eq_true c)
      subst z
      rw [decide_eq_false (slt_irrefl _)] at hQ2
      refine PySem.W.kat_yes (PySem.W.kat_cons (wpAny_eqBool_int (PySem.W.kat_go (fun _ => PySem.W.kat_yes (PySem.W.kat_nil hQ2)) (fun c => ?_))))
      simp at c
    · refine PySem.W.kat_no ?_
      show wpAny _ _ (PyProof.Rows.oneLt' true _ _) _ _ _
      exact PyProof.Rows.oneLt_str hQ2
end
/-! ### sorted(d.items()) of a dict from texts to whole numbers, by values -/
/-- a dict from texts to whole numbers -/
def dSI (L : List (Str × Int)) : List (L2.Key × V) := L.map fun e => (Sum.inr e.1, V.int e.2)
theorem dSI_pairs {P : Program} {w : World} : ∀ {L : List (Str × Int)} {es : List DictEntry} {vs : List (L2.Key × Value)}, KV (dSI L) vs → PySem.Pairs (mixKind P w) es vs → es.length = L.length ∧ ∀ (j : Nat) (e : DictEntry), es[j]? = some e → ∃ (x : Str × Int) (t u : Tok), L[j]? = some x ∧ e.key = .str x.1 t ∧ e.val = .int x.2 u
  | [], _, _, .nil, .nil => ⟨rfl, fun j e h => by simp at h⟩
  | x :: L, _, _, .cons (b := kv) h1 h2, .cons (e := en) k1 k2 k3 => by
    obtain ⟨l, ih⟩ := dSI_pairs h2 k3
    refine ⟨by simp [l], fun j e h => ?_⟩
    cases j with
    | zero =>
      simp only [List.getElem?_cons_zero, Option.some.injEq] at h
      subst h
      have e1 : (Sum.inr x.1 : L2.Key) = kv.1 := h1.1
      rw [← e1] at k1
      obtain ⟨u, hu⟩ : ∃ u, kv.2 = Value.int x.2 u := h1.2
      rcases keyIs_shape (k := (Sum.inr x.1 : L2.Key)) k1 with ⟨i, t, z, _⟩ | ⟨y, t, z, e2⟩
      · cases z
      · cases z
        exact ⟨x, t, u, rfl, e2, k2.trans hu⟩
    | succ j => exact ih j e (by simpa using h)
/-- the view d.items() -/
def rItemsK : V → List V → Hp → VK → Prop := fun x xs H Q => ∃ (a : Addr) (kvs : List (L2.Key × V)), x = .ref a ∧ xs = [] ∧ H a = some (.dK kvs) ∧ ∀ p, H p = none → Q (.ref p) (upd H p (DX.itemsO p a))
theorem mt_itemsK {X : Cx} : MtR X "dict.items" rItemsK := by
  intro pins s σ H x xs v us Q I rx rxs h
  obtain ⟨a, kvs, rfl, rfl, ha, q⟩ := h
  cases rx
  cases rxs
  obtain ⟨z, hd, xs', rel, o, es, ep, ho, hx, hdat, _⟩ := dk_of I.hok ha
  refine DT.callItems (es := es) (ep := ep) hd ⟨o, ho, hx, hdat⟩ ?_
  have hf : H s.heap.objs.size = none := I.hok.fresh (Nat.le_refl _)
  exact ⟨.ref s.heap.objs.size, upd H s.heap.objs.size (DX.itemsO s.heap.objs.size a), I.laid (t' := s.toks) (fun b u e => Heap.get?_push_of_some _ e) (Nat.le_refl _) (DX.itemsO_ok (Heap.get?_push_size _ rfl)), rfl, q _ hf⟩
def rSortK : List V → Hp → VK → Prop := fun vs H Q => ∃ (p a : Addr) (L : List (Str × Int)), vs = [.ref p] ∧ H p = some (DX.itemsO p a) ∧ H a = some (.dK (dSI L)) ∧ L.length < 64 ∧
  ∀ (H' : Hp) (l : Addr) (ps : List (Addr × Str × Int)), Same H H' → (ps.map (·.2)).Perm L → (ps.map (·.2)).Pairwise (fun e f => slt e.1 f.1) → H l = none → H' l = some (.lst (ps.map fun z => V.ref z.1)) →
    (∀ z ∈ ps, H' z.1 = some (.tup [.str z.2.1, .int z.2.2])) → Q (.ref l) H'
theorem cr_sortedK {X : Cx} (hc : X.calm = true) : CallR X (.builtin "sorted") rSortK := by
  intro pins s σ H xs us Q I r h
  obtain ⟨p, a, ks, rfl, hp, ha, h64, q⟩ := h
  obtain rfl := Vals.ref1 r
  have view : s.heap.IsItemsView p a := (show ObjOk X.prog X.w H s.heap p (DX.itemsO p a) from I.hok p _ hp).1
  obtain ⟨z, hd, vs, rel, o, es, ep, ho, hx, hdat, _, hes, hn⟩ := dk_of I.hok ha
  obtain ⟨l2, ent⟩ := dSI_pairs rel hes
  rw [Array.length_toList] at l2
  have ndK : (ks.map (·.1)).Nodup := by
    have e : vs.map (·.1) = ks.map fun e => (Sum.inr e.1 : L2.Key) := by
      rw [← KV.keys rel]
      show (ks.map _).map _ = _
      rw [List.map_map]
      rfl
    rw [e] at hn
    rw [List.nodup_iff_pairwise_ne, List.pairwise_map] at hn ⊢
    exact hn.imp fun {x y} h e => h (by rw [e])
  have hh : X.A.handled = none := I.ok.hd hc
  refine DT.sortedI (es := es) (ep := ep) hh view ⟨o, ho, hx, hdat⟩ (by rw [sizeLine_eq]; omega) fun h' tk as hk hlt hl hG => ?_
  have lak : as.length = ks.length := by omega
  have nd : as.Nodup := List.Pairwise.imp (fun h => Nat.ne_of_lt h) hG.rise
  have pr : ∀ (j : Nat) (b : Addr), as[j]? = some b → ∃ (e : Str × Int) (t u : Tok), ks[j]? = some e ∧ h'.get? b = some { cls := .type "tuple", data := .seq #[Value.str e.1 t, Value.int e.2 u] } := by
    intro j b hj
    obtain ⟨en, he, hg⟩ := hG.pairs j b hj
    rw [← Array.getElem?_toList] at he
    obtain ⟨x, t, u, hx, e1, e2⟩ := ent j en he
    exact ⟨x, t, u, hx, by rw [hg, e1, e2]⟩
  have hob : (h'.push { cls := .type "list", data := .seq (as.map Value.ref).toArray }).get? h'.objs.size = some (seqObj "list" (as.map Value.ref).toArray 0) := Heap.get?_push_size _ rfl
  have kb : ∀ b o, s.heap.get? b = some o → (h'.push { cls := .type "list", data := .seq (as.map Value.ref).toArray }).get? b = some o := fun b o e => Heap.get?_push_of_some _ (hk b o e)
  have ne0 : ∀ b o, h'.get? b = some o → b ≠ h'.objs.size := fun b o e => Nat.ne_of_lt (Heap.lt_size e)
  generalize hh2 : h'.push { cls := .type "list", data := .seq (as.map Value.ref).toArray } = h2 at hob kb ⊢
  have ka : ∀ b o, h'.get? b = some o → h2.get? b = some o := fun b o e => by rw [← hh2]; exact Heap.get?_push_of_some _ e
  have pin : ∀ (j : Nat) (b : Addr), as[j]? = some b → ∃ e : Str × Int, ks[j]? = some e ∧ PairV (TS.midHeap h2 h'.objs.size (as.map Value.ref)) (.ref b) e := by
    intro j b hj
    obtain ⟨e, t, u, he, hg⟩ := pr j b hj
    exact ⟨e, he, b, t, u, rfl, ⟨_, TS.midHeap_old (ne0 _ _ hg) (ka _ _ hg), rfl, 0, rfl⟩⟩
  have tx : ∀ (j : Nat) (b : Addr) (e : Str × Int), as[j]? = some b → ks[j]? = some e → nameV (TS.midHeap h2 h'.objs.size (as.map Value.ref)) (.ref b) = e.1 := by
    intro j b e hj he
    obtain ⟨e', he', hp'⟩ := pin j b hj
    have ee : e' = e := Option.some.inj (he'.symm.trans he)
    rw [← ee]
    exact hp'.name
  have at_ : ∀ v ∈ as.map Value.ref, ∃ (j : Nat) (b : Addr) (e : Str × Int), v = .ref b ∧ as[j]? = some b ∧ ks[j]? = some e := by
    intro v hv'
    obtain ⟨b, hb, rfl⟩ := List.mem_map.mp hv'
    obtain ⟨j, hj⟩ := List.mem_iff_getElem?.mp hb
    obtain ⟨e, _, _, he, _⟩ := pr j b hj
    exact ⟨j, b, e, rfl, hj, he⟩
  refine wpAny_call_entry PyProof.Rows.slot_list_sort ⟨_, hob, rfl⟩ PyProof.Rows.entry_list_sort
    (SK.plain_sort (s := { s with heap := h2, toks := tk }) (r := fun v => rankS (ks.map (·.1)) (nameV (TS.midHeap h2 h'.objs.size (as.map Value.ref)) v)) hob (by rw [List.length_map]; omega) (fun h2' Qk hQk => ?_) fun ps out o1 o2 o3 => ⟨.none, rfl, ?_⟩) (PyProof.Rows.args_list_sort _)
  · refine kind_pairs (s := { s with heap := TS.midHeap h2 h'.objs.size (as.map Value.ref), toks := tk }) (l := ks.map (·.1)) h2' (fun v hv' => ?_) (fun v u e f hv' hu' pe pf ef => ?_) Qk hQk
    · obtain ⟨j, b, e, rfl, hj, he⟩ := at_ v hv'
      obtain ⟨e', he', hp'⟩ := pin j b hj
      exact ⟨e', hp', List.mem_map.mpr ⟨_, List.mem_of_getElem? he', rfl⟩⟩
    · obtain ⟨j, b, e0, rfl, hj, he⟩ := at_ v hv'
      obtain ⟨j2, b2, f0, rfl, hj2, hf⟩ := at_ u hu'
      have a1 := tx j b e0 hj he
      have a2 := tx j2 b2 f0 hj2 hf
      rw [pe.name] at a1
      rw [pf.name] at a2
      have b1 : (ks.map (·.1))[j]? = some e0.1 := by rw [List.getElem?_map, he]; rfl
      have b2' : (ks.map (·.1))[j2]? = some e0.1 := by rw [List.getElem?_map, hf, ← a1, ef, a2]; rfl
      have ej : j = j2 := (List.getElem?_inj (List.getElem?_eq_some_iff.mp b1).1 ndK).mp (b1.trans b2'.symm)
      subst ej
      have eb : b = b2 := Option.some.inj (hj.symm.trans hj2)
      subst eb
      obtain ⟨c1, t1, u1, z1, o1, g1, _, n1, d1⟩ := pe
      obtain ⟨c2, t2, u2, z2, o2, g2, _, n2, d2⟩ := pf
      cases z1
      cases z2
      rw [g1] at g2
      cases g2
      rw [d1] at d2
      injection d2 with d3
      have d4 := congrArg Array.toList d3
      injection d4 with d5 d6
      injection d6 with d7
      injection d5 with d8
      injection d7 with d9
      exact Prod.ext d8 d9
  · show EP X pins σ Q (.ref h'.objs.size) { s with heap := sortedHeap h2 h'.objs.size (as.map Value.ref) out, toks := tk }
    obtain ⟨zs, pz, ez⟩ := perm_lift (fun z : Addr × Str × Int => (Value.ref z.1, Value.ref z.1)) o2 (as.zip ks) (DX.zip_self Value.ref as ks lak)
    have idx : ∀ z ∈ zs, ∃ j : Nat, as[j]? = some z.1 ∧ ks[j]? = some z.2 := by
      intro z' hz'
      obtain ⟨j, hj⟩ := List.mem_iff_getElem?.mp (pz.mem_iff.mp hz')
      exact ⟨j, List.getElem?_zip_eq_some.mp hj⟩
    have hout : out.toList = zs.map fun z => Value.ref z.1 := by
      rw [o1, ← ez, List.map_map]
      all_goals rfl
    have hperm : (zs.map (·.2)).Perm ks := by
      have e := pz.map (·.2)
      have m2 : (as.zip ks).map (·.2) = ks := List.map_snd_zip (by rw [lak]; exact Nat.le_refl _)
      rw [m2] at e
      exact e
    have ndz : ((zs.map (·.2)).map (·.1)).Nodup := (hperm.map (·.1)).nodup_iff.mpr ndK
    have hsort : (zs.map (·.2)).Pairwise (fun e f => slt e.1 f.1) := by
      rw [← ez, List.pairwise_map] at o3
      rw [List.map_map, List.nodup_iff_pairwise_ne, List.pairwise_map] at ndz
      rw [List.pairwise_map]
      refine List.Pairwise.imp_of_mem (fun {x y} hx hy h => ?_) (o3.and ndz)
      obtain ⟨j, j1, j2⟩ := idx x hx
      obtain ⟨i, i1, i2⟩ := idx y hy
      have h1 : rankS (ks.map (·.1)) (nameV (TS.midHeap h2 h'.objs.size (as.map Value.ref)) (.ref x.1)) ≤ rankS (ks.map (·.1)) (nameV (TS.midHeap h2 h'.objs.size (as.map Value.ref)) (.ref y.1)) := h.1
      rw [tx j _ _ j1 j2, tx i _ _ i1 i2] at h1
      have h3 : x.2.1 ≠ y.2.1 := h.2
      by_cases c : slt x.2.1 y.2.1
      · exact c
      · rcases slt_or c with g | g
        · have := rankS_lt (l := ks.map (·.1)) (List.mem_map.mpr ⟨_, List.mem_of_getElem? i2, rfl⟩) g
          omega
        · exact absurd g h3
    have kF : ∀ b o, b ≠ h'.objs.size → h2.get? b = some o → (sortedHeap h2 h'.objs.size (as.map Value.ref) out).get? b = some o := fun b o hb e => (PyProof.Rows.sortedHeap_old hb (Heap.lt_size e)).trans e
    have kS : ∀ b o, s.heap.get? b = some o → (sortedHeap h2 h'.objs.size (as.map Value.ref) out).get? b = some o := fun b o e => kF b o (ne0 _ _ (hk b o e)) (kb b o e)
    obtain ⟨eF, heF⟩ := PyProof.Rows.sortedHeap_at (vs := as.map Value.ref) (out := out) hob
    have I1 : Inv X pins σ H { s with heap := sortedHeap h2 h'.objs.size (as.map Value.ref) out, toks := tk } := I.kept (t' := tk) kS
    have hn0 : H h'.objs.size = none := I.hok.fresh (Nat.le_of_lt hlt)
    have hlen : (zs.map fun z => V.ref z.1).length ≤ sizeLine := by
      have e := hperm.length_eq
      rw [List.length_map] at e
      rw [List.length_map, sizeLine_eq]
      omega
    have rv : Vals (zs.map fun z => V.ref z.1) out.toList := by
      rw [hout]
      exact vals_maps (fun z : Addr × Str × Int => V.ref z.1) (fun z => Value.ref z.1) zs fun _ _ => rfl
    have I2 : Inv X pins σ (upd H h'.objs.size (.lst (zs.map fun z => V.ref z.1))) { s with heap := sortedHeap h2 h'.objs.size (as.map Value.ref) out, toks := tk } :=
      I1.take (h' := sortedHeap h2 h'.objs.size (as.map Value.ref) out) (t' := tk) (fun b ob _ e => e) (I.fpOk (Nat.le_of_lt hlt) hn0) ⟨hlen, out.toList, eF, rv, heF⟩
    obtain ⟨H2, I3, g, qt⟩ := DX.takeT (P := fun b vs => ∃ (j : Nat) (e : Str × Int), as[j]? = some b ∧ ks[j]? = some e ∧ vs = [.str e.1, .int e.2]) I as _ I2 nd fun b hb => by
      obtain ⟨j, hj⟩ := List.mem_iff_getElem?.mp hb
      obtain ⟨e, t, u, he, hg⟩ := pr j b hj
      have hbl : s.heap.objs.size ≤ b := Nat.le_of_lt (hG.above b hb)
      refine ⟨hbl, ?_, [.str e.1, .int e.2], ⟨j, e, hj, he, rfl⟩, fun H3 => ⟨(by rw [sizeLine_eq]; show 2 ≤ 16777216; omega), [Value.str e.1 t, Value.int e.2 u], .cons ⟨t, rfl⟩ (.cons ⟨u, rfl⟩ .nil), ⟨_, kF _ _ (ne0 _ _ hg) (ka _ _ hg), rfl, 0, rfl⟩⟩⟩
      rw [upd_ne (ne0 _ _ hg)]
      exact I.hok.fresh hbl
    have gr : ∀ b o, H b = some o → H2 b = some o := fun b o e => g b o (by rw [upd_ne (ne_of_none e hn0)]; exact e)
    refine ⟨.ref h'.objs.size, H2, I3, rfl, q H2 h'.objs.size zs gr hperm hsort hn0 (g _ _ upd_same) fun z' hz' => ?_⟩
    obtain ⟨i, i1, i2⟩ := idx z' hz'
    obtain ⟨vs, ⟨j, e, j1, j2, ev⟩, hH⟩ := qt z'.1 (List.mem_of_getElem? i1)
    have eij : i = j := (List.getElem?_inj (List.getElem?_eq_some_iff.mp i1).1 nd).mp (i1.trans j1.symm)
    subst eij
    have ee : e = z'.2 := Option.some.inj (j2.symm.trans i2)
    rw [ev, ee] at hH
    exact hH
theorem dSI_len (L : Pr) : (dSI L).length = L.length := List.length_map ..
theorem room1 {A : Around} {k : Nat} (hr : Room k A) : A.units + 1 < cLine := by
  have := hr.un
  omega
def Else (d : Addr) (H H' : Hp) : Prop := ∀ b o, H b = some o → b ≠ d → H' b = some o
theorem Else.tups {d : Addr} {H H' : Hp} {u : HO} (h : Else d H H') (e : H d = some u) (n : NotTup u) : TupsStay H H' := fun b xs q => by
  have nb : b ≠ d := fun z => by
    subst z
    rcases q with q | ⟨ob, q⟩
    · rw [e] at q
      cases q
      exact n
    · rw [e] at q
      cases q
      exact n
  rcases q with q | ⟨ob, q⟩
  · exact .inl (h _ _ q nb)
  · exact .inr ⟨ob, h _ _ q nb⟩
theorem Else.refl (d : Addr) (H : Hp) : Else d H H := fun _ _ e _ => e
theorem Else.trans {d : Addr} {H H1 H2 : Hp} (a : Else d H H1) (b : Else d H1 H2) : Else d H H2 := fun x o e n => b x o (a x o e n) n
theorem Else.same {d : Addr} {H H1 H2 : Hp} (a : Else d H H1) (b : Same H1 H2) : Else d H H2 := fun x o e n => b x o (a x o e n)
theorem Same.else {d : Addr} {H H1 : Hp} (a : Same H H1) : Else d H H1 := fun x o e _ => a x o e
theorem Else.upd {d : Addr} {H : Hp} {o : HO} : Else d H (upd H d o) := fun b o' e n => by rw [upd_ne n]; exact e
theorem Else.fresh {d : Addr} {H0 H H' : Hp} (n : H0 d = none) (a : Same H0 H) (b : Else d H H') : Same H0 H' := fun x o e => b x o (a x o e) (ne_of_none e n)
section
variable {X : Cx}
/-- y = {k: v for ..} on one row, y a local name, keys texts or numbers -/
theorem ps_setDc {i : Nat} {y : Str} {py : Pos} {kx vx tg iter : Expr} {ifs : List Expr} {scope : Scope} {own : List (Str × Nat)} {pos spos : Pos} {wi : TI} {g : TG} {tt : TT} {tk tv : TE} (hc : X.calm = true) (hN : X.N.Nodup)
    (hy : X.N[i]? = some y) (hyl : X.env.scope.names.lookup y = some .local) (hsw : swapsWith (.DictComp kx vx [⟨tg, iter, ifs, 0⟩] scope pos) (some (.Name y py)) spos.line X.env = pure true) (hi : PI X tg iter wi) (ok : BlkOk X.N X.env.scope scope own)
    (hg : ∀ (s : Shared) (H : Hp) (C : Addr) (cl : List (Str × Addr)) (fp : List Addr), PG (X.blk s H scope (compEnvC scope cl C X.env) fp) tg g) (ht : ∀ (s : Shared) (H : Hp) (C : Addr) (cl : List (Str × Addr)) (fp : List Addr), PTs (X.blk s H scope (compEnvC scope cl C X.env) fp) ifs tt)
    (hk : ∀ (s : Shared) (H : Hp) (C : Addr) (cl : List (Str × Addr)) (fp : List Addr), PE (X.blk s H scope (compEnvC scope cl C X.env) fp) kx tk) (he : ∀ (s : Shared) (H : Hp) (C : Addr) (cl : List (Str × Addr)) (fp : List Addr), PE (X.blk s H scope (compEnvC scope cl C X.env) fp) vx tv)
    (hs : ∀ x, foldedSetIterable iter X.env x = pure x := by intro _; rfl) : PS X (.Assign [.Name y py] (.DictComp kx vx [⟨tg, iter, ifs, 0⟩] scope pos) spos) (tAsg (tDc wi g tt tk tv (own.map (·.2))) (gName i)) := by
  refine ⟨fun pins s σ H D I h => ?_⟩
  rw [exec_Assign_Name_used _ _ _ _ hsw]
  refine wpAny_bind (wpAny_standAt (wpAny_bind ?_))
  show wpAny _ X.A (do let _ ← comprehension (.DictComp kx vx [⟨tg, iter, ifs, 0⟩] scope pos) scope X.env (firstIterPos [⟨tg, iter, ifs, 0⟩] pos) newDict false (eval iter X.env) (some (assign (.Name y py) X.env))) _ _ s
  have h' : tDc wi g tt tk tv (own.map (·.2)) σ H (fun x H1 => gName i x σ H1 D.nx) := h
  refine wpAny_bind (thn (dc_core (Qf := fun _ s' => SP X pins D .next s') hc hN I hi ok hg ht hk he hs h' fun L C s' m H' I' q hn ⟨f0, f1, f2, f3, f4, f5⟩ => ?_) fun _ s' hq => wpAny_pure (wpAny_pure hq))
  show wpAny _ _ (assign (.Name y py) X.env (.ref L)) _ _ _
  refine wpAny_assign_Name (store_ok2 (v := V.ref L) I' hN hy (.inl hyl) rfl (fun s2 I2 ⟨a, sb, ha⟩ => ⟨m, hn.sameBut sb ?_, fun h3 sb3 => ⟨_, H', I2.turned (t' := s2.toks) (fun b o hb e => (sb3.2 b hb).trans e) f0 f1 f3 f4 f5, q⟩⟩) (.inr hyl))
  rcases ha with z | z
  · rw [z]
    exact f1
  · exact fun e => f4 y a z e.symm
end
/-! ### products of names: canonical, joined -/
def expo : Pr → Str → Int
  | [], _ => 0
  | e :: r, x => (if e.1 = x then e.2 else 0) + expo r x
structure Canon (p : Pr) : Prop where
  up : p.Pairwise fun e f => slt e.1 f.1
  one : ∀ e ∈ p, 1 ≤ e.2
theorem Canon.nil : Canon [] := ⟨.nil, fun _ h => nomatch h⟩
theorem Canon.tail {e : Str × Int} {p : Pr} (h : Canon (e :: p)) : Canon p := ⟨(List.pairwise_cons.mp h.up).2, fun f hf => h.one f (by simp [hf])⟩
theorem Canon.nodup {p : Pr} (h : Canon p) : (p.map (·.1)).Nodup := by
  rw [List.nodup_iff_pairwise_ne, List.pairwise_map]
  exact h.up.imp fun {x y} g e => by rw [e] at g; exact slt_irrefl _ g
theorem expo_nonneg {p : Pr} (h : ∀ e ∈ p, 1 ≤ e.2) (x : Str) : 0 ≤ expo p x := by
  induction p with
  | nil => exact Int.le_refl _
  | cons e r ih =>
    have a := ih fun f hf => h f (by simp [hf])
    have b := h e (by simp)
    show 0 ≤ (if e.1 = x then e.2 else 0) + expo r x
    split <;> omega
theorem expo_zero {p : Pr} {x : Str} (h : ∀ e ∈ p, e.1 ≠ x) : expo p x = 0 := by
  induction p with
  | nil => rfl
  | cons e r ih =>
    show (if e.1 = x then e.2 else 0) + expo r x = 0
    rw [if_neg (h e (by simp)), ih fun f hf => h f (by simp [hf])]
    rfl
theorem expo_pos {p : Pr} (h : ∀ e ∈ p, 1 ≤ e.2) {x : Str} (hx : ∃ e ∈ p, e.1 = x) : 1 ≤ expo p x := by
  induction p with
  | nil =>
    obtain ⟨e, he, _⟩ := hx
    cases he
  | cons e r ih =>
    show 1 ≤ (if e.1 = x then e.2 else 0) + expo r x
    have a := expo_nonneg (p := r) (fun f hf => h f (by simp [hf])) x
    have b := h e (by simp)
    by_cases z : e.1 = x
    · rw [if_pos z]
      omega
    · obtain ⟨f, hf, ef⟩ := hx
      rcases List.mem_cons.mp hf with q | q
      · subst q
        exact absurd ef z
      · have := ih (fun f hf => h f (by simp [hf])) ⟨f, q, ef⟩
        rw [if_neg z]
        omega
theorem mem_of_expo {p : Pr} {x : Str} (h : expo p x ≠ 0) : ∃ e ∈ p, e.1 = x := by
  by_cases q : ∃ e ∈ p, e.1 = x
  · exact q
  · exact absurd (expo_zero fun e he z => q ⟨e, he, z⟩) h
theorem Canon.head {e : Str × Int} {p : Pr} (h : Canon (e :: p)) : expo (e :: p) e.1 = e.2 := by
  show (if e.1 = e.1 then e.2 else 0) + expo p e.1 = e.2
  rw [if_pos rfl, expo_zero fun f hf z => ?_]
  · omega
  · have := (List.pairwise_cons.mp h.up).1 f hf
    rw [z] at this
    exact slt_irrefl _ this
theorem Canon.low {e : Str × Int} {p : Pr} (h : Canon (e :: p)) {x : Str} (hx : slt x e.1) : expo (e :: p) x = 0 := by
  refine expo_zero fun f hf z => ?_
  rcases List.mem_cons.mp hf with q | q
  · subst q
    rw [z] at hx
    exact slt_irrefl _ hx
  · have := (List.pairwise_cons.mp h.up).1 f q
    rw [z] at this
    exact slt_irrefl _ (slt_trans hx this)
theorem canon_eq : ∀ {p q : Pr}, Canon p → Canon q → (∀ x, expo p x = expo q x) → p = q
  | [], [], _, _, _ => rfl
  | [], f :: q, _, hq, h => by
    have a := h f.1
    rw [hq.head] at a
    have b := hq.one f (by simp)
    have : expo [] f.1 = 0 := rfl
    omega
  | e :: p, [], hp, _, h => by
    have a := h e.1
    rw [hp.head] at a
    have b := hp.one e (by simp)
    have : expo [] e.1 = 0 := rfl
    omega
  | e :: p, f :: q, hp, hq, h => by
    have n1 : ¬ slt e.1 f.1 := fun z => by
      have a := h e.1
      rw [hp.head, hq.low z] at a
      have := hp.one e (by simp)
      omega
    have n2 : ¬ slt f.1 e.1 := fun z => by
      have a := h f.1
      rw [hq.head, hp.low z] at a
      have := hq.one f (by simp)
      omega
    have e1 : e.1 = f.1 := (slt_or n1).resolve_left n2
    have e2 : e.2 = f.2 := by
      have a := h e.1
      rw [hp.head, e1, hq.head] at a
      exact a
    have ef : e = f := Prod.ext e1 e2
    subst ef
    rw [canon_eq hp.tail hq.tail fun x => by
      have a : (if e.1 = x then e.2 else 0) + expo p x = (if e.1 = x then e.2 else 0) + expo q x := h x
      omega]
def insE (e : Str × Int) : Pr → Pr
  | [] => [e]
  | f :: r => if slt e.1 f.1 then e :: f :: r else if e.1 = f.1 then (f.1, f.2 + e.2) :: r else f :: insE e r
theorem expo_ins (e : Str × Int) (p : Pr) (x : Str) : expo (insE e p) x = (if e.1 = x then e.2 else 0) + expo p x := by
  induction p with
  | nil => rfl
  | cons f r ih =>
    unfold insE
    split
    · rfl
    · split
      · rename_i h
        show (if f.1 = x then f.2 + e.2 else 0) + expo r x = (if e.1 = x then e.2 else 0) + ((if f.1 = x then f.2 else 0) + expo r x)
        rw [h]
        split <;> omega
      · show (if f.1 = x then f.2 else 0) + expo (insE e r) x = (if e.1 = x then e.2 else 0) + ((if f.1 = x then f.2 else 0) + expo r x)
        rw [ih]
        omega
theorem ins_names {e : Str × Int} {p : Pr} {f : Str × Int} (h : f ∈ insE e p) : f.1 = e.1 ∨ ∃ g ∈ p, g.1 = f.1 := by
  induction p with
  | nil => exact .inl (by rw [show f = e by simpa [insE] using h])
  | cons g r ih =>
    unfold insE at h
    split at h
    · rcases List.mem_cons.mp h with z | z
      · exact .inl (by rw [z])
      · exact .inr ⟨f, z, rfl⟩
    · split at h
      · rename_i q
        rcases List.mem_cons.mp h with z | z
        · exact .inl (by rw [z]; exact q.symm)
        · exact .inr ⟨f, by simp [z], rfl⟩
      · rcases List.mem_cons.mp h with z | z
        · exact .inr ⟨f, by simp [z], rfl⟩
        · rcases ih z with y | ⟨t, ht, et⟩
          · exact .inl y
          · exact .inr ⟨t, by simp [ht], et⟩
theorem Canon.ins {e : Str × Int} {p : Pr} (he : 1 ≤ e.2) (h : Canon p) : Canon (insE e p) := by
  induction p with
  | nil => exact ⟨List.pairwise_singleton _ _, fun f hf => by rw [show f = e by simpa [insE] using hf]; exact he⟩
  | cons f r ih =>
    have hr := ih h.tail
    have hf := h.one f (by simp)
    have up := List.pairwise_cons.mp h.up
    unfold insE
    split
    · rename_i z
      refine ⟨List.pairwise_cons.mpr ⟨fun g hg => ?_, h.up⟩, fun g hg => ?_⟩
      · rcases List.mem_cons.mp hg with q | q
        · rw [q]; exact z
        · exact slt_trans z (up.1 g q)
      · rcases List.mem_cons.mp hg with q | q
        · rw [q]; exact he
        · exact h.one g q
    · split
      · refine ⟨List.pairwise_cons.mpr ⟨up.1, up.2⟩, fun g hg => ?_⟩
        rcases List.mem_cons.mp hg with q | q
        · rw [q]
          show 1 ≤ f.2 + e.2
          omega
        · exact h.one g (by simp [q])
      · rename_i n1 n2
        refine ⟨List.pairwise_cons.mpr ⟨fun g hg => ?_, hr.up⟩, fun g hg => ?_⟩
        · rcases ins_names hg with q | ⟨t, ht, et⟩
          · rw [q]
            rcases slt_or n1 with z | z
            · exact z
            · exact absurd z n2
          · rw [← et]
            exact up.1 t ht
        · rcases List.mem_cons.mp hg with q | q
          · rw [q]; exact hf
          · exact hr.one g q
/-- the product of two products -/
def joinP (p q : Pr) : Pr := p.foldr insE q
theorem expo_join (p q : Pr) (x : Str) : expo (joinP p q) x = expo p x + expo q x := by
  induction p with
  | nil =>
    show expo q x = 0 + expo q x
    omega
  | cons e r ih =>
    show expo (insE e (joinP r q)) x = (if e.1 = x then e.2 else 0) + expo r x + expo q x
    rw [expo_ins, ih]
    omega
theorem Canon.join {p q : Pr} (hp : ∀ e ∈ p, 1 ≤ e.2) (hq : Canon q) : Canon (joinP p q) := by
  induction p with
  | nil => exact hq
  | cons e r ih => exact (ih fun f hf => hp f (by simp [hf])).ins (hp e (by simp))
theorem join_names {p q : Pr} {f : Str × Int} (h : f ∈ joinP p q) : (∃ g ∈ p, g.1 = f.1) ∨ ∃ g ∈ q, g.1 = f.1 := by
  induction p generalizing f with
  | nil => exact .inr ⟨f, h, rfl⟩
  | cons e r ih =>
    rcases ins_names h with z | ⟨t, ht, et⟩
    · exact .inl ⟨e, by simp, z.symm⟩
    · rcases ih ht with ⟨g, hg, eg⟩ | ⟨g, hg, eg⟩
      · exact .inl ⟨g, by simp [hg], eg.trans et⟩
      · exact .inr ⟨g, hg, eg.trans et⟩
theorem join_comm {p q : Pr} (hp : Canon p) (hq : Canon q) : joinP p q = joinP q p := canon_eq (hq.join hp.one) (hp.join hq.one) fun x => by rw [expo_join, expo_join]; omega
theorem join_assoc {p q r : Pr} (hp : Canon p) (hq : Canon q) (hr : Canon r) : joinP (joinP p q) r = joinP p (joinP q r) := canon_eq (hr.join (hq.join hp.one).one) ((hr.join hq.one).join hp.one) fun x => by rw [expo_join, expo_join, expo_join, expo_join]; omega
theorem join_nil {p : Pr} (hp : Canon p) : joinP p [] = p := canon_eq (Canon.nil.join hp.one) hp fun x => by rw [expo_join]; show expo p x + 0 = _; omega
theorem nil_join (p : Pr) : joinP [] p = p := rfl
theorem expo_perm {p q : Pr} (h : p.Perm q) (x : Str) : expo p x = expo q x := by
  induction h with
  | nil => rfl
  | cons e _ ih =>
    show (if e.1 = x then e.2 else 0) + _ = (if e.1 = x then e.2 else 0) + _
    rw [ih]
  | swap e f r =>
    show (if f.1 = x then f.2 else 0) + ((if e.1 = x then e.2 else 0) + expo r x) = (if e.1 = x then e.2 else 0) + ((if f.1 = x then f.2 else 0) + expo r x)
    omega
  | trans _ _ a b => exact a.trans b
/-! ### dicts from names to powers, by turns -/
def putS (L : Pr) (x : Str) (v : Int) : Pr := if (L.any fun e => decide (e.1 = x)) = true then L.map (fun e => if e.1 = x then (e.1, v) else e) else L ++ [(x, v)]
theorem dSI_put (L : Pr) (x : Str) (v : Int) : putK (dSI L) (Sum.inr x) (.int v) = dSI (putS L x v) := by
  unfold putK putS dSI
  have e : ((L.map fun e => ((Sum.inr e.1 : L2.Key), V.int e.2)).any fun kv => decide (kv.1 = (Sum.inr x : L2.Key))) = L.any fun e => decide (e.1 = x) := by
    rw [List.any_map]
    congr 1
    funext a
    show decide ((Sum.inr a.1 : L2.Key) = Sum.inr x) = decide (a.1 = x)
    by_cases z : a.1 = x
    · simp [z]
    · simp [z]
  rw [e]
  by_cases c : (L.any fun e => decide (e.1 = x)) = true
  · rw [if_pos c, if_pos c, List.map_map, List.map_map]
    refine List.map_congr_left fun a _ => ?_
    show (if (Sum.inr a.1 : L2.Key) = Sum.inr x then ((Sum.inr a.1 : L2.Key), V.int v) else (Sum.inr a.1, V.int a.2)) = (Sum.inr (if a.1 = x then (a.1, v) else a).1, V.int (if a.1 = x then (a.1, v) else a).2)
    by_cases z : a.1 = x
    · rw [if_pos (by rw [z]), if_pos z]
    · rw [if_neg (by simpa using z), if_neg z]
  · rw [if_neg c, if_neg c, List.map_append]
    rfl
theorem valV_dSI {L : Pr} (hn : (L.map (·.1)).Nodup) (x : Str) : (valV (dSI L) (Sum.inr x)).getD (.int 0) = .int (expo L x) := by
  induction L with
  | nil => rfl
  | cons e r ih =>
    rw [List.map_cons] at hn
    obtain ⟨n1, n2⟩ := List.nodup_cons.mp hn
    have ih := ih n2
    unfold valV dSI at ih ⊢
    rw [List.map_cons, List.find?_cons]
    show _ = V.int ((if e.1 = x then e.2 else 0) + expo r x)
    by_cases z : e.1 = x
    · rw [if_pos z, expo_zero fun f hf q => n1 (by rw [z, ← q]; exact List.mem_map.mpr ⟨f, hf, rfl⟩)]
      simp [z]
    · rw [if_neg z]
      simp only [show decide ((Sum.inr e.1 : L2.Key) = Sum.inr x) = false by simpa using z, Int.zero_add]
      exact ih
theorem expo_append (p q : Pr) (x : Str) : expo (p ++ q) x = expo p x + expo q x := by
  induction p with
  | nil =>
    show expo q x = 0 + expo q x
    omega
  | cons e r ih =>
    show (if e.1 = x then e.2 else 0) + expo (r ++ q) x = (if e.1 = x then e.2 else 0) + expo r x + expo q x
    rw [ih]
    omega
theorem putS_keys (L : Pr) (x : Str) (v : Int) : ∀ e ∈ putS L x v, e = (x, v) ∨ e ∈ L := by
  intro e he
  unfold putS at he
  split at he
  · obtain ⟨f, hf, ef⟩ := List.mem_map.mp he
    by_cases z : f.1 = x
    · rw [if_pos z] at ef
      exact .inl (by rw [← ef, z])
    · rw [if_neg z] at ef
      exact .inr (by rw [← ef]; exact hf)
  · rcases List.mem_append.mp he with h | h
    · exact .inr h
    · exact .inl (by simpa using h)
theorem putS_nodup {L : Pr} (x : Str) (v : Int) (h : (L.map (·.1)).Nodup) : ((putS L x v).map (·.1)).Nodup := by
  unfold putS
  split
  · have e : (L.map fun e => if e.1 = x then (e.1, v) else e).map (·.1) = L.map (·.1) := by
      rw [List.map_map]
      refine List.map_congr_left fun e _ => ?_
      show (if e.1 = x then (e.1, v) else e).1 = e.1
      split <;> rfl
    rw [e]
    exact h
  · rename_i hn
    rw [List.map_append]
    refine List.nodup_append.mpr ⟨h, by simp, fun a ha b hb z => ?_⟩
    have eb : b = x := by simpa using hb
    subst z
    subst eb
    obtain ⟨e, he, ee⟩ := List.mem_map.mp ha
    exact hn (List.any_eq_true.mpr ⟨e, he, by simp [ee]⟩)
theorem putS_len (L : Pr) (x : Str) (v : Int) : (putS L x v).length ≤ L.length + 1 := by
  unfold putS
  split
  · rw [List.length_map]
    omega
  · rw [List.length_append]
    exact Nat.le_refl _
theorem expo_put {L : Pr} (hn : (L.map (·.1)).Nodup) (x : Str) (k : Int) (y : Str) : expo (putS L x (expo L x + k)) y = expo L y + (if x = y then k else 0) := by
  have gen : ∀ v, expo (putS L x v) y = expo L y + (if x = y then v - expo L x else 0) := by
    intro v
    unfold putS
    by_cases c : (L.any fun e => decide (e.1 = x)) = true
    · rw [if_pos c]
      obtain ⟨e0, he0, ee0⟩ := List.any_eq_true.mp c
      have ee1 : e0.1 = x := by simpa using ee0
      clear c ee0
      induction L with
      | nil => cases he0
      | cons e r ih =>
        rw [List.map_cons] at hn
        obtain ⟨n1, n2⟩ := List.nodup_cons.mp hn
        by_cases z : e.1 = x
        · have same : (r.map fun f => if f.1 = x then (f.1, v) else f) = r := by
            conv => rhs; rw [← List.map_id r]
            refine List.map_congr_left fun f hf => ?_
            rw [if_neg fun q => n1 (by rw [z, ← q]; exact List.mem_map.mpr ⟨f, hf, rfl⟩)]
            rfl
          have z0 : expo r x = 0 := expo_zero fun f hf q => n1 (by rw [z, ← q]; exact List.mem_map.mpr ⟨f, hf, rfl⟩)
          rw [List.map_cons, if_pos z, same]
          show (if e.1 = y then v else 0) + expo r y = (if e.1 = y then e.2 else 0) + expo r y + (if x = y then v - ((if e.1 = x then e.2 else 0) + expo r x) else 0)
          rw [if_pos z, z0, z]
          split <;> omega
        · rw [List.map_cons, if_neg z]
          rcases List.mem_cons.mp he0 with q | q
          · subst q
            exact absurd ee1 z
          · show (if e.1 = y then e.2 else 0) + _ = (if e.1 = y then e.2 else 0) + expo r y + (if x = y then v - ((if e.1 = x then e.2 else 0) + expo r x) else 0)
            rw [ih n2 q, if_neg z]
            split <;> split <;> omega
    · rw [if_neg c, expo_append]
      have z0 : expo L x = 0 := expo_zero fun f hf q => c (List.any_eq_true.mpr ⟨f, hf, by simp [q]⟩)
      rw [z0]
      show expo L y + ((if x = y then v else 0) + 0) = _
      split <;> omega
  rw [gen]
  split <;> omega
/-! ### the draws -/
/-- the three cells of the drawing: a seed, the list of what is left of the script, a place -/
structure HAt (H : Hp) (h c : Addr) (s k : Int) (cs : List Int) : Prop where
  h : H h = some (.lst [.int s, .ref c, .int k])
  c : H c = some (.lst (cs.map V.int))
  n : cs.length ≤ 63
theorem HAt.ne {H : Hp} {h c : Addr} {s k : Int} {cs : List Int} (D : HAt H h c s k cs) : h ≠ c := by
  refine ne_of D.h D.c (fun e => ?_)
  cases cs with
  | nil => cases e
  | cons x r =>
    cases r with
    | nil => cases e
    | cons y r => cases e
/-- all that was tracked is as it was, but for the drawing's two lists -/
def But (h c : Addr) (H H' : Hp) : Prop := ∀ b o, H b = some o → b ≠ h → b ≠ c → H' b = some o
theorem But.refl (h c : Addr) (H : Hp) : But h c H H := fun _ _ e _ _ => e
theorem But.trans {h c : Addr} {H H1 H2 : Hp} (a : But h c H H1) (b : But h c H1 H2) : But h c H H2 := fun x o e n1 n2 => b x o (a x o e n1 n2) n1 n2
theorem But.same {h c : Addr} {H H1 H2 : Hp} (a : But h c H H1) (b : Same H1 H2) : But h c H H2 := fun x o e n1 n2 => b x o (a x o e n1 n2)
theorem Same.but {h c : Addr} {H H1 : Hp} (a : Same H H1) : But h c H H1 := fun x o e _ _ => a x o e
theorem HAt.same {H H' : Hp} {h c : Addr} {s k : Int} {cs : List Int} (D : HAt H h c s k cs) (e : Same H H') : HAt H' h c s k cs := ⟨e _ _ D.h, e _ _ D.c, D.n⟩
def spNext : Sp := fun vs H Q _ => ∃ (h c : Addr) (s k m : Int) (cs : List Int), vs = [.ref h, .int m] ∧ 0 < m ∧ m < 1073741824 ∧ HAt H h c s k cs ∧
  ∀ (s' k' : Int) (cs' : List Int) (r : Int) (H' : Hp), 0 ≤ r → r < m → HAt H' h c s' k' cs' → But h c H H' → Q (.int r) H'
theorem fmod_lo {x m : Int} (h : 0 < m) : 0 ≤ x.fmod m := by
  rw [Int.fmod_eq_emod_of_nonneg _ (by omega)]
  exact Int.emod_nonneg _ (by omega)
theorem fmod_hi {x m : Int} (h : 0 < m) : x.fmod m < m := by
  rw [Int.fmod_eq_emod_of_nonneg _ (by omega)]
  exact Int.emod_lt_of_pos _ h
theorem max1 (n : Nat) : (if (n : Int) > 1 then (n : Int) else 1) = ((if n > 1 then n else 1 : Nat) : Int) := by
  split <;> split <;> omega
section
variable {P : Program} {w : World} {K : PySem.W.Frag} {mg : Str → Option Value} {base : Heap} {C : Addr}
theorem ok_law_next {f : Addr} {fd : FuncData} (T : Txt K mg C) (D : DefAt K mg "_law_next" "_law_next" s_law_next ["_law_h", "_law_many"] f fd) : FnOk P w K mg base CX0 1 f fd ["_law_h", "_law_many"] spNext := by
  refine D.F.ok sc_law_next (fun vs H Q E h => ?_) (fun cdv A outer s H vs Q E hr h => ?_)
  · obtain ⟨h, c, s, k, m, cs, rfl, _⟩ := h
    rfl
  · obtain ⟨h, c, z, k, m, cs, rfl, m0, m1, A1, q⟩ := h
    refine ⟨_, (pss_cons (ps_set (i := 2) sc_law_next.nd rfl (.inl rfl) (pe_op op_modN (pe_ix ix_list (pv 0) pe_int (fun _ _ => rfl)) (pe_callB (call_max2 rfl) (by rfl) T.m_max (by decide +kernel) (pa_cons pe_int (pa_cons (pe_callB call_len_seq (by rfl) T.m_len (by decide +kernel) (pa_cons (pe_ix ix_list (pv 0) pe_int (fun _ _ => rfl)) pa_nil)) pa_nil)))))
      (pss_cons (ps_set (i := 3) sc_law_next.nd rfl (.inl rfl) (pe_ifExp (pt_cmpR (op_neD hr.units) (pe_ix ix_list (pv 0) pe_int (fun _ _ => rfl)) (pe_lst pa_nil) (nomark _)) (pe_ix ix_list (pe_ix ix_list (pv 0) pe_int (fun _ _ => rfl)) (pv 2) (fun _ _ => rfl)) pe_int))
      (pss_cons (ps_if (pt_cmpR op_ge (pv 3) (pe_op op_pow pe_int pe_int) (nomark _)) (pss_cons (ps_asg (pe_op op_fdivN (pv 3) (pv 1)) (pg_sub (pe_ix ix_list (pv 0) pe_int (fun _ _ => rfl)) (pv 2) set_list)) (pss_one (ps_ret (pe_op op_modN (pe_callTy call_int1 (by rfl) T.m_int (by decide +kernel) (pa_cons (pv 3) pa_nil)) (pv 1))))) pss_nil)
      (pss_cons (ps_asg (pe_op op_mod (pe_callTy call_int1 (by rfl) T.m_int (by decide +kernel) (pa_cons (pe_op op_add (pe_op op_add (pe_op op_mul (pe_ix ix_list (pv 0) pe_int (fun _ _ => rfl)) pe_int) (pe_op op_mul (pv 3) pe_int)) pe_int) pa_nil)) pe_int) (pg_sub (pv 0) pe_int set_list))
      (pss_cons (ps_asg (pe_op op_add (pe_ix ix_list (pv 0) pe_int (fun _ _ => rfl)) pe_int) (pg_sub (pv 0) pe_int set_list))
      (pss_one (ps_ret (pe_op op_modN (pe_callTy call_int1 (by rfl) T.m_int (by decide +kernel) (pa_cons (pe_op op_fdiv (pe_ix ix_list (pv 0) pe_int (fun _ _ => rfl)) pe_int) pa_nil)) (pv 1))))))))), ?_⟩
    have hne := A1.ne
    have lc : (cs.map V.int).length = cs.length := List.length_map _
    -- the place: h[2] % max(1, len(h[1]))
    refine ⟨_, rfl, h, _, _, _, rfl, rfl, SqL.of A1.h, atI_nat (j := 2) rfl, _, rfl, h, _, _, _, rfl, rfl, SqL.of A1.h, atI_nat (j := 1) rfl, c, _, rfl, .inl (SqL.of A1.c), _, _, rfl, _, _, rfl, rfl, ?_, ?_⟩
    · rw [lc, max1]
      split <;> omega
    rw [lc, max1]
    have hat : ∀ x : Int, cs ≠ [] → ∃ j : Nat, x.fmod ((if cs.length > 1 then cs.length else 1 : Nat) : Int) = (j : Int) ∧ j < cs.length := fun x e => by
      have l0 : 0 < cs.length := List.length_pos_iff.mpr e
      have e1 : (if cs.length > 1 then cs.length else 1) = cs.length := by split <;> omega
      rw [e1]
      have a := fmod_lo (x := x) (m := (cs.length : Int)) (by omega)
      have b := fmod_hi (x := x) (m := (cs.length : Int)) (by omega)
      exact ⟨(x.fmod cs.length).toNat, by omega, by omega⟩
    -- the cell
    refine ⟨_, rfl, h, _, _, _, rfl, rfl, SqL.of A1.h, atI_nat (j := 1) rfl, (by show 0 ≤ sizeLine; decide), fun l hl => ?_⟩
    have sl : Same H (upd H l (.lst [])) := same_upd hl
    have A2 := A1.same sl
    have fin : ∀ (s' k' : Int) (cs' : List Int) (r : Int) (H' : Hp), 0 ≤ r → r < m → HAt H' h c s' k' cs' → But h c (upd H l (.lst [])) H' → Q (.int r) H' := fun s' k' cs' r H' r0 r1 A' B' => q s' k' cs' r H' r0 r1 A' ((Same.but sl).trans B')
    refine ⟨_, _, Dp.lst (SqL.of A2.c) (dpInts cs), Dp.lst (SqL.of upd_same) DpAll.nil, shapedInts cs, by decide, _, rfl, ite2 (fun e => ?_) (fun e => ?_)⟩
    rotate_left
    · refine ⟨_, rfl, _, _, rfl, rfl, ⟨by decide, by decide, by decide⟩, _, _, rfl, rfl, _, rfl, ite2 (fun e => absurd (of_decide_eq_true e) (by decide +kernel)) (fun e => ?_)⟩
      refine ⟨_, rfl, h, _, _, _, rfl, rfl, SqL.of A2.h, atI_nat (j := 0) rfl, _, _, rfl, rfl, .inr ⟨by decide, by decide⟩, _, rfl, _, _, rfl, rfl, .inr ⟨by decide, by decide⟩, _, _, rfl, rfl, _, _, rfl, rfl, .inl ⟨_, rfl, _, _, rfl, rfl, (by show (0 : Int) < 2147483647; decide), _, rfl, h, _, _, 0, rfl, rfl, A2.h, rfl,
        _, rfl, h, _, _, _, rfl, rfl, SqL.of upd_same, atI_nat (j := 2) rfl, _, _, rfl, rfl, _, rfl, h, _, _, 2, rfl, rfl, upd_same, rfl,
        _, rfl, h, _, _, _, rfl, rfl, SqL.of upd_same, atI_nat (j := 0) rfl, _, _, rfl, rfl, ⟨by decide, by decide⟩, .inl ⟨_, rfl, _, rfl, _, _, rfl, rfl, by omega, ?_⟩⟩⟩
      exact fin _ _ cs _ _ (fmod_lo m0) (fmod_hi m0) ⟨upd_same, by rw [upd_ne hne.symm, upd_ne hne.symm]; exact A2.c, A1.n⟩ fun b o e nb nc => by rw [upd_ne nb, upd_ne nb]; exact e
    · have e0 : cs ≠ [] := fun z => by
        subst z
        simp [PyData.eqv, PyData.eqvAll] at e
      obtain ⟨j, ej, hj⟩ := hat k e0
      have gj : (cs.map V.int)[j]? = some (.int cs[j]) := by
        rw [List.getElem?_map, List.getElem?_eq_getElem hj]
        rfl
      refine ⟨_, rfl, h, _, _, _, rfl, rfl, SqL.of A2.h, atI_nat (j := 1) rfl, _, rfl, c, _, _, _, rfl, rfl, SqL.of A2.c, at_of ej gj, _, rfl, _, _, rfl, rfl, ⟨by decide, by decide, by decide⟩, _, _, rfl, rfl, _, rfl, ite2 (fun e => ?_) (fun e => ?_)⟩
      · -- h[1][at] = cell // many; return cell % many
        refine ⟨_, rfl, _, rfl, _, _, rfl, rfl, ⟨by omega, by omega⟩, _, rfl, h, _, _, _, rfl, rfl, SqL.of A2.h, atI_nat (j := 1) rfl, _, rfl, c, _, _, j, rfl, rfl, A2.c, by rw [ej]; exact ixNat (by rw [lc]; exact hj), _, rfl, .inl ⟨_, rfl, _, rfl, _, _, rfl, rfl, by omega, ?_⟩⟩
        exact fin z k (cs.set j (cs[j].fdiv m)) _ _ (fmod_lo m0) (fmod_hi m0) ⟨by rw [upd_ne hne]; exact A2.h, by rw [upd_same, List.map_set], by rw [List.length_set]; exact A1.n⟩ fun b o e nb nc => by rw [upd_ne nc]; exact e
      · refine ⟨_, rfl, h, _, _, _, rfl, rfl, SqL.of A2.h, atI_nat (j := 0) rfl, _, _, rfl, rfl, .inr ⟨by decide, by decide⟩, _, rfl, _, _, rfl, rfl, .inr ⟨by decide, by decide⟩, _, _, rfl, rfl, _, _, rfl, rfl, .inl ⟨_, rfl, _, _, rfl, rfl, (by show (0 : Int) < 2147483647; decide), _, rfl, h, _, _, 0, rfl, rfl, A2.h, rfl,
          _, rfl, h, _, _, _, rfl, rfl, SqL.of upd_same, atI_nat (j := 2) rfl, _, _, rfl, rfl, _, rfl, h, _, _, 2, rfl, rfl, upd_same, rfl,
          _, rfl, h, _, _, _, rfl, rfl, SqL.of upd_same, atI_nat (j := 0) rfl, _, _, rfl, rfl, ⟨by decide, by decide⟩, .inl ⟨_, rfl, _, rfl, _, _, rfl, rfl, by omega, ?_⟩⟩⟩
        exact fin _ _ cs _ _ (fmod_lo m0) (fmod_hi m0) ⟨upd_same, by rw [upd_ne hne.symm, upd_ne hne.symm]; exact A2.c, A1.n⟩ fun b o e nb nc => by rw [upd_ne nb, upd_ne nb]; exact e
end
theorem HAt.set {H : Hp} {h c l : Addr} {s k : Int} {cs : List Int} {o : HO} (D : HAt H h c s k cs) (nh : l ≠ h) (nc : l ≠ c) : HAt (upd H l o) h c s k cs := ⟨by rw [upd_ne nh.symm]; exact D.h, by rw [upd_ne nc.symm]; exact D.c, D.n⟩
/-! ### the names that are drawn -/
def SN (l : List Nat) : Str := ⟨l.toArray⟩
theorem SN_inj {a b : List Nat} (h : SN a = SN b) : a = b := by
  unfold SN at h
  injection h with h
  injection h
theorem SN_list (z : Str) : SN z.cps.toList = z := rfl
theorem SN_cps (l : List Nat) : (SN l).cps.toList = l := rfl
theorem SN_len (l : List Nat) : (SN l).length = l.length := by
  simp [SN, Str.length]
theorem SN_app (a b : List Nat) : SN a ++ SN b = SN (a ++ b) := by
  show (⟨a.toArray ++ b.toArray⟩ : Str) = _
  unfold SN
  simp
def abc : List Nat := ("abcdefghijklmnopqrstuvwxyz" : Str).cps.toList
theorem abc_at : ∀ j, j < 26 → abc[j]? = some (97 + j) := by decide +kernel
theorem abc_atI {i : Int} (h0 : 0 ≤ i) (h1 : i < 26) : atI abc i = some (97 + i.toNat) := by
  have e : i = ((i.toNat : Nat) : Int) := by omega
  have a := atI_nat (xs := abc) (j := i.toNat) (abc_at i.toNat (by omega))
  rw [← e] at a
  exact a
def letterC (c : Nat) : Prop := 97 ≤ c ∧ c < 123
theorem join_ones : ∀ cs : List Nat, Str.join (SN []) (cs.map fun c => SN [c]) = SN cs
  | [] => rfl
  | [c] => rfl
  | c :: d :: r => by
    show SN [c] ++ SN [] ++ Str.join (SN []) ((d :: r).map fun c => SN [c]) = _
    rw [join_ones (d :: r), SN_app, SN_app]
    rfl
theorem cutS_take (wd : List Nat) (e : Nat) : cutS (SN wd) none (some (e : Int)) = SN (wd.take e) := by
  unfold cutS
  have h0 : HT.sIx (SN wd).length 0 none = 0 := rfl
  have h1 : HT.sIx (SN wd).length (SN wd).length (some (e : Int)) = min e wd.length := by
    rw [SN_len]
    show (if (e : Int) < 0 then ((e : Int) + (wd.length : Int)).toNat else min (e : Int).toNat wd.length) = _
    rw [if_neg (by omega), Int.toNat_natCast]
  rw [h0, h1, SN_cps, List.drop_zero, Nat.sub_zero]
  show SN _ = SN _
  congr 1
  rw [List.take_eq_take_iff]
  omega
/-- the k-th letter of a turn -/
def lett (t k : Nat) : Nat := 97 + (t + 11 * k) % 26
theorem lett_ok (t k : Nat) : letterC (lett t k) := by
  unfold letterC lett
  omega
theorem lett_inj {t k l : Nat} (hk : k < 7) (hl : l < 7) (h : lett t k = lett t l) : k = l := by
  unfold lett at h
  omega
/-- what names are like -/
structure NamesOk (ns : List Str) : Prop where
  len : ns.length = 7
  nd : ns.Nodup
  ok : ∀ n ∈ ns, 1 ≤ n.length ∧ n.length ≤ 8 ∧ ∀ c ∈ n.cps.toList, letterC c
theorem names_of_fn {f : Nat → List Nat} (inj : ∀ k l, k < 7 → l < 7 → f k = f l → k = l) (ok : ∀ k, k < 7 → 1 ≤ (f k).length ∧ (f k).length ≤ 8 ∧ ∀ c ∈ f k, letterC c) : NamesOk ((List.range 7).map fun k => SN (f k)) where
  len := by simp
  nd := by
    rw [List.nodup_iff_pairwise_ne, List.pairwise_map]
    refine List.Pairwise.imp_of_mem (fun {a b} ha hb h e => h (inj a b (List.mem_range.mp ha) (List.mem_range.mp hb) (SN_inj e))) (List.nodup_iff_pairwise_ne.mp List.nodup_range)
  ok := by
    intro n hn
    obtain ⟨k, hk, e⟩ := List.mem_map.mp hn
    subst e
    rw [SN_len, SN_cps]
    exact ok k (List.mem_range.mp hk)
theorem names_front {t : Nat} {wd : List Nat} {es : Nat → Nat} (hw : wd.length ≤ 7) (hl : ∀ c ∈ wd, letterC c) : NamesOk ((List.range 7).map fun k => SN (lett t k :: wd.take (es k))) := by
  refine names_of_fn (fun k l hk hl' e => ?_) fun k hk => ⟨by simp, ?_, fun c hc => ?_⟩
  · injection e with e1 _
    exact lett_inj hk hl' e1
  · rw [List.length_cons, List.length_take]
    omega
  · rcases List.mem_cons.mp hc with z | z
    · rw [z]
      exact lett_ok t k
    · exact hl c (List.mem_of_mem_take z)
theorem names_back {t : Nat} {wd : List Nat} {es : Nat → Nat} (hw : wd.length ≤ 7) (hl : ∀ c ∈ wd, letterC c) : NamesOk ((List.range 7).map fun k => SN (wd.take (es k) ++ [lett t k])) := by
  refine names_of_fn (fun k l hk hl' e => ?_) fun k hk => ⟨by simp, ?_, fun c hc => ?_⟩
  · have a := congrArg List.getLast? e
    rw [List.getLast?_concat, List.getLast?_concat] at a
    exact lett_inj hk hl' (Option.some.inj a)
  · rw [List.length_append, List.length_take, List.length_singleton]
    omega
  · rcases List.mem_append.mp hc with z | z
    · exact hl c (List.mem_of_mem_take z)
    · rw [show c = lett t k by simpa using z]
      exact lett_ok t k
section
variable {P : Program} {w : World} {K : PySem.W.Frag} {mg : Str → Option Value} {base : Heap} {C : Addr}
theorem ix_listK {X : Cx} {K : PySem.W.Frag} (e : X.K = K) : IxR X (rIxL K) := by
  subst e
  exact ix_list
theorem But.upd {H H1 : Hp} {h c D : Addr} {o : HO} (B : But h c H H1) (nD : H D = none) : But h c H (upd H1 D o) := fun b u e n1 n2 => by
  rw [upd_ne (ne_of_none e nD)]
  exact B b u e n1 n2
def spNames (K : PySem.W.Frag) : Sp := fun vs H Q _ => ∃ (h c : Addr) (s k : Int) (cs : List Int), vs = [.ref h] ∧ HAt H h c s k cs ∧
  ∀ (s' k' : Int) (cs' : List Int) (ns : List Str) (l : Addr) (H' : Hp), NamesOk ns → HAt H' h c s' k' cs' → But h c H H' → H l = none → l ≠ h → l ≠ c → H' l = some (.lst (ns.map V.str)) → Q (.ref l) H'
theorem range_succ_map {α : Type} (f : Nat → α) (i : Nat) : (List.range (i + 1)).map f = (List.range i).map f ++ [f i] := by
  rw [List.range_succ, List.map_append]
  rfl
theorem ok_law_names {f : Addr} {fd : FuncData} (T : Txt K mg C) (F : DefAt K mg "_law_names" "_law_names" s_law_names ["_law_h"] f fd) : FnOk P w K mg base CX0 2 f fd ["_law_h"] (spNames K) := by
  obtain ⟨f1, fd1, D_law_next⟩ := T.d_law_next
  have G_law_next : FnOk P w K mg base CX0 1 f1 fd1 ["_law_h", "_law_many"] spNext := ok_law_next T D_law_next
  refine F.F.ok sc_law_names (fun vs H Q E h => ?_) (fun cdv A outer s H vs Q E hr h => ?_)
  · obtain ⟨h, c, s, k, cs, rfl, _⟩ := h
    rfl
  · obtain ⟨h, c, z, k, cs, rfl, A1, q⟩ := h
    refine ⟨_, (pss_cons (ps_set (i := 1) sc_law_names.nd rfl (.inr rfl) pe_str)
      (pss_cons (ps_set (i := 2) sc_law_names.nd rfl (.inr rfl) (pe_join pe_str (pe_lc (own := [("_law_k", 6)]) (g := gName 6) (tt := tYes) rfl sc_law_names.nd (pi_range1 rfl T.m_range (pa_cons (pe_call G_law_next (hr.mono (by decide)) (by rfl) D_law_next.g D_law_next.F.kp D_law_next.b .nil pass0 (pa_cons (pv 0) (pa_cons pe_int pa_nil))) pa_nil)) (blkOk_by (own := [("_law_k", 6)]) (N := ["_law_h", "_law_some", "_law_word", "_law_turn", "_law_letters", "_law_ends", "_law_k", "_law_letter"]) (sc := defScope s_law_names) (by decide +kernel)) (fun _ _ _ _ _ => pg_name (i := 6) sc_law_names.nd rfl (.inl rfl)) (fun _ _ _ _ _ => pts_nil) (fun _ _ _ _ _ => (pe_ix ix_str (pv 1) (pe_call G_law_next (hr.mono (by decide)) (by rfl) D_law_next.g D_law_next.F.kp D_law_next.b .nil pass0 (pa_cons (pv 0) (pa_cons pe_int pa_nil))) (fun _ _ => rfl))))))
      (pss_cons (ps_set (i := 3) sc_law_names.nd rfl (.inr rfl) (pe_call G_law_next (hr.mono (by decide)) (by rfl) D_law_next.g D_law_next.F.kp D_law_next.b .nil pass0 (pa_cons (pv 0) (pa_cons pe_int pa_nil))))
      (pss_cons (ps_set (i := 4) sc_law_names.nd rfl (.inr rfl) (pe_lc (own := [("_law_k", 6)]) (g := gName 6) (tt := tYes) rfl sc_law_names.nd (pi_range1 rfl T.m_range (pa_cons pe_int pa_nil)) (blkOk_by (own := [("_law_k", 6)]) (N := ["_law_h", "_law_some", "_law_word", "_law_turn", "_law_letters", "_law_ends", "_law_k", "_law_letter"]) (sc := defScope s_law_names) (by decide +kernel)) (fun _ _ _ _ _ => pg_name (i := 6) sc_law_names.nd rfl (.inl rfl)) (fun _ _ _ _ _ => pts_nil) (fun _ _ _ _ _ => (pe_ix ix_str (pv 1) (pe_op op_mod (pe_callTy call_int1 (by rfl) T.m_int (by decide +kernel) (pa_cons (pe_op op_add (pv 3) (pe_op op_mulW pe_int (pv 6))) pa_nil)) pe_int) (fun _ _ => rfl)))))
      (pss_cons (ps_set (i := 5) sc_law_names.nd rfl (.inr rfl) (pe_op op_rep (pe_lst (pa_cons (pe_callB call_len_str (by rfl) T.m_len (by decide +kernel) (pa_cons (pv 2) pa_nil)) pa_nil)) pe_int))
      (pss_cons (ps_if (pt_cmpR op_eq (pe_call G_law_next (hr.mono (by decide)) (by rfl) D_law_next.g D_law_next.F.kp D_law_next.b .nil pass0 (pa_cons (pv 0) (pa_cons pe_int pa_nil))) pe_int (nomark _)) (pss_one (ps_set (i := 5) sc_law_names.nd rfl (.inr rfl) (pe_lc (own := [("_law_letter", 7)]) (g := gName 7) (tt := tYes) rfl sc_law_names.nd (pi_list (pv 4)) (blkOk_by (own := [("_law_letter", 7)]) (N := ["_law_h", "_law_some", "_law_word", "_law_turn", "_law_letters", "_law_ends", "_law_k", "_law_letter"]) (sc := defScope s_law_names) (by decide +kernel)) (fun _ _ _ _ _ => pg_name (i := 7) sc_law_names.nd rfl (.inl rfl)) (fun _ _ _ _ _ => pts_nil) (fun _ _ _ _ _ => (pe_call G_law_next (hr.mono (by decide)) (by rfl) D_law_next.g D_law_next.F.kp D_law_next.b .nil pass0 (pa_cons (pv 0) (pa_cons (pe_op op_add (pe_callB call_len_str (by rfl) T.m_len (by decide +kernel) (pa_cons (pv 2) pa_nil)) pe_int) pa_nil))))))) pss_nil)
      (pss_cons (ps_if (pt_cmpR op_eq (pe_call G_law_next (hr.mono (by decide)) (by rfl) D_law_next.g D_law_next.F.kp D_law_next.b .nil pass0 (pa_cons (pv 0) (pa_cons pe_int pa_nil))) pe_int (nomark _)) (pss_one (ps_ret (pe_lc (own := [("_law_k", 6)]) (g := gName 6) (tt := tYes) rfl sc_law_names.nd (pi_range1 rfl T.m_range (pa_cons pe_int pa_nil)) (blkOk_by (own := [("_law_k", 6)]) (N := ["_law_h", "_law_some", "_law_word", "_law_turn", "_law_letters", "_law_ends", "_law_k", "_law_letter"]) (sc := defScope s_law_names) (by decide +kernel)) (fun _ _ _ _ _ => pg_name (i := 6) sc_law_names.nd rfl (.inl rfl)) (fun _ _ _ _ _ => pts_nil) (fun _ _ _ _ _ => (pe_op op_add_str (pe_ix (ix_listK (K := K) rfl) (pv 4) (pv 6) (fun _ _ => rfl)) (pe_slice sl_str (pv 2) po_none (po_some (pe_ix (ix_listK (K := K) rfl) (pv 5) (pv 6) (fun _ _ => rfl))))))))) pss_nil)
      (pss_one (ps_ret (pe_lc (own := [("_law_k", 6)]) (g := gName 6) (tt := tYes) rfl sc_law_names.nd (pi_range1 rfl T.m_range (pa_cons pe_int pa_nil)) (blkOk_by (own := [("_law_k", 6)]) (N := ["_law_h", "_law_some", "_law_word", "_law_turn", "_law_letters", "_law_ends", "_law_k", "_law_letter"]) (sc := defScope s_law_names) (by decide +kernel)) (fun _ _ _ _ _ => pg_name (i := 6) sc_law_names.nd rfl (.inl rfl)) (fun _ _ _ _ _ => pts_nil) (fun _ _ _ _ _ => (pe_op op_add_str (pe_slice sl_str (pv 2) po_none (po_some (pe_ix (ix_listK (K := K) rfl) (pv 5) (pv 6) (fun _ _ => rfl)))) (pe_ix (ix_listK (K := K) rfl) (pv 4) (pv 6) (fun _ _ => rfl)))))))))))))), ?_⟩
    -- the word
    refine ⟨⟨_, rfl⟩, _, rfl, h, c, _, _, 8, _, rfl, by decide, by decide, A1, fun s1 k1 cs1 n H1 n0 n8 A2 B1 => ⟨n, rfl, by omega, by omega, fun D nD => ?_⟩⟩
    have dh : D ≠ h := (ne_of_none A2.h nD).symm
    have dc : D ≠ c := (ne_of_none A2.c nD).symm
    refine lc_range (lo := 0) (n := n.toNat) (fun i H3 => ∃ (s k : Int) (cs : List Int) (wd : List Nat), HAt H3 h c s k cs ∧ wd.length = i ∧ (∀ x ∈ wd, letterC x) ∧ H3 D = some (.lst ((wd.map fun x => SN [x]).map V.str)) ∧ But h c H1 H3) ⟨_, _, _, [], A2.same (same_upd nD), rfl, (fun _ z => nomatch z), upd_same, Same.but (same_upd nD)⟩ ?_ ?_
    · rintro i H3 hi ⟨s3, k3, cs3, wd, A3, hl, hw, hD, B3⟩
      refine ⟨rfl, _, rfl, _, rfl, h, c, _, _, 26, _, rfl, by decide, by decide, A3, fun s4 k4 cs4 p H4 p0 p1 A4 B4 => ?_⟩
      have D4 := B4 _ _ hD dh dc
      refine ⟨_, p, _, rfl, rfl, by decide +kernel, abc_atI p0 p1, _, D4, ?_, _, _, _, wd ++ [97 + p.toNat], A4.set dh dc, by rw [List.length_append, hl]; rfl, fun x hx => ?_, ?_, (B3.trans B4).upd nD⟩
      · rw [List.length_map, List.length_map, hl]
        exact small1000 (by omega)
      · rcases List.mem_append.mp hx with m | m
        · exact hw x m
        · rw [show x = 97 + p.toNat by simpa using m]
          unfold letterC
          omega
      · rw [upd_same, List.map_append, List.map_append]
        rfl
    · rintro H3 ⟨s3, k3, cs3, wd, A3, hl, hw, hD, B3⟩
      have wl : wd.length ≤ 7 := by omega
      have hsum : ((wd.map fun x => SN [x]).map (·.length)).sum ≤ 7 := by
        have e : ∀ l : List Nat, ((l.map fun x => SN [x]).map (·.length)).sum = l.length := fun l => by
          induction l with
          | nil => rfl
          | cons x r ih =>
            rw [List.map_cons, List.map_cons, List.sum_cons, ih, SN_len, List.length_cons]
            simp
            omega
        rw [e]
        exact wl
      refine ⟨_, D, wd.map fun x => SN [x], rfl, rfl, .inl (SqL.of hD), ?_, ?_⟩
      · rw [List.length_map]
        have : (("" : Str)).length = 0 := rfl
        rw [this]
        omega
      have ej : Txt.join ("" : Str) (wd.map fun x => SN [x]) = SN wd := (TL.join_eq _ _).trans (join_ones wd)
      rw [ej]
      have B13 := B1.trans B3
      have wz : (SN wd).length ≤ sizeLine := by rw [SN_len, sizeLine_eq]; omega
      -- the turn
      refine ⟨_, rfl, h, c, _, _, 26, _, rfl, by decide, by decide, A3, fun s4 k4 cs4 t H4 t0 t1 A4 B4 => ?_⟩
      -- the letters
      refine ⟨7, rfl, by decide, by decide, fun D2 nD2 => ?_⟩
      have dh2 : D2 ≠ h := (ne_of_none A4.h nD2).symm
      have dc2 : D2 ≠ c := (ne_of_none A4.c nD2).symm
      refine lc_range (lo := 0) (n := 7) (fun i H5 => H5 D2 = some (.lst (((List.range i).map fun k => SN [lett t.toNat k]).map V.str)) ∧ Same H4 H5) ⟨upd_same, same_upd nD2⟩ ?_ ?_
      · rintro i H5 hi ⟨e5, s5⟩
        have e1 : (t + 11 * (0 + (i : Int))).fmod 26 = (((t.toNat + 11 * i) % 26 : Nat) : Int) := by
          rw [Int.fmod_eq_emod_of_nonneg _ (by decide)]
          omega
        refine ⟨rfl, _, rfl, _, rfl, _, rfl, _, _, rfl, rfl, mulOk (a := 10) (b := 10) (by decide) (by omega) (by decide) (by decide) (by decide), _, _, rfl, rfl, .inl ⟨_, rfl, _, _, rfl, rfl, (by show (0 : Int) < 26; decide), _, _, lett t.toNat i, rfl, rfl, by decide +kernel, ?_, _, e5, ?_, ?_, fun b u eb => ?_⟩⟩
        · have a := abc_atI (i := (t + 11 * (0 + (i : Int))) % 26) (by omega) (by omega)
          have e : 97 + ((t + 11 * (0 + (i : Int))) % 26).toNat = lett t.toNat i := by
            unfold lett
            omega
          rw [e] at a
          exact a
        · rw [List.length_map, List.length_map, List.length_range]
          exact small1000 (by omega)
        · rw [upd_same, range_succ_map, List.map_append]
          rfl
        · rw [upd_ne (ne_of_none eb nD2)]
          exact s5 _ _ eb
      · rintro H5 ⟨e5, s5⟩
        -- the ends
        refine ⟨_, rfl, SN wd, rfl, wz, (by show 1 ≤ sizeLine; decide), fun a0 na0 => ⟨a0, 7, _, rfl, rfl, upd_same, by decide, by decide, (by show 1 * 7 ≤ sizeLine; decide), fun a na => ?_⟩⟩
        have A5 := A4.same s5
        have s56 : Same H5 (upd (upd H5 a0 (.lst [.int ((SN wd).length : Int)])) a (.lst (List.replicate (7 : Int).toNat [V.int ((SN wd).length : Int)]).flatten)) := (same_upd na0).trans (same_upd na)
        have ea : (upd (upd H5 a0 (.lst [.int ((SN wd).length : Int)])) a (.lst (List.replicate (7 : Int).toNat [V.int ((SN wd).length : Int)]).flatten)) a = some (.lst ((List.replicate 7 (wd.length : Int)).map V.int)) := by
          rw [upd_same, SN_len]
          rfl
        generalize (upd (upd H5 a0 (.lst [.int ((SN wd).length : Int)])) a (.lst (List.replicate (7 : Int).toNat [V.int ((SN wd).length : Int)]).flatten)) = H6 at s56 ea
        have e6 : H6 D2 = some (.lst (((List.range 7).map fun k => SN [lett t.toNat k]).map V.str)) := s56 _ _ e5
        have A6 := A5.same s56
        have na4 : H4 a = none := by
          cases e0 : H4 a with
          | none => rfl
          | some u =>
            have := (same_upd na0 : Same H5 (upd H5 a0 (.lst [.int ((SN wd).length : Int)]))) _ _ (s5 _ _ e0)
            rw [na] at this
            cases this
        have nah : a ≠ h := (ne_of_none A4.h na4).symm
        have nac : a ≠ c := (ne_of_none A4.c na4).symm
        have B16 : But h c H H6 := ((B13.trans B4).trans (Same.but s5)).trans (Same.but s56)
        refine ⟨_, rfl, h, c, _, _, 2, _, rfl, by decide, by decide, A6, fun s7 k7 cs7 b1 H7 b10 b12 A7 B7 => ?_⟩
        have B27 : But h c H H7 := B16.trans B7
        have keep7 := B7 _ _ e6 dh2 dc2
        have ea := B7 _ _ ea nah nac
        refine ⟨rfl, _, rfl, ite2 (fun e => ?_) (fun e => ?_)⟩
        · refine ⟨_, rfl, D2, rfl, ⟨_, SqL.of keep7⟩, fun D4 nD4 => ?_⟩
          have dh4 : D4 ≠ h := (ne_of_none A7.h nD4).symm
          have dc4 : D4 ≠ c := (ne_of_none A7.c nD4).symm
          have d24 : D2 ≠ D4 := ne_of_none keep7 nD4
          refine lc_list (fun i H9 => ∃ (s k : Int) (cs es : List Int), HAt H9 h c s k cs ∧ es.length = i ∧ (∀ e ∈ es, 0 ≤ e ∧ e ≤ (wd.length : Int)) ∧ H9 D4 = some (.lst (es.map V.int)) ∧ But h c H7 H9) ⟨_, _, _, [], A7.same (same_upd nD4), rfl, (fun _ z => nomatch z), upd_same, Same.but (same_upd nD4)⟩ (fun i H9 _ ⟨_, _, _, _, _, _, _, _, B⟩ => SqL.of (B _ _ keep7 dh2 dc2)) ?_ ?_
          · rintro i x H9 hx ⟨s9, k9, cs9, es, A9, hl9, he9, e9, B9⟩
            refine ⟨rfl, _, rfl, _, rfl, SN wd, rfl, wz, _, _, rfl, rfl, h, c, _, _, _, _, rfl, by rw [SN_len]; omega, by rw [SN_len]; omega, A9, fun s10 k10 cs10 p H10 p0 p1 A10 B10 => ?_⟩
            rw [SN_len] at p1
            have hi : i < 7 := by
              have := (List.getElem?_eq_some_iff.mp hx).1
              rw [List.length_map, List.length_map, List.length_range] at this
              exact this
            have D10 := B10 _ _ e9 dh4 dc4
            refine ⟨_, D10, ?_, _, _, _, es ++ [p], A10.set dh4 dc4, by rw [List.length_append, hl9]; rfl, fun e he => ?_, ?_, (B9.trans B10).upd nD4⟩
            · rw [List.length_map, hl9]
              exact small1000 (by omega)
            · rcases List.mem_append.mp he with m | m
              · exact he9 e m
              · rw [show e = p by simpa using m]
                omega
            · rw [upd_same, List.map_append]
              rfl
          · rintro H9 ⟨s9, k9, cs9, es, A9, hl9, hes, e9, B9⟩
            rw [List.length_map, List.length_map, List.length_range] at hl9
            have hel : es.length = 7 := hl9
            have keep7 := B9 _ _ keep7 dh2 dc2
            have B27 := B27.trans B9
            have A7 := A9
            clear A9 hl9 ea nah nac
            have ea := e9
            have nah := dh4
            have nac := dc4
            clear dh4 dc4 B9 e9
            revert ea nah nac nD4 d24
            generalize D4 = a
            intro nD4 d24 ea nah nac
            clear nD4 B7
            revert keep7 B27 A7 ea
            generalize H9 = H7
            intro keep7 B27 A7 ea
            have D2at : H7 D2 = some (.lst (((List.range 7).map fun k => SN [lett t.toNat k]).map V.str)) := keep7
            have ixL : ∀ i : Nat, i < 7 → atI (((List.range 7).map fun k => SN [lett t.toNat k]).map V.str) (0 + (i : Int)) = some (.str (SN [lett t.toNat i])) := fun i hi => at_of (j := i) (by omega) (by rw [List.getElem?_map, List.getElem?_map, List.getElem?_range hi]; rfl)
            have ixE : ∀ i : Nat, i < 7 → atI (es.map V.int) (0 + (i : Int)) = some (.int (((es.getD i 0).toNat : Nat) : Int)) := fun i hi => at_of (j := i) (by omega) (by
              have l : i < es.length := by omega
              have g : es.getD i 0 = es[i] := by rw [List.getD_eq_getElem?_getD, List.getElem?_eq_getElem l]; rfl
              rw [List.getElem?_map, List.getElem?_eq_getElem l, g]
              have := hes es[i] (List.getElem_mem l)
              show some (V.int es[i]) = some (V.int _)
              congr 2
              omega)
            refine ⟨_, rfl, h, c, _, _, 2, _, rfl, by decide, by decide, A7, fun s8 k8 cs8 b2 H8 b20 b22 A8 B8 => ?_⟩
            have B28 : But h c H H8 := B27.trans B8
            have D8 : H8 D2 = some (.lst (((List.range 7).map fun k => SN [lett t.toNat k]).map V.str)) := B8 _ _ D2at dh2 dc2
            have a8 : H8 a = some (.lst (es.map V.int)) := B8 _ _ ea nah nac
            refine ⟨rfl, _, rfl, ite2 (fun e => ?_) (fun e => ?_)⟩
            · refine ⟨7, rfl, by decide, by decide, fun D3 nD3 => ?_⟩
              have dh3 : D3 ≠ h := (ne_of_none A8.h nD3).symm
              have dc3 : D3 ≠ c := (ne_of_none A8.c nD3).symm
              refine lc_range (lo := 0) (n := 7) (fun i H9 => H9 D3 = some (.lst (((List.range i).map fun k => SN (lett t.toNat k :: wd.take (es.getD k 0).toNat)).map V.str)) ∧ Same H8 H9) ⟨upd_same, same_upd nD3⟩ ?_ ?_
              · rintro i H9 hi ⟨e9, s9⟩
                refine ⟨rfl, _, rfl, _, rfl, D2, _, _, _, rfl, rfl, SqL.of (s9 _ _ D8), ixL i hi, _, rfl, _, rfl, _, rfl, a, _, _, _, rfl, rfl, SqL.of (s9 _ _ a8), ixE i hi, _, rfl, SN wd, rfl, wz, ?_⟩
                rw [cutS_take]
                refine ⟨_, _, rfl, rfl, ?_, _, e9, ?_, ?_, fun b u eb => ?_⟩
                · rw [SN_len, SN_len, List.length_take, sizeLine_eq]
                  show 1 + _ ≤ _
                  omega
                · rw [List.length_map, List.length_map, List.length_range]
                  exact small1000 (by omega)
                · rw [upd_same, SN_app, range_succ_map, List.map_append]
                  rfl
                · rw [upd_ne (ne_of_none eb nD3)]
                  exact s9 _ _ eb
              · rintro H9 ⟨e9, s9⟩
                exact q _ _ _ _ D3 H9 (names_front wl hw) (A8.same s9) (B28.trans (Same.but s9)) (by
                  cases e0 : H D3 with
                  | none => rfl
                  | some u =>
                    have := B28 _ _ e0 dh3 dc3
                    rw [nD3] at this
                    cases this) dh3 dc3 e9
            · refine ⟨7, rfl, by decide, by decide, fun D3 nD3 => ?_⟩
              have dh3 : D3 ≠ h := (ne_of_none A8.h nD3).symm
              have dc3 : D3 ≠ c := (ne_of_none A8.c nD3).symm
              refine lc_range (lo := 0) (n := 7) (fun i H9 => H9 D3 = some (.lst (((List.range i).map fun k => SN (wd.take (es.getD k 0).toNat ++ [lett t.toNat k])).map V.str)) ∧ Same H8 H9) ⟨upd_same, same_upd nD3⟩ ?_ ?_
              · rintro i H9 hi ⟨e9, s9⟩
                refine ⟨rfl, _, rfl, _, rfl, _, rfl, a, _, _, _, rfl, rfl, SqL.of (s9 _ _ a8), ixE i hi, _, rfl, SN wd, rfl, wz, ?_⟩
                rw [cutS_take]
                refine ⟨_, rfl, _, rfl, D2, _, _, _, rfl, rfl, SqL.of (s9 _ _ D8), ixL i hi, _, _, rfl, rfl, ?_, _, e9, ?_, ?_, fun b u eb => ?_⟩
                · rw [SN_len, SN_len, List.length_take, sizeLine_eq]
                  show _ + 1 ≤ _
                  omega
                · rw [List.length_map, List.length_map, List.length_range]
                  exact small1000 (by omega)
                · rw [upd_same, SN_app, range_succ_map, List.map_append]
                  rfl
                · rw [upd_ne (ne_of_none eb nD3)]
                  exact s9 _ _ eb
              · rintro H9 ⟨e9, s9⟩
                exact q _ _ _ _ D3 H9 (names_back wl hw) (A8.same s9) (B28.trans (Same.but s9)) (by
                  cases e0 : H D3 with
                  | none => rfl
                  | some u =>
                    have := B28 _ _ e0 dh3 dc3
                    rw [nD3] at this
                    cases this) dh3 dc3 e9
        · have hel : (List.replicate 7 (wd.length : Int)).length = 7 := List.length_replicate
          have hes : ∀ e ∈ List.replicate 7 (wd.length : Int), 0 ≤ e ∧ e ≤ (wd.length : Int) := fun e he => by
            rw [(List.mem_replicate.mp he).2]
            omega
          revert hel hes ea
          generalize List.replicate 7 (wd.length : Int) = es
          intro ea hel hes
          have D2at : H7 D2 = some (.lst (((List.range 7).map fun k => SN [lett t.toNat k]).map V.str)) := keep7
          have ixL : ∀ i : Nat, i < 7 → atI (((List.range 7).map fun k => SN [lett t.toNat k]).map V.str) (0 + (i : Int)) = some (.str (SN [lett t.toNat i])) := fun i hi => at_of (j := i) (by omega) (by rw [List.getElem?_map, List.getElem?_map, List.getElem?_range hi]; rfl)
          have ixE : ∀ i : Nat, i < 7 → atI (es.map V.int) (0 + (i : Int)) = some (.int (((es.getD i 0).toNat : Nat) : Int)) := fun i hi => at_of (j := i) (by omega) (by
            have l : i < es.length := by omega
            have g : es.getD i 0 = es[i] := by rw [List.getD_eq_getElem?_getD, List.getElem?_eq_getElem l]; rfl
            rw [List.getElem?_map, List.getElem?_eq_getElem l, g]
            have := hes es[i] (List.getElem_mem l)
            show some (V.int es[i]) = some (V.int _)
            congr 2
            omega)
          refine ⟨_, rfl, h, c, _, _, 2, _, rfl, by decide, by decide, A7, fun s8 k8 cs8 b2 H8 b20 b22 A8 B8 => ?_⟩
          have B28 : But h c H H8 := B27.trans B8
          have D8 : H8 D2 = some (.lst (((List.range 7).map fun k => SN [lett t.toNat k]).map V.str)) := B8 _ _ D2at dh2 dc2
          have a8 : H8 a = some (.lst (es.map V.int)) := B8 _ _ ea nah nac
          refine ⟨rfl, _, rfl, ite2 (fun e => ?_) (fun e => ?_)⟩
          · refine ⟨7, rfl, by decide, by decide, fun D3 nD3 => ?_⟩
            have dh3 : D3 ≠ h := (ne_of_none A8.h nD3).symm
            have dc3 : D3 ≠ c := (ne_of_none A8.c nD3).symm
            refine lc_range (lo := 0) (n := 7) (fun i H9 => H9 D3 = some (.lst (((List.range i).map fun k => SN (lett t.toNat k :: wd.take (es.getD k 0).toNat)).map V.str)) ∧ Same H8 H9) ⟨upd_same, same_upd nD3⟩ ?_ ?_
            · rintro i H9 hi ⟨e9, s9⟩
              refine ⟨rfl, _, rfl, _, rfl, D2, _, _, _, rfl, rfl, SqL.of (s9 _ _ D8), ixL i hi, _, rfl, _, rfl, _, rfl, a, _, _, _, rfl, rfl, SqL.of (s9 _ _ a8), ixE i hi, _, rfl, SN wd, rfl, wz, ?_⟩
              rw [cutS_take]
              refine ⟨_, _, rfl, rfl, ?_, _, e9, ?_, ?_, fun b u eb => ?_⟩
              · rw [SN_len, SN_len, List.length_take, sizeLine_eq]
                show 1 + _ ≤ _
                omega
              · rw [List.length_map, List.length_map, List.length_range]
                exact small1000 (by omega)
              · rw [upd_same, SN_app, range_succ_map, List.map_append]
                rfl
              · rw [upd_ne (ne_of_none eb nD3)]
                exact s9 _ _ eb
            · rintro H9 ⟨e9, s9⟩
              exact q _ _ _ _ D3 H9 (names_front wl hw) (A8.same s9) (B28.trans (Same.but s9)) (by
                cases e0 : H D3 with
                | none => rfl
                | some u =>
                  have := B28 _ _ e0 dh3 dc3
                  rw [nD3] at this
                  cases this) dh3 dc3 e9
          · refine ⟨7, rfl, by decide, by decide, fun D3 nD3 => ?_⟩
            have dh3 : D3 ≠ h := (ne_of_none A8.h nD3).symm
            have dc3 : D3 ≠ c := (ne_of_none A8.c nD3).symm
            refine lc_range (lo := 0) (n := 7) (fun i H9 => H9 D3 = some (.lst (((List.range i).map fun k => SN (wd.take (es.getD k 0).toNat ++ [lett t.toNat k])).map V.str)) ∧ Same H8 H9) ⟨upd_same, same_upd nD3⟩ ?_ ?_
            · rintro i H9 hi ⟨e9, s9⟩
              refine ⟨rfl, _, rfl, _, rfl, _, rfl, a, _, _, _, rfl, rfl, SqL.of (s9 _ _ a8), ixE i hi, _, rfl, SN wd, rfl, wz, ?_⟩
              rw [cutS_take]
              refine ⟨_, rfl, _, rfl, D2, _, _, _, rfl, rfl, SqL.of (s9 _ _ D8), ixL i hi, _, _, rfl, rfl, ?_, _, e9, ?_, ?_, fun b u eb => ?_⟩
              · rw [SN_len, SN_len, List.length_take, sizeLine_eq]
                show _ + 1 ≤ _
                omega
              · rw [List.length_map, List.length_map, List.length_range]
                exact small1000 (by omega)
              · rw [upd_same, SN_app, range_succ_map, List.map_append]
                rfl
              · rw [upd_ne (ne_of_none eb nD3)]
                exact s9 _ _ eb
            · rintro H9 ⟨e9, s9⟩
              exact q _ _ _ _ D3 H9 (names_back wl hw) (A8.same s9) (B28.trans (Same.but s9)) (by
                cases e0 : H D3 with
                | none => rfl
                | some u =>
                  have := B28 _ _ e0 dh3 dc3
                  rw [nD3] at this
                  cases this) dh3 dc3 e9
end
/-! ### programs -/
inductive Ex where | num (n : Int) | name (x : Str) | add (a b : Ex) | mul (a b : Ex)
def ExAt (K : PySem.W.Frag) (H : Hp) (p : Addr) : Ex → Prop
  | .num n => SqT K H p [.str "num", .int n]
  | .name x => SqT K H p [.str "name", .str x]
  | .add a b => ∃ q r : Addr, SqT K H p [.str "add", .ref q, .ref r] ∧ ExAt K H q a ∧ ExAt K H r b
  | .mul a b => ∃ q r : Addr, SqT K H p [.str "times", .ref q, .ref r] ∧ ExAt K H q a ∧ ExAt K H r b
theorem ExAt.stay {K : PySem.W.Frag} {H H' : Hp} (s : TupsStay H H') : ∀ {t : Ex} {p : Addr}, ExAt K H p t → ExAt K H' p t
  | .num _, _, h => SqT.keeps h s
  | .name _, _, h => SqT.keeps h s
  | .add _ _, _, ⟨q, r, h, a, b⟩ => ⟨q, r, SqT.keeps h s, ExAt.stay s a, ExAt.stay s b⟩
  | .mul _ _, _, ⟨q, r, h, a, b⟩ => ⟨q, r, SqT.keeps h s, ExAt.stay s a, ExAt.stay s b⟩
def ExOk (ns : List Str) : Nat → Ex → Prop
  | _, .num n => 0 ≤ n ∧ n < 1000
  | _, .name x => x ∈ ns
  | 0, .add _ _ => False
  | 0, .mul _ _ => False
  | d + 1, .add a b => ExOk ns d a ∧ ExOk ns d b
  | d + 1, .mul a b => ExOk ns d a ∧ ExOk ns d b
theorem ExOk.num {ns : List Str} {n : Int} (h : 0 ≤ n ∧ n < 1000) : ∀ d, ExOk ns d (.num n)
  | 0 => h
  | _ + 1 => h
theorem ExOk.name {ns : List Str} {x : Str} (h : x ∈ ns) : ∀ d, ExOk ns d (.name x)
  | 0 => h
  | _ + 1 => h
theorem ExOk.of_num {ns : List Str} {n : Int} : ∀ {d : Nat}, ExOk ns d (.num n) → 0 ≤ n ∧ n < 1000
  | 0, h => h
  | _ + 1, h => h
theorem ExOk.of_name {ns : List Str} {x : Str} : ∀ {d : Nat}, ExOk ns d (.name x) → x ∈ ns
  | 0, h => h
  | _ + 1, h => h
theorem ExOk.up {ns : List Str} : ∀ {t : Ex} {d : Nat}, ExOk ns d t → ExOk ns (d + 1) t
  | .num _, _, h => ExOk.num h.of_num _
  | .name _, _, h => ExOk.name h.of_name _
  | .add _ _, 0, h => False.elim h
  | .mul _ _, 0, h => False.elim h
  | .add _ _, _ + 1, ⟨a, b⟩ => ⟨a.up, b.up⟩
  | .mul _ _, _ + 1, ⟨a, b⟩ => ⟨a.up, b.up⟩
theorem ExOk.ups {ns : List Str} {t : Ex} {d k : Nat} (h : ExOk ns d t) (l : d ≤ k) : ExOk ns k t := by
  induction l with
  | refl => exact h
  | step _ ih => exact ih.up
theorem ExOk.sub {ns ms : List Str} (s : ∀ x ∈ ns, x ∈ ms) : ∀ {t : Ex} {d : Nat}, ExOk ns d t → ExOk ms d t
  | .num _, _, h => ExOk.num h.of_num _
  | .name _, _, h => ExOk.name (s _ h.of_name) _
  | .add _ _, 0, h => False.elim h
  | .mul _ _, 0, h => False.elim h
  | .add _ _, _ + 1, ⟨a, b⟩ => ⟨a.sub s, b.sub s⟩
  | .mul _ _, _ + 1, ⟨a, b⟩ => ⟨a.sub s, b.sub s⟩
inductive Rw where | nil | set (x : Str) (e : Ex) (r : Rw) | say (e : Ex) (r : Rw) | lap (x : Str) (m : Ex) (b r : Rw)
def StsAt (K : PySem.W.Frag) (H : Hp) : Rw → List Addr → Prop
  | .nil, qs => qs = []
  | .set x e r, qs => ∃ (q : Addr) (t : List Addr) (pe : Addr), qs = q :: t ∧ SqT K H q [.str "set", .str x, .ref pe] ∧ ExAt K H pe e ∧ StsAt K H r t
  | .say e r, qs => ∃ (q : Addr) (t : List Addr) (pe : Addr), qs = q :: t ∧ SqT K H q [.str "say", .ref pe] ∧ ExAt K H pe e ∧ StsAt K H r t
  | .lap x m b r, qs => ∃ (q : Addr) (t : List Addr) (pm pb pt : Addr) (qb : List Addr), qs = q :: t ∧ SqT K H q [.str "lap", .str x, .ref pm, .ref pb] ∧ ExAt K H pm m ∧ SqT K H pb [.str "row", .ref pt] ∧ SqT K H pt (qb.map V.ref) ∧ StsAt K H b qb ∧ StsAt K H r t
def RwAt (K : PySem.W.Frag) (H : Hp) (p : Addr) (rw : Rw) : Prop := ∃ (pt : Addr) (qs : List Addr), SqT K H p [.str "row", .ref pt] ∧ SqT K H pt (qs.map V.ref) ∧ StsAt K H rw qs
theorem StsAt.stay {K : PySem.W.Frag} {H H' : Hp} (s : TupsStay H H') : ∀ {r : Rw} {qs : List Addr}, StsAt K H r qs → StsAt K H' r qs
  | .nil, _, h => h
  | .set _ _ _, _, ⟨q, t, pe, e, h, a, b⟩ => ⟨q, t, pe, e, SqT.keeps h s, a.stay s, StsAt.stay s b⟩
  | .say _ _, _, ⟨q, t, pe, e, h, a, b⟩ => ⟨q, t, pe, e, SqT.keeps h s, a.stay s, StsAt.stay s b⟩
  | .lap _ _ _ _, _, ⟨q, t, pm, pb, pt, qb, e, h, a, h1, h2, b, c⟩ => ⟨q, t, pm, pb, pt, qb, e, SqT.keeps h s, a.stay s, SqT.keeps h1 s, SqT.keeps h2 s, StsAt.stay s b, StsAt.stay s c⟩
theorem RwAt.stay {K : PySem.W.Frag} {H H' : Hp} (s : TupsStay H H') {p : Addr} {r : Rw} (h : RwAt K H p r) : RwAt K H' p r := let ⟨pt, qs, a, b, c⟩ := h; ⟨pt, qs, SqT.keeps a s, SqT.keeps b s, c.stay s⟩
def appR : Rw → Rw → Rw
  | .nil, s => s
  | .set x e r, s => .set x e (appR r s)
  | .say e r, s => .say e (appR r s)
  | .lap x m b r, s => .lap x m b (appR r s)
def lenR : Rw → Nat
  | .nil => 0
  | .set _ _ r => lenR r + 1
  | .say _ r => lenR r + 1
  | .lap _ _ _ r => lenR r + 1
theorem lenR_app : ∀ (a b : Rw), lenR (appR a b) = lenR a + lenR b
  | .nil, b => (Nat.zero_add _).symm
  | .set _ _ r, b => by show lenR (appR r b) + 1 = lenR r + 1 + lenR b; rw [lenR_app r b]; omega
  | .say _ r, b => by show lenR (appR r b) + 1 = lenR r + 1 + lenR b; rw [lenR_app r b]; omega
  | .lap _ _ _ r, b => by show lenR (appR r b) + 1 = lenR r + 1 + lenR b; rw [lenR_app r b]; omega
theorem StsAt.len {K : PySem.W.Frag} {H : Hp} : ∀ {r : Rw} {qs : List Addr}, StsAt K H r qs → qs.length = lenR r
  | .nil, _, h => by rw [h]; rfl
  | .set _ _ _, _, ⟨_, _, _, e, _, _, b⟩ => by rw [e, List.length_cons, StsAt.len b]; rfl
  | .say _ _, _, ⟨_, _, _, e, _, _, b⟩ => by rw [e, List.length_cons, StsAt.len b]; rfl
  | .lap _ _ _ _, _, ⟨_, _, _, _, _, _, e, _, _, _, _, _, c⟩ => by rw [e, List.length_cons, StsAt.len c]; rfl
theorem StsAt.app {K : PySem.W.Frag} {H : Hp} {s : Rw} {rs : List Addr} (hs : StsAt K H s rs) : ∀ {r : Rw} {qs : List Addr}, StsAt K H r qs → StsAt K H (appR r s) (qs ++ rs)
  | .nil, _, h => by rw [h]; exact hs
  | .set _ _ _, _, ⟨q, t, pe, e, h, a, b⟩ => ⟨q, t ++ rs, pe, by rw [e]; rfl, h, a, StsAt.app hs b⟩
  | .say _ _, _, ⟨q, t, pe, e, h, a, b⟩ => ⟨q, t ++ rs, pe, by rw [e]; rfl, h, a, StsAt.app hs b⟩
  | .lap _ _ _ _, _, ⟨q, t, pm, pb, pt, qb, e, h, a, h1, h2, b, c⟩ => ⟨q, t ++ rs, pm, pb, pt, qb, by rw [e]; rfl, h, a, h1, h2, b, StsAt.app hs c⟩
def RwOk (ns : List Str) : Rw → Nat → Prop
  | .nil, _ => True
  | .set x e r, d => x ∈ ns ∧ ExOk ns 5 e ∧ RwOk ns r d
  | .say e r, d => ExOk ns 5 e ∧ RwOk ns r d
  | .lap x m b r, d => x ∈ ns ∧ ExOk ns 5 m ∧ 1 ≤ d ∧ lenR b ≤ 8 ∧ RwOk ns b (d - 1) ∧ RwOk ns r d
theorem RwOk.app {ns : List Str} {s : Rw} {d : Nat} (hs : RwOk ns s d) : ∀ {r : Rw}, RwOk ns r d → RwOk ns (appR r s) d
  | .nil, _ => hs
  | .set _ _ _, ⟨a, b, c⟩ => ⟨a, b, RwOk.app hs c⟩
  | .say _ _, ⟨a, b⟩ => ⟨a, RwOk.app hs b⟩
  | .lap _ _ _ _, ⟨a, b, e, f, g, c⟩ => ⟨a, b, e, f, g, RwOk.app hs c⟩
theorem RwOk.up {ns : List Str} : ∀ {r : Rw} {d k : Nat}, d ≤ k → RwOk ns r d → RwOk ns r k
  | .nil, _, _, _, _ => True.intro
  | .set _ _ _, _, _, l, ⟨a, b, c⟩ => ⟨a, b, RwOk.up l c⟩
  | .say _ _, _, _, l, ⟨a, b⟩ => ⟨a, RwOk.up l b⟩
  | .lap _ _ _ _, _, _, l, ⟨a, b, e, f, g, c⟩ => ⟨a, b, by omega, f, RwOk.up (by omega) g, RwOk.up l c⟩
/-! ### lists of texts compared -/
theorem dpStrs {K : PySem.W.Frag} {H : Hp} : ∀ cs : List Str, DpAll K H (cs.map V.str) (cs.map PyData.str)
  | [] => .nil
  | _ :: r => .cons (.str _) (dpStrs r)
theorem sN_len {ns : List Str} (e : ¬ PyData.eqv (.list (ns.map PyData.str)) (.list []) = true) : 0 < ns.length := by
  cases ns with
  | nil => exact absurd (by simp [PyData.eqv, PyData.eqvAll]) e
  | cons x r => exact Nat.succ_pos _
theorem But.tups {h c : Addr} {H H' : Hp} {s k : Int} {cs : List Int} (B : But h c H H') (A : HAt H h c s k cs) : TupsStay H H' := fun b xs q => by
  have nh : b ≠ h := fun z => by
    subst z
    rcases q with q | ⟨ob, q⟩
    · rw [A.h] at q
      cases q
    · rw [A.h] at q
      cases q
  have nc : b ≠ c := fun z => by
    subst z
    rcases q with q | ⟨ob, q⟩
    · rw [A.c] at q
      cases q
    · rw [A.c] at q
      cases q
  rcases q with q | ⟨ob, q⟩
  · exact .inl (B _ _ q nh nc)
  · exact .inr ⟨ob, B _ _ q nh nc⟩
def TextsOk (ns : List Str) : Prop := ∀ x ∈ ns, PyData.strOk x = true
theorem canLayStrs : ∀ {cs : List Str}, TextsOk cs → PyData.canLayAll0 (cs.map PyData.str) = true
  | [], _ => by simp [PyData.canLayAll0]
  | x :: r, h => by simp [PyData.canLayAll0, PyData.canLay0, canLayStrs (fun y hy => h y (by simp [hy]) : TextsOk r), h x (by simp)]
theorem depthStrs : ∀ cs : List Str, PyData.depthAll (cs.map PyData.str) = 0
  | [] => by simp [PyData.depthAll]
  | x :: r => by simp [PyData.depthAll, PyData.depth, depthStrs r]
theorem shapedStrs {cs : List Str} (h : TextsOk cs) : SeqAt.shaped (.list (cs.map PyData.str)) = true := by
  simp [SeqAt.shaped, PyData.canLay0, PyData.depth, canLayStrs h, depthStrs]
theorem texts_names {ns : List Str} (h : NamesOk ns) : TextsOk ns := fun x hx => by
  have l := (h.ok x hx).2.2
  unfold PyData.strOk
  rw [← Array.all_toList, List.all_eq_true]
  intro c hc
  have z := l c hc
  unfold letterC at z
  exact decide_eq_true (by omega)
theorem pick_at (x y : Int) (k : Bool) : atI [V.int x, V.int y] (if k then 1 else 0) = some (.int (if k then y else x)) := by
  cases k <;> rfl
/-! ### drawn expressions -/
section
variable {P : Program} {w : World} {K : PySem.W.Frag} {mg : Str → Option Value} {base : Heap} {C : Addr}
def spPart (K : PySem.W.Frag) : Nat → Sp
  | 0 => fun _ _ _ _ => False
  | d + 1 => fun vs H Q _ => ∃ (h c l : Addr) (s k : Int) (cs : List Int) (ns : List Str), vs = [.ref h, .ref l, .int d] ∧ HAt H h c s k cs ∧ H l = some (.lst (ns.map V.str)) ∧ l ≠ h ∧ l ≠ c ∧ ns.length < 1000 ∧ TextsOk ns ∧
    ∀ (s' k' : Int) (cs' : List Int) (p : Addr) (t : Ex) (H' : Hp), HAt H' h c s' k' cs' → But h c H H' → ExAt K H' p t → ExOk ns d t → Q (.ref p) H'
theorem ok_law_part {f : Addr} {fd : FuncData} (T : Txt K mg C) (F : DefAt K mg "_law_part" "_law_part" s_law_part ["_law_h", "_law_some", "_law_deep"] f fd) : ∀ d, FnOk P w K mg base CX0 (d + 2) f fd ["_law_h", "_law_some", "_law_deep"] (spPart K d)
  | 0 => ⟨fun _ _ _ _ h => False.elim h, fun _ _ _ _ _ _ _ _ _ _ _ _ _ h => False.elim h⟩
  | d + 1 => by
    have G_law_part := ok_law_part T F d
    have D_law_part := F
    obtain ⟨f1, fd1, D_law_next⟩ := T.d_law_next
    have G_law_next : FnOk P w K mg base CX0 1 f1 fd1 ["_law_h", "_law_many"] spNext := ok_law_next T D_law_next
    refine F.F.ok sc_law_part (fun vs H Q E h => ?_) (fun cdv A outer s H vs Q E hr h => ?_)
    · obtain ⟨h, c, l, s, k, cs, ns, rfl, _⟩ := h
      rfl
    · obtain ⟨h, c, l, z, k, cs, ns, rfl, A1, el, nlh, nlc, ns1, tx, q⟩ := h
      refine ⟨_, (pss_cons (ps_set (i := 3) sc_law_part.nd rfl (.inl rfl) (pe_call G_law_next (hr.mono (by omega)) (by rfl) D_law_next.g D_law_next.F.kp D_law_next.b .nil pass0 (pa_cons (pv 0) (pa_cons pe_int pa_nil))))
      (pss_cons (ps_if (PW.pt (pw_or (pt_cmpR op_eq (pv 2) pe_int (nomark _)) (pw_or (pt_cmpR op_lt (pv 3) pe_int (nomark _)) (pw_or1 (pt_cmpR (op_eqD hr.units) (pv 1) (pe_lst pa_nil) (nomark _)))))) (pss_cons (ps_if (PW.pt (pw_or (pt_cmpR (op_eqD hr.units) (pv 1) (pe_lst pa_nil) (nomark _)) (pw_or1 (pt_cmpR op_eq (pe_call G_law_next (hr.mono (by omega)) (by rfl) D_law_next.g D_law_next.F.kp D_law_next.b .nil pass0 (pa_cons (pv 0) (pa_cons pe_int pa_nil))) pe_int (nomark _))))) (pss_one (ps_ret (pe_tup (pa_cons pe_str (pa_cons (pe_ix ix_list (pe_lst (pa_cons (pe_call G_law_next (hr.mono (by omega)) (by rfl) D_law_next.g D_law_next.F.kp D_law_next.b .nil pass0 (pa_cons (pv 0) (pa_cons pe_int pa_nil))) (pa_cons (pe_call G_law_next (hr.mono (by omega)) (by rfl) D_law_next.g D_law_next.F.kp D_law_next.b .nil pass0 (pa_cons (pv 0) (pa_cons pe_int pa_nil))) pa_nil))) (pe_callTy call_int1 (by rfl) T.m_int (by decide +kernel) (pa_cons (pe_cmpR op_eq (pe_call G_law_next (hr.mono (by omega)) (by rfl) D_law_next.g D_law_next.F.kp D_law_next.b .nil pass0 (pa_cons (pv 0) (pa_cons pe_int pa_nil))) pe_int (nomark _)) pa_nil)) (fun _ _ => rfl)) pa_nil))))) pss_nil) (pss_one (ps_ret (pe_tup (pa_cons pe_str (pa_cons (pe_ix ix_list (pv 1) (pe_call G_law_next (hr.mono (by omega)) (by rfl) D_law_next.g D_law_next.F.kp D_law_next.b .nil pass0 (pa_cons (pv 0) (pa_cons (pe_callB call_len_seq (by rfl) T.m_len (by decide +kernel) (pa_cons (pv 1) pa_nil)) pa_nil))) (fun _ _ => rfl)) pa_nil)))))) pss_nil)
      (pss_cons (ps_set (i := 4) sc_law_part.nd rfl (.inl rfl) (pe_ifExp (pt_cmpR op_lt (pv 3) pe_int (nomark _)) pe_str pe_str))
      (pss_cons (ps_set (i := 5) sc_law_part.nd rfl (.inl rfl) (pe_call G_law_part (hr.mono (by omega)) (by rfl) D_law_part.g D_law_part.F.kp D_law_part.b .nil pass0 (pa_cons (pv 0) (pa_cons (pv 1) (pa_cons (pe_op op_sub (pv 2) pe_int) pa_nil)))))
      (pss_one (ps_ret (pe_tup (pa_cons (pv 4) (pa_cons (pv 5) (pa_cons (pe_call G_law_part (hr.mono (by omega)) (by rfl) D_law_part.g D_law_part.F.kp D_law_part.b .nil pass0 (pa_cons (pv 0) (pa_cons (pv 1) (pa_cons (pe_op op_sub (pv 2) pe_int) pa_nil)))) pa_nil)))))))))), ?_⟩
      refine ⟨_, rfl, h, c, _, _, 5, _, rfl, by decide, by decide, A1, fun s1 k1 cs1 way H1 w0 w5 A2 B1 => ?_⟩
      have el1 := B1 _ _ el nlh nlc
      refine ⟨_, rfl, rfl, _, rfl, ite2 (fun e => ?_) (fun e => ⟨_, rfl, _, _, rfl, rfl, _, rfl, ite2 (fun e2 => ?_) (fun e2 => ?_)⟩)⟩
      · skip
        refine ⟨_, rfl, (by show 0 ≤ sizeLine; decide), fun l5 nl5 => ?_⟩
        have s5 : Same H1 (upd H1 l5 (.lst [])) := same_upd nl5
        have A7 := A2.same s5
        have el7 := s5 _ _ el1
        have B7 := (B1).same s5
        refine ⟨_, _, Dp.lst (SqL.of el7) (dpStrs ns), Dp.lst (SqL.of upd_same) DpAll.nil, shapedStrs tx, by decide, _, rfl, ite2 (fun e7 => ?_) (fun e7 => ?_)⟩
        · skip
          refine ⟨_, rfl, h, c, _, _, 4, _, rfl, by decide, by decide, A7, fun s3 k3 cs3 x H3 x0 x7 A4 B3 => ⟨_, rfl, h, c, _, _, 1000, _, rfl, by decide, by decide, A4, fun s4 k4 cs4 y H4 y0 y2 A5 B4 => ⟨(by show 2 ≤ sizeLine; decide), fun l2 nl2 => ?_⟩⟩⟩
          have n2h : l2 ≠ h := (ne_of_none A5.h nl2).symm
          have n2c : l2 ≠ c := (ne_of_none A5.c nl2).symm
          have A5 := A5.same (same_upd nl2 : Same H4 (upd H4 l2 (.lst [.int x, .int y])))
          refine ⟨_, rfl, h, c, _, _, 6, _, rfl, by decide, by decide, A5, fun s5 k5 cs5 v H5 v0 v4 A6 B5 => ⟨rfl, .inr ⟨_, rfl, l2, _, _, _, rfl, rfl, SqL.of (B5 _ _ upd_same n2h n2c), pick_at _ _ _, (by show 2 ≤ sizeLine; decide), fun t nt => ?_⟩⟩⟩
          have st := same_upd (o := .tup [.str "num", .int (if decide (V.int v = V.int 0) then y else x)]) nt
          refine q _ _ _ t (.num (if decide (V.int v = V.int 0) then y else x)) _ (A6.same st) (((((B7).trans B3).trans B4).same (same_upd nl2)).trans B5 |>.trans (Same.but st)) (SqT.of upd_same) (ExOk.num ?_ _)
          split <;> omega
        · have n7 := sN_len e7
          refine ⟨_, rfl, h, c, _, _, 3, _, rfl, by decide, by decide, A7, fun s8 k8 cs8 b8 H8 b80 b82 A8 B8 => ⟨rfl, _, rfl, ite2 (fun e8 => ?_) (fun e8 => ?_)⟩⟩
          · skip
            refine ⟨_, rfl, h, c, _, _, 4, _, rfl, by decide, by decide, A8, fun s3 k3 cs3 x H3 x0 x7 A4 B3 => ⟨_, rfl, h, c, _, _, 1000, _, rfl, by decide, by decide, A4, fun s4 k4 cs4 y H4 y0 y2 A5 B4 => ⟨(by show 2 ≤ sizeLine; decide), fun l2 nl2 => ?_⟩⟩⟩
            have n2h : l2 ≠ h := (ne_of_none A5.h nl2).symm
            have n2c : l2 ≠ c := (ne_of_none A5.c nl2).symm
            have A5 := A5.same (same_upd nl2 : Same H4 (upd H4 l2 (.lst [.int x, .int y])))
            refine ⟨_, rfl, h, c, _, _, 6, _, rfl, by decide, by decide, A5, fun s5 k5 cs5 v H5 v0 v4 A6 B5 => ⟨rfl, .inr ⟨_, rfl, l2, _, _, _, rfl, rfl, SqL.of (B5 _ _ upd_same n2h n2c), pick_at _ _ _, (by show 2 ≤ sizeLine; decide), fun t nt => ?_⟩⟩⟩
            have st := same_upd (o := .tup [.str "num", .int (if decide (V.int v = V.int 0) then y else x)]) nt
            refine q _ _ _ t (.num (if decide (V.int v = V.int 0) then y else x)) _ (A6.same st) (((((B7.trans B8).trans B3).trans B4).same (same_upd nl2)).trans B5 |>.trans (Same.but st)) (SqT.of upd_same) (ExOk.num ?_ _)
            split <;> omega
          · have el8 := B8 _ _ el7 nlh nlc
            refine ⟨_, rfl, _, rfl, _, rfl, l, _, rfl, .inl (SqL.of el8), h, c, _, _, _, _, rfl, by rw [List.length_map]; omega, by rw [List.length_map]; omega, A8, fun s3 k3 cs3 x H3 x0 x7 A4 B3 => ?_⟩
            rw [List.length_map] at x7
            have hx : x.toNat < ns.length := by omega
            refine ⟨l, _, _, .str ns[x.toNat], rfl, rfl, SqL.of (B3 _ _ el8 nlh nlc), at_of (j := x.toNat) (by omega) (by rw [List.getElem?_map, List.getElem?_eq_getElem hx]; rfl), (by show 2 ≤ sizeLine; decide), fun t nt => ?_⟩
            have st := same_upd (o := .tup [.str "name", .str ns[x.toNat]]) nt
            exact q _ _ _ t (.name ns[x.toNat]) _ (A4.same st) (((B7.trans B8).trans B3).trans (Same.but st)) (SqT.of upd_same) (ExOk.name (List.getElem_mem hx) _)
      · skip
        refine ⟨_, rfl, (by show 0 ≤ sizeLine; decide), fun l5 nl5 => ?_⟩
        have s5 : Same H1 (upd H1 l5 (.lst [])) := same_upd nl5
        have A7 := A2.same s5
        have el7 := s5 _ _ el1
        have B7 := (B1).same s5
        refine ⟨_, _, Dp.lst (SqL.of el7) (dpStrs ns), Dp.lst (SqL.of upd_same) DpAll.nil, shapedStrs tx, by decide, _, rfl, ite2 (fun e7 => ?_) (fun e7 => ?_)⟩
        · skip
          refine ⟨_, rfl, h, c, _, _, 4, _, rfl, by decide, by decide, A7, fun s3 k3 cs3 x H3 x0 x7 A4 B3 => ⟨_, rfl, h, c, _, _, 1000, _, rfl, by decide, by decide, A4, fun s4 k4 cs4 y H4 y0 y2 A5 B4 => ⟨(by show 2 ≤ sizeLine; decide), fun l2 nl2 => ?_⟩⟩⟩
          have n2h : l2 ≠ h := (ne_of_none A5.h nl2).symm
          have n2c : l2 ≠ c := (ne_of_none A5.c nl2).symm
          have A5 := A5.same (same_upd nl2 : Same H4 (upd H4 l2 (.lst [.int x, .int y])))
          refine ⟨_, rfl, h, c, _, _, 6, _, rfl, by decide, by decide, A5, fun s5 k5 cs5 v H5 v0 v4 A6 B5 => ⟨rfl, .inr ⟨_, rfl, l2, _, _, _, rfl, rfl, SqL.of (B5 _ _ upd_same n2h n2c), pick_at _ _ _, (by show 2 ≤ sizeLine; decide), fun t nt => ?_⟩⟩⟩
          have st := same_upd (o := .tup [.str "num", .int (if decide (V.int v = V.int 0) then y else x)]) nt
          refine q _ _ _ t (.num (if decide (V.int v = V.int 0) then y else x)) _ (A6.same st) (((((B7).trans B3).trans B4).same (same_upd nl2)).trans B5 |>.trans (Same.but st)) (SqT.of upd_same) (ExOk.num ?_ _)
          split <;> omega
        · have n7 := sN_len e7
          refine ⟨_, rfl, h, c, _, _, 3, _, rfl, by decide, by decide, A7, fun s8 k8 cs8 b8 H8 b80 b82 A8 B8 => ⟨rfl, _, rfl, ite2 (fun e8 => ?_) (fun e8 => ?_)⟩⟩
          · skip
            refine ⟨_, rfl, h, c, _, _, 4, _, rfl, by decide, by decide, A8, fun s3 k3 cs3 x H3 x0 x7 A4 B3 => ⟨_, rfl, h, c, _, _, 1000, _, rfl, by decide, by decide, A4, fun s4 k4 cs4 y H4 y0 y2 A5 B4 => ⟨(by show 2 ≤ sizeLine; decide), fun l2 nl2 => ?_⟩⟩⟩
            have n2h : l2 ≠ h := (ne_of_none A5.h nl2).symm
            have n2c : l2 ≠ c := (ne_of_none A5.c nl2).symm
            have A5 := A5.same (same_upd nl2 : Same H4 (upd H4 l2 (.lst [.int x, .int y])))
            refine ⟨_, rfl, h, c, _, _, 6, _, rfl, by decide, by decide, A5, fun s5 k5 cs5 v H5 v0 v4 A6 B5 => ⟨rfl, .inr ⟨_, rfl, l2, _, _, _, rfl, rfl, SqL.of (B5 _ _ upd_same n2h n2c), pick_at _ _ _, (by show 2 ≤ sizeLine; decide), fun t nt => ?_⟩⟩⟩
            have st := same_upd (o := .tup [.str "num", .int (if decide (V.int v = V.int 0) then y else x)]) nt
            refine q _ _ _ t (.num (if decide (V.int v = V.int 0) then y else x)) _ (A6.same st) (((((B7.trans B8).trans B3).trans B4).same (same_upd nl2)).trans B5 |>.trans (Same.but st)) (SqT.of upd_same) (ExOk.num ?_ _)
            split <;> omega
          · have el8 := B8 _ _ el7 nlh nlc
            refine ⟨_, rfl, _, rfl, _, rfl, l, _, rfl, .inl (SqL.of el8), h, c, _, _, _, _, rfl, by rw [List.length_map]; omega, by rw [List.length_map]; omega, A8, fun s3 k3 cs3 x H3 x0 x7 A4 B3 => ?_⟩
            rw [List.length_map] at x7
            have hx : x.toNat < ns.length := by omega
            refine ⟨l, _, _, .str ns[x.toNat], rfl, rfl, SqL.of (B3 _ _ el8 nlh nlc), at_of (j := x.toNat) (by omega) (by rw [List.getElem?_map, List.getElem?_eq_getElem hx]; rfl), (by show 2 ≤ sizeLine; decide), fun t nt => ?_⟩
            have st := same_upd (o := .tup [.str "name", .str ns[x.toNat]]) nt
            exact q _ _ _ t (.name ns[x.toNat]) _ (A4.same st) (((B7.trans B8).trans B3).trans (Same.but st)) (SqT.of upd_same) (ExOk.name (List.getElem_mem hx) _)
      · refine ⟨_, rfl, (by show 0 ≤ sizeLine; decide), fun l6 nl6 => ?_⟩
        have s6 : Same H1 (upd H1 l6 (.lst [])) := same_upd nl6
        have A6' := A2.same s6
        have el6' := s6 _ _ el1
        have B6' := B1.same s6
        refine ⟨_, _, Dp.lst (SqL.of el6') (dpStrs ns), Dp.lst (SqL.of upd_same) DpAll.nil, shapedStrs tx, by decide, _, rfl, ite2 (fun e6 => ?_) (fun e6 => ?_)⟩
        · skip
          refine ⟨_, rfl, (by show 0 ≤ sizeLine; decide), fun l5 nl5 => ?_⟩
          have s5 : Same (upd H1 l6 (.lst [])) (upd (upd H1 l6 (.lst [])) l5 (.lst [])) := same_upd nl5
          have A7 := A6'.same s5
          have el7 := s5 _ _ el6'
          have B7 := (B6').same s5
          refine ⟨_, _, Dp.lst (SqL.of el7) (dpStrs ns), Dp.lst (SqL.of upd_same) DpAll.nil, shapedStrs tx, by decide, _, rfl, ite2 (fun e7 => ?_) (fun e7 => ?_)⟩
          · skip
            refine ⟨_, rfl, h, c, _, _, 4, _, rfl, by decide, by decide, A7, fun s3 k3 cs3 x H3 x0 x7 A4 B3 => ⟨_, rfl, h, c, _, _, 1000, _, rfl, by decide, by decide, A4, fun s4 k4 cs4 y H4 y0 y2 A5 B4 => ⟨(by show 2 ≤ sizeLine; decide), fun l2 nl2 => ?_⟩⟩⟩
            have n2h : l2 ≠ h := (ne_of_none A5.h nl2).symm
            have n2c : l2 ≠ c := (ne_of_none A5.c nl2).symm
            have A5 := A5.same (same_upd nl2 : Same H4 (upd H4 l2 (.lst [.int x, .int y])))
            refine ⟨_, rfl, h, c, _, _, 6, _, rfl, by decide, by decide, A5, fun s5 k5 cs5 v H5 v0 v4 A6 B5 => ⟨rfl, .inr ⟨_, rfl, l2, _, _, _, rfl, rfl, SqL.of (B5 _ _ upd_same n2h n2c), pick_at _ _ _, (by show 2 ≤ sizeLine; decide), fun t nt => ?_⟩⟩⟩
            have st := same_upd (o := .tup [.str "num", .int (if decide (V.int v = V.int 0) then y else x)]) nt
            refine q _ _ _ t (.num (if decide (V.int v = V.int 0) then y else x)) _ (A6.same st) (((((B7).trans B3).trans B4).same (same_upd nl2)).trans B5 |>.trans (Same.but st)) (SqT.of upd_same) (ExOk.num ?_ _)
            split <;> omega
          · have n7 := sN_len e7
            refine ⟨_, rfl, h, c, _, _, 3, _, rfl, by decide, by decide, A7, fun s8 k8 cs8 b8 H8 b80 b82 A8 B8 => ⟨rfl, _, rfl, ite2 (fun e8 => ?_) (fun e8 => ?_)⟩⟩
            · skip
              refine ⟨_, rfl, h, c, _, _, 4, _, rfl, by decide, by decide, A8, fun s3 k3 cs3 x H3 x0 x7 A4 B3 => ⟨_, rfl, h, c, _, _, 1000, _, rfl, by decide, by decide, A4, fun s4 k4 cs4 y H4 y0 y2 A5 B4 => ⟨(by show 2 ≤ sizeLine; decide), fun l2 nl2 => ?_⟩⟩⟩
              have n2h : l2 ≠ h := (ne_of_none A5.h nl2).symm
              have n2c : l2 ≠ c := (ne_of_none A5.c nl2).symm
              have A5 := A5.same (same_upd nl2 : Same H4 (upd H4 l2 (.lst [.int x, .int y])))
              refine ⟨_, rfl, h, c, _, _, 6, _, rfl, by decide, by decide, A5, fun s5 k5 cs5 v H5 v0 v4 A6 B5 => ⟨rfl, .inr ⟨_, rfl, l2, _, _, _, rfl, rfl, SqL.of (B5 _ _ upd_same n2h n2c), pick_at _ _ _, (by show 2 ≤ sizeLine; decide), fun t nt => ?_⟩⟩⟩
              have st := same_upd (o := .tup [.str "num", .int (if decide (V.int v = V.int 0) then y else x)]) nt
              refine q _ _ _ t (.num (if decide (V.int v = V.int 0) then y else x)) _ (A6.same st) (((((B7.trans B8).trans B3).trans B4).same (same_upd nl2)).trans B5 |>.trans (Same.but st)) (SqT.of upd_same) (ExOk.num ?_ _)
              split <;> omega
            · have el8 := B8 _ _ el7 nlh nlc
              refine ⟨_, rfl, _, rfl, _, rfl, l, _, rfl, .inl (SqL.of el8), h, c, _, _, _, _, rfl, by rw [List.length_map]; omega, by rw [List.length_map]; omega, A8, fun s3 k3 cs3 x H3 x0 x7 A4 B3 => ?_⟩
              rw [List.length_map] at x7
              have hx : x.toNat < ns.length := by omega
              refine ⟨l, _, _, .str ns[x.toNat], rfl, rfl, SqL.of (B3 _ _ el8 nlh nlc), at_of (j := x.toNat) (by omega) (by rw [List.getElem?_map, List.getElem?_eq_getElem hx]; rfl), (by show 2 ≤ sizeLine; decide), fun t nt => ?_⟩
              have st := same_upd (o := .tup [.str "name", .str ns[x.toNat]]) nt
              exact q _ _ _ t (.name ns[x.toNat]) _ (A4.same st) (((B7.trans B8).trans B3).trans (Same.but st)) (SqT.of upd_same) (ExOk.name (List.getElem_mem hx) _)
        · cases d with
          | zero => exact absurd (decide_eq_true rfl : decide (V.int ((0 : Nat) : Int) = V.int 0) = true) (by assumption)
          | succ d =>
            have ed : [V.ref h, V.ref l, V.int ((((d + 1 : Nat) : Int)) - 1)] = [.ref h, .ref l, .int (d : Int)] := by
              have e0 : (((d + 1 : Nat) : Int) - 1) = (d : Int) := by omega
              rw [e0]
            refine ⟨_, rfl, _, _, rfl, rfl, _, rfl, ite2 (fun e9 => ?_) (fun e9 => ?_)⟩
            all_goals
              refine ⟨_, rfl, _, rfl, _, rfl, _, _, rfl, rfl, h, c, l, _, _, _, ns, ed, A6', el6', nlh, nlc, ns1, tx, fun s2 k2 cs2 p1 t1 H2 A3 B2 T1 ok1 => ?_⟩
              have el3 := B2 _ _ el6' nlh nlc
              refine ⟨_, rfl, _, rfl, _, rfl, _, rfl, _, rfl, _, _, rfl, rfl, h, c, l, _, _, _, ns, ed, A3, el3, nlh, nlc, ns1, tx, fun s5 k5 cs5 p2 t2 H5 A5 B5 T2 ok2 => ⟨(by show 3 ≤ sizeLine; decide), fun t nt => ?_⟩⟩
              first
              | have st := same_upd (o := .tup [.str "add", .ref p1, .ref p2]) nt
                have T1' := (T1.stay (B5.tups A3)).stay (TupsStay.same st)
                exact q _ _ _ t (.add t1 t2) _ (A5.same st) (((B6'.trans B2).trans B5).trans (Same.but st)) ⟨p1, p2, SqT.of upd_same, T1', T2.stay (TupsStay.same st)⟩ ⟨ok1, ok2⟩
              | have st := same_upd (o := .tup [.str "times", .ref p1, .ref p2]) nt
                have T1' := (T1.stay (B5.tups A3)).stay (TupsStay.same st)
                exact q _ _ _ t (.mul t1 t2) _ (A5.same st) (((B6'.trans B2).trans B5).trans (Same.but st)) ⟨p1, p2, SqT.of upd_same, T1', T2.stay (TupsStay.same st)⟩ ⟨ok1, ok2⟩
end
/-! ### a drawn measure -/
theorem four {r : Int} (h0 : 0 ≤ r) (h4 : r < 4) (a b c d : V) : ∃ v, v ∈ [a, b, c, d] ∧ atI [a, b, c, d] r = some v := by
  have : r = 0 ∨ r = 1 ∨ r = 2 ∨ r = 3 := by omega
  rcases this with h | h | h | h
  · subst h
    exact ⟨a, by simp, rfl⟩
  · subst h
    exact ⟨b, by simp, rfl⟩
  · subst h
    exact ⟨c, by simp, rfl⟩
  · subst h
    exact ⟨d, by simp, rfl⟩
section
variable {P : Program} {w : World} {K : PySem.W.Frag} {mg : Str → Option Value} {base : Heap} {C : Addr}
def spMeas (K : PySem.W.Frag) : Sp := fun vs H Q _ => ∃ (h c l : Addr) (s k : Int) (cs : List Int) (g : Str) (ms ns : List Str), vs = [.ref h, .str g, .ref l] ∧ HAt H h c s k cs ∧ H l = some (.lst (ms.map V.str)) ∧ l ≠ h ∧ l ≠ c ∧ ms.length < 1000 ∧ TextsOk ms ∧ g ∈ ns ∧ (∀ x ∈ ms, x ∈ ns) ∧
  ∀ (s' k' : Int) (cs' : List Int) (p : Addr) (t : Ex) (H' : Hp), HAt H' h c s' k' cs' → But h c H H' → ExAt K H' p t → ExOk ns 2 t → Q (.ref p) H'
theorem ok_law_measure {f : Addr} {fd : FuncData} (T : Txt K mg C) (F : DefAt K mg "_law_measure" "_law_measure" s_law_measure ["_law_h", "_law_guard", "_law_calm"] f fd) : FnOk P w K mg base CX0 2 f fd ["_law_h", "_law_guard", "_law_calm"] (spMeas K) := by
  obtain ⟨f1, fd1, D_law_next⟩ := T.d_law_next
  have G_law_next : FnOk P w K mg base CX0 1 f1 fd1 ["_law_h", "_law_many"] spNext := ok_law_next T D_law_next
  refine F.F.ok sc_law_measure (fun vs H Q E h => ?_) (fun cdv A outer s H vs Q E hr h => ?_)
  · obtain ⟨h, c, l, s, k, cs, g, ms, ns, rfl, _⟩ := h
    rfl
  · obtain ⟨h, c, l, z, k, cs, g, ms, ns, rfl, A1, el, nlh, nlc, ms1, tx, hg, hm, q⟩ := h
    refine ⟨_, (pss_cons (ps_set (i := 3) sc_law_measure.nd rfl (.inl rfl) (pe_tup (pa_cons pe_str (pa_cons (pv 1) pa_nil))))
      (pss_cons (ps_set (i := 4) sc_law_measure.nd rfl (.inl rfl) (pe_lst (pa_cons (pv 3) (pa_cons (pe_tup (pa_cons pe_str (pa_cons (pv 3) (pa_cons (pe_tup (pa_cons pe_str (pa_cons (pe_call G_law_next (hr.mono (by decide)) (by rfl) D_law_next.g D_law_next.F.kp D_law_next.b .nil pass0 (pa_cons (pv 0) (pa_cons pe_int pa_nil))) pa_nil))) pa_nil)))) (pa_cons (pe_tup (pa_cons pe_str (pa_cons (pe_tup (pa_cons pe_str (pa_cons (pe_op op_add pe_int (pe_call G_law_next (hr.mono (by decide)) (by rfl) D_law_next.g D_law_next.F.kp D_law_next.b .nil pass0 (pa_cons (pv 0) (pa_cons pe_int pa_nil)))) pa_nil))) (pa_cons (pv 3) pa_nil)))) pa_nil)))))
      (pss_cons (ps_set (i := 5) sc_law_measure.nd rfl (.inl rfl) (pe_ix ix_list (pe_op op_cat (pv 4) (pe_lst (pa_cons (pe_tup (pa_cons pe_str (pa_cons (pv 3) (pa_cons (pv 3) pa_nil)))) pa_nil))) (pe_call G_law_next (hr.mono (by decide)) (by rfl) D_law_next.g D_law_next.F.kp D_law_next.b .nil pass0 (pa_cons (pv 0) (pa_cons pe_int pa_nil))) (fun _ _ => rfl)))
      (pss_cons (ps_if (PW.pt (pw_and (pt_cmpR (op_neD hr.units) (pv 2) (pe_lst pa_nil) (nomark _)) (pw_and1 (pt_cmpR op_eq (pe_call G_law_next (hr.mono (by decide)) (by rfl) D_law_next.g D_law_next.F.kp D_law_next.b .nil pass0 (pa_cons (pv 0) (pa_cons pe_int pa_nil))) pe_int (nomark _))))) (pss_one (ps_set (i := 5) sc_law_measure.nd rfl (.inl rfl) (pe_tup (pa_cons pe_str (pa_cons (pv 5) (pa_cons (pe_tup (pa_cons pe_str (pa_cons (pe_ix ix_list (pv 2) (pe_call G_law_next (hr.mono (by decide)) (by rfl) D_law_next.g D_law_next.F.kp D_law_next.b .nil pass0 (pa_cons (pv 0) (pa_cons (pe_callB call_len_seq (by rfl) T.m_len (by decide +kernel) (pa_cons (pv 2) pa_nil)) pa_nil))) (fun _ _ => rfl)) pa_nil))) pa_nil)))))) pss_nil)
      (pss_one (ps_ret (pv 5))))))), ?_⟩
    refine ⟨_, rfl, (by show 2 ≤ sizeLine; decide), fun tn ntn => ?_⟩
    have sn : Same H (upd H tn (.tup [.str "name", .str g])) := same_upd ntn
    have Tn : ExAt K (upd H tn (.tup [.str "name", .str g])) tn (.name g) := SqT.of upd_same
    have A := A1.same sn
    have el := sn _ _ el
    have B0 := Same.but (h := h) (c := c) sn
    generalize (upd H tn (.tup [.str "name", .str g])) = H1 at sn Tn A el B0
    refine ⟨_, rfl, _, rfl, _, rfl, h, c, _, _, 9, _, rfl, by decide, by decide, A, fun s2 k2 cs2 r2 H2 r20 r29 A2 B2 => ⟨(by show 2 ≤ sizeLine; decide), fun t1 nt1 => ⟨(by show 3 ≤ sizeLine; decide), fun t2 nt2 => ?_⟩⟩⟩
    have el := B2 _ _ el nlh nlc
    have Tn := Tn.stay (B2.tups A)
    have u1 : Same H2 (upd H2 t1 (.tup [.str "num", .int r2])) := same_upd nt1
    have u2 : Same (upd H2 t1 (.tup [.str "num", .int r2])) (upd (upd H2 t1 (.tup [.str "num", .int r2])) t2 (.tup [.str "add", .ref tn, .ref t1])) := same_upd nt2
    have X1 : ExAt K (upd H2 t1 (.tup [.str "num", .int r2])) t1 (.num r2) := SqT.of upd_same
    have Tn2 := Tn.stay (TupsStay.same (u1.trans u2))
    have X2 : ExAt K (upd (upd H2 t1 (.tup [.str "num", .int r2])) t2 (.tup [.str "add", .ref tn, .ref t1])) t2 (.add (.name g) (.num r2)) := ⟨tn, t1, SqT.of upd_same, Tn2, X1.stay (TupsStay.same u2)⟩
    have A := A2.same (u1.trans u2)
    have el := (u1.trans u2) _ _ el
    have B1 := (B0.trans B2).same (u1.trans u2)
    generalize (upd (upd H2 t1 (.tup [.str "num", .int r2])) t2 (.tup [.str "add", .ref tn, .ref t1])) = H3 at u2 Tn2 X2 A el B1
    refine ⟨_, rfl, h, c, _, _, 3, _, rfl, by decide, by decide, A, fun s4 k4 cs4 r4 H4 r40 r43 A4 B4 => ⟨_, _, rfl, rfl, (by show 2 ≤ sizeLine; decide), fun t3 nt3 => ⟨_, rfl, (by show 3 ≤ sizeLine; decide), fun t4 nt4 => ⟨(by show 3 ≤ sizeLine; decide), fun l1 nl1 => ?_⟩⟩⟩⟩
    have tt4 := B4.tups A
    have el := B4 _ _ el nlh nlc
    have Tn := Tn2.stay tt4
    have X2 := X2.stay tt4
    have u3 : Same H4 (upd H4 t3 (.tup [.str "num", .int (1 + r4)])) := same_upd nt3
    have u4 : Same (upd H4 t3 (.tup [.str "num", .int (1 + r4)])) (upd (upd H4 t3 (.tup [.str "num", .int (1 + r4)])) t4 (.tup [.str "times", .ref t3, .ref tn])) := same_upd nt4
    have X3 : ExAt K (upd H4 t3 (.tup [.str "num", .int (1 + r4)])) t3 (.num (1 + r4)) := SqT.of upd_same
    have Tn2 := Tn.stay (TupsStay.same (u3.trans u4))
    have X4 : ExAt K (upd (upd H4 t3 (.tup [.str "num", .int (1 + r4)])) t4 (.tup [.str "times", .ref t3, .ref tn])) t4 (.mul (.num (1 + r4)) (.name g)) := ⟨t3, tn, SqT.of upd_same, X3.stay (TupsStay.same u4), Tn2⟩
    have X2 := X2.stay (TupsStay.same (u3.trans u4))
    have A := A4.same (u3.trans u4)
    have el := (u3.trans u4) _ _ el
    have B2' := (B1.trans B4).same (u3.trans u4)
    generalize (upd (upd H4 t3 (.tup [.str "num", .int (1 + r4)])) t4 (.tup [.str "times", .ref t3, .ref tn])) = H5 at u4 Tn2 X4 X2 A el B2' nl1
    have u5 : Same H5 (upd H5 l1 (.lst [.ref tn, .ref t2, .ref t4])) := same_upd nl1
    have e1 : (upd H5 l1 (.lst [.ref tn, .ref t2, .ref t4])) l1 = some (.lst [.ref tn, .ref t2, .ref t4]) := upd_same
    have A := A.same u5
    have el := u5 _ _ el
    have Tn := Tn2.stay (TupsStay.same u5)
    have X2 := X2.stay (TupsStay.same u5)
    have X4 := X4.stay (TupsStay.same u5)
    have B3 := B2'.same u5
    generalize (upd H5 l1 (.lst [.ref tn, .ref t2, .ref t4])) = H6 at u5 e1 A el Tn X2 X4 B3
    refine ⟨_, rfl, _, rfl, _, rfl, (by show 3 ≤ sizeLine; decide), fun t5 nt5 => ⟨(by show 1 ≤ sizeLine; decide), fun l2 nl2 => ?_⟩⟩
    have u6 : Same H6 (upd H6 t5 (.tup [.str "times", .ref tn, .ref tn])) := same_upd nt5
    have X5 : ExAt K (upd H6 t5 (.tup [.str "times", .ref tn, .ref tn])) t5 (.mul (.name g) (.name g)) := ⟨tn, tn, SqT.of upd_same, Tn.stay (TupsStay.same u6), Tn.stay (TupsStay.same u6)⟩
    have u7 : Same (upd H6 t5 (.tup [.str "times", .ref tn, .ref tn])) (upd (upd H6 t5 (.tup [.str "times", .ref tn, .ref tn])) l2 (.lst [.ref t5])) := same_upd nl2
    have u67 := u6.trans u7
    have e2 : (upd (upd H6 t5 (.tup [.str "times", .ref tn, .ref tn])) l2 (.lst [.ref t5])) l2 = some (.lst [.ref t5]) := upd_same
    have X5 := X5.stay (TupsStay.same u7)
    have e1 := u67 _ _ e1
    have A := A.same u67
    have el := u67 _ _ el
    have Tn := Tn.stay (TupsStay.same u67)
    have X2 := X2.stay (TupsStay.same u67)
    have X4 := X4.stay (TupsStay.same u67)
    have B4' := B3.same u67
    generalize (upd (upd H6 t5 (.tup [.str "times", .ref tn, .ref tn])) l2 (.lst [.ref t5])) = H7 at u67 e2 X5 e1 A el Tn X2 X4 B4'
    refine ⟨l1, l2, _, _, rfl, rfl, e1, e2, (by show 4 ≤ sizeLine; decide), fun l3 nl3 => ?_⟩
    have u8 : Same H7 (upd H7 l3 (.lst [.ref tn, .ref t2, .ref t4, .ref t5])) := same_upd nl3
    have e3 : (upd H7 l3 (.lst [.ref tn, .ref t2, .ref t4, .ref t5])) l3 = some (.lst [.ref tn, .ref t2, .ref t4, .ref t5]) := upd_same
    have n3h : l3 ≠ h := (ne_of_none A.h nl3).symm
    have n3c : l3 ≠ c := (ne_of_none A.c nl3).symm
    have A := A.same u8
    have el := u8 _ _ el
    have Tn := Tn.stay (TupsStay.same u8)
    have X2 := X2.stay (TupsStay.same u8)
    have X4 := X4.stay (TupsStay.same u8)
    have X5 := X5.stay (TupsStay.same u8)
    have B5 := B4'.same u8
    have e3' : (upd H7 l3 (.lst ([.ref tn, .ref t2, .ref t4] ++ [.ref t5]))) l3 = some (.lst [.ref tn, .ref t2, .ref t4, .ref t5]) := e3
    refine ⟨_, rfl, h, c, _, _, 4, _, rfl, by decide, by decide, A, fun s9 k9 cs9 r9 H9 r90 r94 A9 B9 => ?_⟩
    have tt := B9.tups A
    have el := B9 _ _ el nlh nlc
    have e3 := B9 _ _ e3 n3h n3c
    have Tn := Tn.stay tt
    have X2 := X2.stay tt
    have X4 := X4.stay tt
    have X5 := X5.stay tt
    have B6 := B5.trans B9
    obtain ⟨vo, hvo, ato⟩ := four r90 r94 (V.ref tn) (V.ref t2) (V.ref t4) (V.ref t5)
    obtain ⟨po, eo, rfl, Xo, ok1⟩ : ∃ po t, vo = V.ref po ∧ ExAt K H9 po t ∧ ExOk ns 1 t := by
      simp only [List.mem_cons, List.not_mem_nil, or_false] at hvo
      rcases hvo with z | z | z | z
      · exact ⟨tn, _, z, Tn, ExOk.name hg _⟩
      · exact ⟨t2, _, z, X2, ExOk.name hg _, ExOk.num (by omega) _⟩
      · exact ⟨t4, _, z, X4, ExOk.num (by omega) _, ExOk.name hg _⟩
      · exact ⟨t5, _, z, X5, ExOk.name hg _, ExOk.name hg _⟩
    refine ⟨l3, _, _, _, rfl, rfl, SqL.of e3, ato, ?_⟩
    clear e3 e3' ato hvo Tn X2 X4 X5 u8
    refine ⟨_, rfl, (by show 0 ≤ sizeLine; decide), fun l5 nl5 => ?_⟩
    have u9 : Same H9 (upd H9 l5 (.lst [])) := same_upd nl5
    have A := A9.same u9
    have el := u9 _ _ el
    have Xo := Xo.stay (TupsStay.same u9)
    have B7 := B6.same u9
    refine ⟨_, _, Dp.lst (SqL.of el) (dpStrs ms), Dp.lst (SqL.of upd_same) DpAll.nil, shapedStrs tx, by decide, _, rfl, ite2 (fun e => ?_) (fun e => ?_)⟩
    · have n0 : 0 < ms.length := sN_len (fun z => by rw [z] at e; exact absurd e (by decide))
      refine ⟨_, rfl, h, c, _, _, 3, _, rfl, by decide, by decide, A, fun s10 k10 cs10 r10 H10 r100 r103 A10 B10 => ⟨rfl, _, rfl, ite2 (fun e2 => ?_) (fun e2 => ?_)⟩⟩
      · have el := B10 _ _ el nlh nlc
        have Xo := Xo.stay (B10.tups A)
        refine ⟨_, rfl, _, rfl, _, rfl, _, rfl, l, _, rfl, .inl (SqL.of el), h, c, _, _, _, _, rfl, by rw [List.length_map]; omega, by rw [List.length_map]; omega, A10, fun s11 k11 cs11 x H11 x0 x7 A11 B11 => ?_⟩
        rw [List.length_map] at x7
        have hx : x.toNat < ms.length := by omega
        have el2 := B11 _ _ el nlh nlc
        have Xo := Xo.stay (B11.tups A10)
        refine ⟨l, _, _, .str ms[x.toNat], rfl, rfl, SqL.of el2, at_of (j := x.toNat) (by omega) (by rw [List.getElem?_map, List.getElem?_eq_getElem hx]; rfl), (by show 2 ≤ sizeLine; decide), fun t6 nt6 => ⟨(by show 3 ≤ sizeLine; decide), fun t7 nt7 => ?_⟩⟩
        have v6 : Same H11 (upd H11 t6 (.tup [.str "name", .str ms[x.toNat]])) := same_upd nt6
        have X6 : ExAt K (upd H11 t6 (.tup [.str "name", .str ms[x.toNat]])) t6 (.name ms[x.toNat]) := SqT.of upd_same
        have v7 : Same (upd H11 t6 (.tup [.str "name", .str ms[x.toNat]])) (upd (upd H11 t6 (.tup [.str "name", .str ms[x.toNat]])) t7 (.tup [.str "add", .ref po, .ref t6])) := same_upd nt7
        exact ⟨_, rfl, q _ _ _ t7 (.add eo (.name ms[x.toNat])) _ (A11.same (v6.trans v7)) (((B7.trans B10).trans B11).same (v6.trans v7)) ⟨po, t6, SqT.of upd_same, Xo.stay (TupsStay.same (v6.trans v7)), X6.stay (TupsStay.same v7)⟩ ⟨ok1, ExOk.name (hm _ (List.getElem_mem hx)) _⟩⟩
      · exact ⟨_, rfl, q _ _ _ po eo _ A10 (B7.trans B10) (Xo.stay (B10.tups A)) ok1.up⟩
    · exact ⟨_, rfl, q _ _ _ po eo _ A B7 Xo ok1.up⟩
end
/-! ### tame expressions and rows: how numbers grow -/
def valE (v : Str → Int) : Ex → Int
  | .num n => n
  | .name x => v x
  | .add a b => valE v a + valE v b
  | .mul a b => valE v a * valE v b
def BndE (gs os : List Str) (bd : Int → Int → Int) (e : Ex) : Prop := ∀ (v : Str → Int) (G M : Int), 1 ≤ G → 0 ≤ M → (∀ x ∈ gs, 0 ≤ v x ∧ v x ≤ G) → (∀ x ∈ os, 0 ≤ v x ∧ v x ≤ M) → 0 ≤ valE v e ∧ valE v e ≤ bd G M
theorem BndE.sub {gs os gs' os' : List Str} {bd : Int → Int → Int} {e : Ex} (h : BndE gs os bd e) (a : ∀ x ∈ gs, x ∈ gs') (b : ∀ x ∈ os, x ∈ os') : BndE gs' os' bd e := fun v G M g m hg ho => h v G M g m (fun x hx => hg x (a x hx)) (fun x hx => ho x (b x hx))
theorem BndE.mono {gs os : List Str} {bd bd' : Int → Int → Int} {e : Ex} (h : BndE gs os bd e) (k : ∀ G M, 1 ≤ G → 0 ≤ M → bd G M ≤ bd' G M) : BndE gs os bd' e := fun v G M g m hg ho => ⟨(h v G M g m hg ho).1, Int.le_trans (h v G M g m hg ho).2 (k G M g m)⟩
def OneE (gs : List Str) (e : Ex) : Prop := BndE gs [] (fun G _ => G * G + 7) e
def OthE (os : List Str) (e : Ex) : Prop := BndE [] os (fun _ M => 3 * M + 1000) e
def GrowE (gs os : List Str) (e : Ex) : Prop := BndE gs os (fun G M => G * G + 3 * M + 1010) e
theorem sq_ge {G : Int} (h : 1 ≤ G) : G ≤ G * G := by
  have := Int.mul_le_mul_of_nonneg_left h (by omega : 0 ≤ G)
  omega
theorem one_num {gs : List Str} {r : Int} (h : 0 ≤ r ∧ r < 7) : OneE gs (.num r) := fun v G M g m hg ho => by
  have := sq_ge g
  exact ⟨h.1, by show r ≤ G * G + 7; omega⟩
theorem one_name {gs : List Str} {x : Str} (h : x ∈ gs) : OneE gs (.name x) := fun v G M g m hg ho => by
  have := sq_ge g
  have := hg x h
  exact ⟨this.1, by show v x ≤ G * G + 7; omega⟩
theorem one_mul {gs : List Str} {x y : Str} (h : x ∈ gs) (k : y ∈ gs) : OneE gs (.mul (.name x) (.name y)) := fun v G M g m hg ho => by
  have a := hg x h
  have b := hg y k
  refine ⟨Int.mul_nonneg a.1 b.1, ?_⟩
  show v x * v y ≤ G * G + 7
  have := Int.mul_le_mul a.2 b.2 b.1 (by omega : 0 ≤ G)
  omega
theorem oth_num {os : List Str} {r : Int} (h : 0 ≤ r ∧ r < 1000) : OthE os (.num r) := fun v G M g m hg ho => ⟨h.1, by show r ≤ 3 * M + 1000; omega⟩
theorem oth_name {os : List Str} {x : Str} (h : x ∈ os) : OthE os (.name x) := fun v G M g m hg ho => by
  have := ho x h
  exact ⟨this.1, by show v x ≤ 3 * M + 1000; omega⟩
theorem oth_mul {os : List Str} {r : Int} {x : Str} (h : 0 ≤ r ∧ r < 4) (k : x ∈ os) : OthE os (.mul (.num r) (.name x)) := fun v G M g m hg ho => by
  have b := ho x k
  refine ⟨Int.mul_nonneg h.1 b.1, ?_⟩
  show r * v x ≤ 3 * M + 1000
  have := Int.mul_le_mul (show r ≤ 3 by omega) b.2 b.1 (by omega : (0 : Int) ≤ 3)
  omega
theorem OneE.grow {gs os : List Str} {a b : Ex} (h : OneE gs a) (k : OthE os b) : GrowE gs os (.add a b) := fun v G M g m hg ho => by
  have x := h v G M g m hg (fun _ h => nomatch h)
  have y := k v G M g m (fun _ h => nomatch h) ho
  have x2 : valE v a ≤ G * G + 7 := x.2
  have y2 : valE v b ≤ 3 * M + 1000 := y.2
  exact ⟨Int.add_nonneg x.1 y.1, by show valE v a + valE v b ≤ G * G + 3 * M + 1010; omega⟩
theorem GrowE.sub {gs os gs' os' : List Str} {e : Ex} (h : GrowE gs os e) (a : ∀ x ∈ gs, x ∈ gs') (b : ∀ x ∈ os, x ∈ os') : GrowE gs' os' e := BndE.sub h a b
theorem GrowE.more {gs os : List Str} {e : Ex} (h : GrowE gs os e) {y : Str} (hy : y ∈ os) : BndE gs os (fun G M => G * G + 4 * M + 1010) (.add (.name y) e) := fun v G M g m hg ho => by
  have x := h v G M g m hg ho
  have b := ho y hy
  have x2 : valE v e ≤ G * G + 3 * M + 1010 := x.2
  exact ⟨Int.add_nonneg b.1 x.1, by show v y + valE v e ≤ G * G + 4 * M + 1010; omega⟩
theorem GrowE.big {gs os : List Str} {e : Ex} (h : GrowE gs os e) : BndE gs os (fun G M => G * G + 4 * M + 1010) e := BndE.mono h fun G M g m => by
  show G * G + 3 * M + 1010 ≤ G * G + 4 * M + 1010
  omega
theorem grd_num {gs os : List Str} {r : Int} (h : 0 ≤ r ∧ r < 1000) : BndE gs os (fun G _ => 2 * G + 1010) (.num r) := fun v G M g m hg ho => ⟨h.1, by show r ≤ 2 * G + 1010; omega⟩
theorem grd_two {gs os : List Str} {x y : Str} (h : x ∈ gs) (k : y ∈ gs) : BndE gs os (fun G _ => 2 * G + 1010) (.add (.name x) (.name y)) := fun v G M g m hg ho => by
  have a := hg x h
  have b := hg y k
  exact ⟨Int.add_nonneg a.1 b.1, by show v x + v y ≤ 2 * G + 1010; omega⟩
theorem grd_more {gs os : List Str} {x : Str} {r : Int} (h : x ∈ gs) (k : 0 ≤ r ∧ r < 1000) : BndE gs os (fun G _ => 2 * G + 1010) (.add (.name x) (.num r)) := fun v G M g m hg ho => by
  have a := hg x h
  exact ⟨Int.add_nonneg a.1 k.1, by show v x + r ≤ 2 * G + 1010; omega⟩
/-- the guards' names and the last one; the others -/
def gsOf (ns : List Str) : List Str := ns.take 3 ++ ns.drop 6
def osOf (ns : List Str) : List Str := (ns.drop 3).take 3
def ExS (ns : List Str) (e : Ex) : Prop := ExOk ns 2 e ∨ ∃ y t, e = .add (.name y) t ∧ y ∈ ns ∧ ExOk ns 2 t
def RwT (ns : List Str) : Rw → Prop
  | .nil => True
  | .set x e r => ((x ∈ gsOf ns ∧ BndE (gsOf ns) (osOf ns) (fun G _ => 2 * G + 1010) e) ∨ (x ∈ osOf ns ∧ BndE (gsOf ns) (osOf ns) (fun G M => G * G + 4 * M + 1010) e)) ∧ ExS ns e ∧ RwT ns r
  | .say e r => ExOk ns 2 e ∧ RwT ns r
  | .lap x m b r => x ∈ gsOf ns ∧ ExOk ns 2 m ∧ RwT ns b ∧ RwT ns r
theorem RwT.app {ns : List Str} {s : Rw} (hs : RwT ns s) : ∀ {r : Rw}, RwT ns r → RwT ns (appR r s)
  | .nil, _ => hs
  | .set _ _ _, ⟨a, b, c⟩ => ⟨a, b, RwT.app hs c⟩
  | .say _ _, ⟨a, b⟩ => ⟨a, RwT.app hs b⟩
  | .lap _ _ _ _, ⟨a, b, e, c⟩ => ⟨a, b, e, RwT.app hs c⟩
theorem at_guard {ns : List Str} (h7 : ns.length = 7) {i : Int} (h : (0 ≤ i ∧ i < 3) ∨ i = 6) : ∃ x, x ∈ ns ∧ x ∈ gsOf ns ∧ atI (ns.map V.str) i = some (.str x) := by
  have hx : i.toNat < ns.length := by omega
  refine ⟨ns[i.toNat], List.getElem_mem hx, ?_, at_of (j := i.toNat) (by omega) (by rw [List.getElem?_map, List.getElem?_eq_getElem hx]; rfl)⟩
  match ns, h7 with
  | [a, b, c, d, e, f, g], _ =>
    have : i = 0 ∨ i = 1 ∨ i = 2 ∨ i = 6 := by omega
    rcases this with z | z | z | z <;> subst z <;> simp [gsOf]
theorem at_other {ns : List Str} (h7 : ns.length = 7) {i : Int} (h0 : 3 ≤ i) (h1 : i < 6) : ∃ x, x ∈ ns ∧ x ∈ osOf ns ∧ atI (ns.map V.str) i = some (.str x) := by
  have hx : i.toNat < ns.length := by omega
  refine ⟨ns[i.toNat], List.getElem_mem hx, ?_, at_of (j := i.toNat) (by omega) (by rw [List.getElem?_map, List.getElem?_eq_getElem hx]; rfl)⟩
  match ns, h7 with
  | [a, b, c, d, e, f, g], _ =>
    have : i = 3 ∨ i = 4 ∨ i = 5 := by omega
    rcases this with z | z | z <;> subst z <;> simp [osOf]
theorem strs_inj {ys zs : List Str} (h : ys.map V.str = zs.map V.str) : ys = zs := by
  induction ys generalizing zs with
  | nil => cases zs with
    | nil => rfl
    | cons _ _ => cases h
  | cons y r ih => cases zs with
    | nil => cases h
    | cons z t =>
      injection h with h1 h2
      injection h1 with h3
      rw [h3, ih h2]
theorem cut_guard {ns ys : List Str} {d : Nat} (hd : d ≤ 3) (e : cutV (ns.map V.str) none (some (d : Int)) = ys.map V.str) : ∀ x ∈ ys, x ∈ gsOf ns := fun x hx => by
  unfold cutV at e
  rw [HT.sIx_none, HT.sIx_nat, List.drop_zero, ← List.map_take] at e
  have e2 := strs_inj e
  rw [← e2] at hx
  refine List.mem_append_left _ ?_
  have : min d (ns.map V.str).length - 0 ≤ 3 := by omega
  exact (List.take_sublist_take_left (l := ns) this).subset hx
theorem cut_other {ns zs : List Str} {a : Int} (h0 : 0 ≤ a) (h3 : a < 3) (e : cutV (ns.map V.str) (some 3) (some (3 + a)) = zs.map V.str) : ∀ x ∈ zs, x ∈ osOf ns := fun x hx => by
  have e3 : (3 : Int) + a = ((3 + a.toNat : Nat) : Int) := by omega
  unfold cutV at e
  rw [e3, show (3 : Int) = ((3 : Nat) : Int) from rfl, HT.sIx_nat, HT.sIx_nat, ← List.map_drop, ← List.map_take] at e
  have e2 := strs_inj e
  rw [← e2] at hx
  by_cases l : 3 ≤ ns.length
  · have m3 : min 3 (ns.map V.str).length = 3 := by rw [List.length_map]; omega
    rw [m3] at hx
    have : min (3 + a.toNat) (ns.map V.str).length - 3 ≤ 3 := by omega
    exact (List.take_sublist_take_left (l := ns.drop 3) this).subset hx
  · have m3 : min 3 (ns.map V.str).length = ns.length := by rw [List.length_map]; omega
    rw [m3, List.drop_length] at hx
    simp at hx
/-! ### what a name grows by -/
theorem two_at {r : Int} (h0 : 0 ≤ r) (h2 : r < 2) (x y : Int) : ∃ v, (v = x ∨ v = y) ∧ atI [V.int x, V.int y] r = some (.int v) := by
  have : r = 0 ∨ r = 1 := by omega
  rcases this with h | h
  · subst h
    exact ⟨x, .inl rfl, rfl⟩
  · subst h
    exact ⟨y, .inr rfl, rfl⟩
section
variable {P : Program} {w : World} {K : PySem.W.Frag} {mg : Str → Option Value} {base : Heap} {C : Addr}
def spGrow (K : PySem.W.Frag) : Sp := fun vs H Q _ => ∃ (h c l m : Addr) (s k : Int) (cs : List Int) (ls ms ns : List Str), vs = [.ref h, .ref l, .ref m] ∧ HAt H h c s k cs ∧ H l = some (.lst (ls.map V.str)) ∧ H m = some (.lst (ms.map V.str)) ∧ l ≠ h ∧ l ≠ c ∧ m ≠ h ∧ m ≠ c ∧ ls.length < 1000 ∧ ms.length < 1000 ∧ TextsOk ls ∧ TextsOk ms ∧ (∀ x ∈ ls, x ∈ ns) ∧ (∀ x ∈ ms, x ∈ ns) ∧
  ∀ (s' k' : Int) (cs' : List Int) (p : Addr) (t : Ex) (H' : Hp), HAt H' h c s' k' cs' → But h c H H' → ExAt K H' p t → ExOk ns 2 t → GrowE ls ms t → Q (.ref p) H'
set_option maxHeartbeats 4000000 in
theorem ok_law_grow {f : Addr} {fd : FuncData} (T : Txt K mg C) (F : DefAt K mg "_law_grow" "_law_grow" s_law_grow ["_law_h", "_law_low", "_law_some"] f fd) : FnOk P w K mg base CX0 2 f fd ["_law_h", "_law_low", "_law_some"] (spGrow K) := by
  obtain ⟨f1, fd1, D_law_next⟩ := T.d_law_next
  have G_law_next : FnOk P w K mg base CX0 1 f1 fd1 ["_law_h", "_law_many"] spNext := ok_law_next T D_law_next
  refine F.F.ok sc_law_grow (fun vs H Q E h => ?_) (fun cdv A outer s H vs Q E hr h => ?_)
  · obtain ⟨h, c, l, m, s, k, cs, ls, ms, ns, rfl, _⟩ := h
    rfl
  · obtain ⟨h, c, l, m, z, k, cs, ls, ms, ns, rfl, A, el, em, nlh, nlc, nmh, nmc, ls1, ms1, txl, txm, hl, hm, q⟩ := h
    refine ⟨_, (pss_cons (ps_set (i := 3) sc_law_grow.nd rfl (.inl rfl) (pe_tup (pa_cons pe_str (pa_cons (pe_call G_law_next (hr.mono (by decide)) (by rfl) D_law_next.g D_law_next.F.kp D_law_next.b .nil pass0 (pa_cons (pv 0) (pa_cons pe_int pa_nil))) pa_nil))))
      (pss_cons (ps_if (PW.pt (pw_and (pt_cmpR (op_neD hr.units) (pv 1) (pe_lst pa_nil) (nomark _)) (pw_and1 (pt_cmpR op_gt (pe_call G_law_next (hr.mono (by decide)) (by rfl) D_law_next.g D_law_next.F.kp D_law_next.b .nil pass0 (pa_cons (pv 0) (pa_cons pe_int pa_nil))) pe_int (nomark _))))) (pss_cons (ps_set (i := 3) sc_law_grow.nd rfl (.inl rfl) (pe_tup (pa_cons pe_str (pa_cons (pe_ix ix_list (pv 1) (pe_call G_law_next (hr.mono (by decide)) (by rfl) D_law_next.g D_law_next.F.kp D_law_next.b .nil pass0 (pa_cons (pv 0) (pa_cons (pe_callB call_len_seq (by rfl) T.m_len (by decide +kernel) (pa_cons (pv 1) pa_nil)) pa_nil))) (fun _ _ => rfl)) pa_nil)))) (pss_one (ps_if (pt_cmpR op_eq (pe_call G_law_next (hr.mono (by decide)) (by rfl) D_law_next.g D_law_next.F.kp D_law_next.b .nil pass0 (pa_cons (pv 0) (pa_cons pe_int pa_nil))) pe_int (nomark _)) (pss_one (ps_set (i := 3) sc_law_grow.nd rfl (.inl rfl) (pe_tup (pa_cons pe_str (pa_cons (pv 3) (pa_cons (pe_tup (pa_cons pe_str (pa_cons (pe_ix ix_list (pv 1) (pe_call G_law_next (hr.mono (by decide)) (by rfl) D_law_next.g D_law_next.F.kp D_law_next.b .nil pass0 (pa_cons (pv 0) (pa_cons (pe_callB call_len_seq (by rfl) T.m_len (by decide +kernel) (pa_cons (pv 1) pa_nil)) pa_nil))) (fun _ _ => rfl)) pa_nil))) pa_nil)))))) pss_nil))) pss_nil)
      (pss_cons (ps_set (i := 4) sc_law_grow.nd rfl (.inl rfl) (pe_tup (pa_cons pe_str (pa_cons (pe_ix ix_list (pe_lst (pa_cons (pe_call G_law_next (hr.mono (by decide)) (by rfl) D_law_next.g D_law_next.F.kp D_law_next.b .nil pass0 (pa_cons (pv 0) (pa_cons pe_int pa_nil))) (pa_cons (pe_call G_law_next (hr.mono (by decide)) (by rfl) D_law_next.g D_law_next.F.kp D_law_next.b .nil pass0 (pa_cons (pv 0) (pa_cons pe_int pa_nil))) pa_nil))) (pe_call G_law_next (hr.mono (by decide)) (by rfl) D_law_next.g D_law_next.F.kp D_law_next.b .nil pass0 (pa_cons (pv 0) (pa_cons pe_int pa_nil))) (fun _ _ => rfl)) pa_nil))))
      (pss_cons (ps_if (PW.pt (pw_and (pt_cmpR (op_neD hr.units) (pv 2) (pe_lst pa_nil) (nomark _)) (pw_and1 (pt_cmpR op_eq (pe_call G_law_next (hr.mono (by decide)) (by rfl) D_law_next.g D_law_next.F.kp D_law_next.b .nil pass0 (pa_cons (pv 0) (pa_cons pe_int pa_nil))) pe_int (nomark _))))) (pss_cons (ps_set (i := 4) sc_law_grow.nd rfl (.inl rfl) (pe_tup (pa_cons pe_str (pa_cons (pe_ix ix_list (pv 2) (pe_call G_law_next (hr.mono (by decide)) (by rfl) D_law_next.g D_law_next.F.kp D_law_next.b .nil pass0 (pa_cons (pv 0) (pa_cons (pe_callB call_len_seq (by rfl) T.m_len (by decide +kernel) (pa_cons (pv 2) pa_nil)) pa_nil))) (fun _ _ => rfl)) pa_nil)))) (pss_one (ps_if (pt_cmpR op_eq (pe_call G_law_next (hr.mono (by decide)) (by rfl) D_law_next.g D_law_next.F.kp D_law_next.b .nil pass0 (pa_cons (pv 0) (pa_cons pe_int pa_nil))) pe_int (nomark _)) (pss_one (ps_set (i := 4) sc_law_grow.nd rfl (.inl rfl) (pe_tup (pa_cons pe_str (pa_cons (pe_tup (pa_cons pe_str (pa_cons (pe_call G_law_next (hr.mono (by decide)) (by rfl) D_law_next.g D_law_next.F.kp D_law_next.b .nil pass0 (pa_cons (pv 0) (pa_cons pe_int pa_nil))) pa_nil))) (pa_cons (pv 4) pa_nil)))))) pss_nil))) pss_nil)
      (pss_one (ps_ret (pe_tup (pa_cons pe_str (pa_cons (pv 3) (pa_cons (pv 4) pa_nil)))))))))), ?_⟩
    have B := But.refl h c H
    refine ⟨_, rfl, h, c, _, _, 7, _, rfl, by decide, by decide, A, fun s10 k10 cs10 r10 H10 r100 r101 A10 B10 => ⟨(by show 2 ≤ sizeLine; decide), fun t10 nt10 => ?_⟩⟩
    have tt10 := B10.tups A
    have el := B10 _ _ el nlh nlc
    have em := B10 _ _ em nmh nmc
    have u10 : Same H10 (upd H10 t10 (.tup [.str "num", .int r10])) := same_upd nt10
    have Xa : ExAt K (upd H10 t10 (.tup [.str "num", .int r10])) t10 (.num r10) := SqT.of upd_same
    have oka : ExOk ns 0 (.num r10) := ExOk.num (by omega) _
    have A := A10.same u10
    have el := u10 _ _ el
    have em := u10 _ _ em
    have B := (B.trans B10).same u10
    generalize (upd H10 t10 (.tup [.str "num", .int r10])) = G10 at u10 Xa A el em B 
    refine ⟨_, rfl, (by show 0 ≤ sizeLine; decide), fun l11 nl11 => ?_⟩
    have u11 : Same G10 (upd G10 l11 (.lst [])) := same_upd nl11
    have e11 : (upd G10 l11 (.lst [])) l11 = some (.lst []) := upd_same
    have A := A.same u11
    have el := u11 _ _ el
    have em := u11 _ _ em
    have Xa := Xa.stay (TupsStay.same u11)
    have B := B.same u11
    generalize (upd G10 l11 (.lst [])) = G11 at u11 e11 A el em B Xa
    refine ⟨_, _, Dp.lst (SqL.of el) (dpStrs ls), Dp.lst (SqL.of e11) DpAll.nil, shapedStrs txl, by decide, _, rfl, ite2 (fun e => ?_) (fun e => ?_)⟩
    · have n11 : 0 < ls.length := sN_len (fun z => by rw [z] at e; exact absurd e (by decide))
      refine ⟨_, rfl, h, c, _, _, 3, _, rfl, by decide, by decide, A, fun s12 k12 cs12 r12 H12 r120 r121 A12 B12 => ⟨_, _, rfl, rfl, _, rfl, ite2 (fun e => ?_) (fun e => ?_)⟩⟩
      · skip
        have tt12 := B12.tups A
        have el := B12 _ _ el nlh nlc
        have em := B12 _ _ em nmh nmc
        have Xa := Xa.stay tt12
        have B := B.trans B12
        have A := A12
        refine ⟨_, rfl, _, rfl, _, rfl, l, _, rfl, .inl (SqL.of el), h, c, _, _, _, _, rfl, by rw [List.length_map]; omega, by rw [List.length_map]; omega, A, fun s13 k13 cs13 x13 H13 x130 x137 A13 B13 => ?_⟩
        rw [List.length_map] at x137
        have hx13 : x13.toNat < ls.length := by omega
        have tt13 := B13.tups A
        have el := B13 _ _ el nlh nlc
        have em := B13 _ _ em nmh nmc
        refine ⟨l, _, _, .str ls[x13.toNat], rfl, rfl, SqL.of el, at_of (j := x13.toNat) (by omega) (by rw [List.getElem?_map, List.getElem?_eq_getElem hx13]; rfl), (by show 2 ≤ sizeLine; decide), fun t13 nt13 => ?_⟩
        have u13 : Same H13 (upd H13 t13 (.tup [.str "name", .str ls[x13.toNat]])) := same_upd nt13
        have Xb : ExAt K (upd H13 t13 (.tup [.str "name", .str ls[x13.toNat]])) t13 (.name ls[x13.toNat]) := SqT.of upd_same
        have okb : ExOk ns 0 (.name ls[x13.toNat]) := ExOk.name (hl _ (List.getElem_mem hx13)) _
        have A := A13.same u13
        have el := u13 _ _ el
        have em := u13 _ _ em
        have B := (B.trans B13).same u13
        generalize (upd H13 t13 (.tup [.str "name", .str ls[x13.toNat]])) = G13 at u13 Xb A el em B 
        refine ⟨_, rfl, h, c, _, _, 3, _, rfl, by decide, by decide, A, fun s14 k14 cs14 r14 H14 r140 r141 A14 B14 => ⟨rfl, _, rfl, ite2 (fun e => ?_) (fun e => ?_)⟩⟩
        · skip
          have tt14 := B14.tups A
          have el := B14 _ _ el nlh nlc
          have em := B14 _ _ em nmh nmc
          have Xb := Xb.stay tt14
          have B := B.trans B14
          have A := A14
          refine ⟨_, rfl, _, rfl, _, rfl, _, rfl, l, _, rfl, .inl (SqL.of el), h, c, _, _, _, _, rfl, by rw [List.length_map]; omega, by rw [List.length_map]; omega, A, fun s15 k15 cs15 x15 H15 x150 x157 A15 B15 => ?_⟩
          rw [List.length_map] at x157
          have hx15 : x15.toNat < ls.length := by omega
          have tt15 := B15.tups A
          have el := B15 _ _ el nlh nlc
          have em := B15 _ _ em nmh nmc
          have Xb := Xb.stay tt15
          refine ⟨l, _, _, .str ls[x15.toNat], rfl, rfl, SqL.of el, at_of (j := x15.toNat) (by omega) (by rw [List.getElem?_map, List.getElem?_eq_getElem hx15]; rfl), (by show 2 ≤ sizeLine; decide), fun t15 nt15 => ⟨(by show 3 ≤ sizeLine; decide), fun v15 nv15 => ?_⟩⟩
          have u15 : Same H15 (upd H15 t15 (.tup [.str "name", .str ls[x15.toNat]])) := same_upd nt15
          have Xn15 : ExAt K (upd H15 t15 (.tup [.str "name", .str ls[x15.toNat]])) t15 (.name ls[x15.toNat]) := SqT.of upd_same
          have w15 : Same (upd H15 t15 (.tup [.str "name", .str ls[x15.toNat]])) (upd (upd H15 t15 (.tup [.str "name", .str ls[x15.toNat]])) v15 (.tup [.str "times", .ref t13, .ref t15])) := same_upd nv15
          have Xd : ExAt K (upd (upd H15 t15 (.tup [.str "name", .str ls[x15.toNat]])) v15 (.tup [.str "times", .ref t13, .ref t15])) v15 (.mul (.name ls[x13.toNat]) (.name ls[x15.toNat])) := ⟨t13, t15, SqT.of upd_same, Xb.stay (TupsStay.same (u15.trans w15)), Xn15.stay (TupsStay.same w15)⟩
          have okd : ExOk ns 1 (.mul (.name ls[x13.toNat]) (.name ls[x15.toNat])) := ⟨okb, ExOk.name (hl _ (List.getElem_mem hx15)) _⟩
          have A := A15.same (u15.trans w15)
          have el := (u15.trans w15) _ _ el
          have em := (u15.trans w15) _ _ em
          have B := (B.trans B15).same (u15.trans w15)
          clear u15 Xn15
          generalize (upd (upd H15 t15 (.tup [.str "name", .str ls[x15.toNat]])) v15 (.tup [.str "times", .ref t13, .ref t15])) = G15 at w15 Xd A el em B 
          refine ⟨_, rfl, h, c, _, _, 4, _, rfl, by decide, by decide, A, fun s30 k30 cs30 r30 H30 r300 r301 A30 B30 => ⟨_, rfl, h, c, _, _, 1000, _, rfl, by decide, by decide, A30, fun s31 k31 cs31 r31 H31 r310 r311 A31 B31 => ⟨(by show 2 ≤ sizeLine; decide), fun l32 nl32 => ?_⟩⟩⟩
          have n2h : l32 ≠ h := (ne_of_none A31.h nl32).symm
          have n2c : l32 ≠ c := (ne_of_none A31.c nl32).symm
          have B31' := B30.trans B31
          have tt30 := (B30.tups A).trans (B31.tups A30)
          have el := B31' _ _ el nlh nlc
          have em := B31' _ _ em nmh nmc
          have Xd := Xd.stay tt30
          have u32 : Same H31 (upd H31 l32 (.lst [.int r30, .int r31])) := same_upd nl32
          have e32 : (upd H31 l32 (.lst [.int r30, .int r31])) l32 = some (.lst [.int r30, .int r31]) := upd_same
          have A := A31.same u32
          have el := u32 _ _ el
          have em := u32 _ _ em
          have Xd := Xd.stay (TupsStay.same u32)
          have B := (B.trans B31').same u32
          generalize (upd H31 l32 (.lst [.int r30, .int r31])) = G32 at u32 e32 A el em B Xd
          refine ⟨_, rfl, h, c, _, _, 2, _, rfl, by decide, by decide, A, fun s33 k33 cs33 r33 H33 r330 r331 A33 B33 => ?_⟩
          obtain ⟨v33, hv33, at33⟩ := two_at r330 r331 r30 r31
          refine ⟨l32, _, _, _, rfl, rfl, SqL.of (B33 _ _ e32 n2h n2c), at33, (by show 2 ≤ sizeLine; decide), fun t34 nt34 => ?_⟩
          have tt33 := B33.tups A
          have el := B33 _ _ el nlh nlc
          have em := B33 _ _ em nmh nmc
          have Xd := Xd.stay tt33
          have u34 : Same H33 (upd H33 t34 (.tup [.str "num", .int v33])) := same_upd nt34
          have Xo : ExAt K (upd H33 t34 (.tup [.str "num", .int v33])) t34 (.num v33) := SqT.of upd_same
          have oko : ExOk ns 0 (.num v33) := ExOk.num (by rcases hv33 with z | z <;> omega) _
          have A := A33.same u34
          have el := u34 _ _ el
          have em := u34 _ _ em
          have Xd := Xd.stay (TupsStay.same u34)
          have B := (B.trans B33).same u34
          generalize (upd H33 t34 (.tup [.str "num", .int v33])) = G34 at u34 Xo A el em B Xd
          refine ⟨_, rfl, (by show 0 ≤ sizeLine; decide), fun l35 nl35 => ?_⟩
          have u35 : Same G34 (upd G34 l35 (.lst [])) := same_upd nl35
          have e35 : (upd G34 l35 (.lst [])) l35 = some (.lst []) := upd_same
          have A := A.same u35
          have el := u35 _ _ el
          have em := u35 _ _ em
          have Xd := Xd.stay (TupsStay.same u35)
          have Xo := Xo.stay (TupsStay.same u35)
          have B := B.same u35
          generalize (upd G34 l35 (.lst [])) = G35 at u35 e35 A el em B Xd Xo
          refine ⟨_, _, Dp.lst (SqL.of em) (dpStrs ms), Dp.lst (SqL.of e35) DpAll.nil, shapedStrs txm, by decide, _, rfl, ite2 (fun e => ?_) (fun e => ?_)⟩
          · have n35 : 0 < ms.length := sN_len (fun z => by rw [z] at e; exact absurd e (by decide))
            refine ⟨_, rfl, h, c, _, _, 2, _, rfl, by decide, by decide, A, fun s36 k36 cs36 r36 H36 r360 r361 A36 B36 => ⟨rfl, _, rfl, ite2 (fun e => ?_) (fun e => ?_)⟩⟩
            · skip
              have tt36 := B36.tups A
              have el := B36 _ _ el nlh nlc
              have em := B36 _ _ em nmh nmc
              have Xd := Xd.stay tt36
              have Xo := Xo.stay tt36
              have B := B.trans B36
              have A := A36
              refine ⟨_, rfl, _, rfl, _, rfl, m, _, rfl, .inl (SqL.of em), h, c, _, _, _, _, rfl, by rw [List.length_map]; omega, by rw [List.length_map]; omega, A, fun s37 k37 cs37 x37 H37 x370 x377 A37 B37 => ?_⟩
              rw [List.length_map] at x377
              have hx37 : x37.toNat < ms.length := by omega
              have tt37 := B37.tups A
              have el := B37 _ _ el nlh nlc
              have em := B37 _ _ em nmh nmc
              have Xd := Xd.stay tt37
              refine ⟨m, _, _, .str ms[x37.toNat], rfl, rfl, SqL.of em, at_of (j := x37.toNat) (by omega) (by rw [List.getElem?_map, List.getElem?_eq_getElem hx37]; rfl), (by show 2 ≤ sizeLine; decide), fun t37 nt37 => ?_⟩
              have u37 : Same H37 (upd H37 t37 (.tup [.str "name", .str ms[x37.toNat]])) := same_upd nt37
              have Xp : ExAt K (upd H37 t37 (.tup [.str "name", .str ms[x37.toNat]])) t37 (.name ms[x37.toNat]) := SqT.of upd_same
              have okp : ExOk ns 0 (.name ms[x37.toNat]) := ExOk.name (hm _ (List.getElem_mem hx37)) _
              have A := A37.same u37
              have el := u37 _ _ el
              have em := u37 _ _ em
              have Xd := Xd.stay (TupsStay.same u37)
              have B := (B.trans B37).same u37
              generalize (upd H37 t37 (.tup [.str "name", .str ms[x37.toNat]])) = G37 at u37 Xp A el em B Xd
              refine ⟨_, rfl, h, c, _, _, 3, _, rfl, by decide, by decide, A, fun s38 k38 cs38 r38 H38 r380 r381 A38 B38 => ⟨rfl, _, rfl, ite2 (fun e => ?_) (fun e => ?_)⟩⟩
              · skip
                have tt38 := B38.tups A
                have el := B38 _ _ el nlh nlc
                have em := B38 _ _ em nmh nmc
                have Xd := Xd.stay tt38
                have Xp := Xp.stay tt38
                have B := B.trans B38
                have A := A38
                refine ⟨_, rfl, h, c, _, _, 4, _, rfl, by decide, by decide, A, fun s39 k39 cs39 r39 H39 r390 r391 A39 B39 => ⟨(by show 2 ≤ sizeLine; decide), fun t39 nt39 => ⟨_, rfl, (by show 3 ≤ sizeLine; decide), fun v39 nv39 => ?_⟩⟩⟩
                have tt39 := B39.tups A
                have el := B39 _ _ el nlh nlc
                have em := B39 _ _ em nmh nmc
                have Xd := Xd.stay tt39
                have Xp := Xp.stay tt39
                have u39 : Same H39 (upd H39 t39 (.tup [.str "num", .int r39])) := same_upd nt39
                have Xm : ExAt K (upd H39 t39 (.tup [.str "num", .int r39])) t39 (.num r39) := SqT.of upd_same
                have w39 : Same (upd H39 t39 (.tup [.str "num", .int r39])) (upd (upd H39 t39 (.tup [.str "num", .int r39])) v39 (.tup [.str "times", .ref t39, .ref t37])) := same_upd nv39
                have Xr : ExAt K (upd (upd H39 t39 (.tup [.str "num", .int r39])) v39 (.tup [.str "times", .ref t39, .ref t37])) v39 (.mul (.num r39) (.name ms[x37.toNat])) := ⟨t39, t37, SqT.of upd_same, Xm.stay (TupsStay.same w39), Xp.stay (TupsStay.same (u39.trans w39))⟩
                have okr : ExOk ns 1 (.mul (.num r39) (.name ms[x37.toNat])) := ⟨ExOk.num (by omega) _, okp⟩
                have A := A39.same (u39.trans w39)
                have Xd := Xd.stay (TupsStay.same (u39.trans w39))
                have B := (B.trans B39).same (u39.trans w39)
                refine ⟨_, rfl, _, rfl, (by show 3 ≤ sizeLine; decide), fun tz ntz => ?_⟩
                have sz : Same _ (upd _ tz (.tup [.str "add", .ref v15, .ref v39])) := same_upd ntz
                exact q _ _ _ tz (.add (.mul (.name ls[x13.toNat]) (.name ls[x15.toNat])) (.mul (.num r39) (.name ms[x37.toNat]))) _ (A.same sz) (B.same sz) ⟨v15, v39, SqT.of upd_same, Xd.stay (TupsStay.same sz), Xr.stay (TupsStay.same sz)⟩ ⟨okd.ups (by decide), okr.ups (by decide)⟩ ((one_mul (List.getElem_mem hx13) (List.getElem_mem hx15)).grow (oth_mul (r := r39) (by omega) (List.getElem_mem hx37)))
              · skip
                have tt38 := B38.tups A
                have el := B38 _ _ el nlh nlc
                have em := B38 _ _ em nmh nmc
                have Xd := Xd.stay tt38
                have Xp := Xp.stay tt38
                have B := B.trans B38
                have A := A38
                refine ⟨_, rfl, _, rfl, (by show 3 ≤ sizeLine; decide), fun tz ntz => ?_⟩
                have sz : Same _ (upd _ tz (.tup [.str "add", .ref v15, .ref t37])) := same_upd ntz
                exact q _ _ _ tz (.add (.mul (.name ls[x13.toNat]) (.name ls[x15.toNat])) (.name ms[x37.toNat])) _ (A.same sz) (B.same sz) ⟨v15, t37, SqT.of upd_same, Xd.stay (TupsStay.same sz), Xp.stay (TupsStay.same sz)⟩ ⟨okd.ups (by decide), okp.ups (by decide)⟩ ((one_mul (List.getElem_mem hx13) (List.getElem_mem hx15)).grow (oth_name (List.getElem_mem hx37)))
            · skip
              have tt36 := B36.tups A
              have el := B36 _ _ el nlh nlc
              have em := B36 _ _ em nmh nmc
              have Xd := Xd.stay tt36
              have Xo := Xo.stay tt36
              have B := B.trans B36
              have A := A36
              refine ⟨_, rfl, _, rfl, (by show 3 ≤ sizeLine; decide), fun tz ntz => ?_⟩
              have sz : Same _ (upd _ tz (.tup [.str "add", .ref v15, .ref t34])) := same_upd ntz
              exact q _ _ _ tz (.add (.mul (.name ls[x13.toNat]) (.name ls[x15.toNat])) (.num v33)) _ (A.same sz) (B.same sz) ⟨v15, t34, SqT.of upd_same, Xd.stay (TupsStay.same sz), Xo.stay (TupsStay.same sz)⟩ ⟨okd.ups (by decide), oko.ups (by decide)⟩ ((one_mul (List.getElem_mem hx13) (List.getElem_mem hx15)).grow (oth_num (r := v33) (by rcases hv33 with z | z <;> omega)))
          · skip
            refine ⟨_, rfl, _, rfl, (by show 3 ≤ sizeLine; decide), fun tz ntz => ?_⟩
            have sz : Same _ (upd _ tz (.tup [.str "add", .ref v15, .ref t34])) := same_upd ntz
            exact q _ _ _ tz (.add (.mul (.name ls[x13.toNat]) (.name ls[x15.toNat])) (.num v33)) _ (A.same sz) (B.same sz) ⟨v15, t34, SqT.of upd_same, Xd.stay (TupsStay.same sz), Xo.stay (TupsStay.same sz)⟩ ⟨okd.ups (by decide), oko.ups (by decide)⟩ ((one_mul (List.getElem_mem hx13) (List.getElem_mem hx15)).grow (oth_num (r := v33) (by rcases hv33 with z | z <;> omega)))
        · skip
          have tt14 := B14.tups A
          have el := B14 _ _ el nlh nlc
          have em := B14 _ _ em nmh nmc
          have Xb := Xb.stay tt14
          have B := B.trans B14
          have A := A14
          refine ⟨_, rfl, h, c, _, _, 4, _, rfl, by decide, by decide, A, fun s30 k30 cs30 r30 H30 r300 r301 A30 B30 => ⟨_, rfl, h, c, _, _, 1000, _, rfl, by decide, by decide, A30, fun s31 k31 cs31 r31 H31 r310 r311 A31 B31 => ⟨(by show 2 ≤ sizeLine; decide), fun l32 nl32 => ?_⟩⟩⟩
          have n2h : l32 ≠ h := (ne_of_none A31.h nl32).symm
          have n2c : l32 ≠ c := (ne_of_none A31.c nl32).symm
          have B31' := B30.trans B31
          have tt30 := (B30.tups A).trans (B31.tups A30)
          have el := B31' _ _ el nlh nlc
          have em := B31' _ _ em nmh nmc
          have Xb := Xb.stay tt30
          have u32 : Same H31 (upd H31 l32 (.lst [.int r30, .int r31])) := same_upd nl32
          have e32 : (upd H31 l32 (.lst [.int r30, .int r31])) l32 = some (.lst [.int r30, .int r31]) := upd_same
          have A := A31.same u32
          have el := u32 _ _ el
          have em := u32 _ _ em
          have Xb := Xb.stay (TupsStay.same u32)
          have B := (B.trans B31').same u32
          generalize (upd H31 l32 (.lst [.int r30, .int r31])) = G32 at u32 e32 A el em B Xb
          refine ⟨_, rfl, h, c, _, _, 2, _, rfl, by decide, by decide, A, fun s33 k33 cs33 r33 H33 r330 r331 A33 B33 => ?_⟩
          obtain ⟨v33, hv33, at33⟩ := two_at r330 r331 r30 r31
          refine ⟨l32, _, _, _, rfl, rfl, SqL.of (B33 _ _ e32 n2h n2c), at33, (by show 2 ≤ sizeLine; decide), fun t34 nt34 => ?_⟩
          have tt33 := B33.tups A
          have el := B33 _ _ el nlh nlc
          have em := B33 _ _ em nmh nmc
          have Xb := Xb.stay tt33
          have u34 : Same H33 (upd H33 t34 (.tup [.str "num", .int v33])) := same_upd nt34
          have Xo : ExAt K (upd H33 t34 (.tup [.str "num", .int v33])) t34 (.num v33) := SqT.of upd_same
          have oko : ExOk ns 0 (.num v33) := ExOk.num (by rcases hv33 with z | z <;> omega) _
          have A := A33.same u34
          have el := u34 _ _ el
          have em := u34 _ _ em
          have Xb := Xb.stay (TupsStay.same u34)
          have B := (B.trans B33).same u34
          generalize (upd H33 t34 (.tup [.str "num", .int v33])) = G34 at u34 Xo A el em B Xb
          refine ⟨_, rfl, (by show 0 ≤ sizeLine; decide), fun l35 nl35 => ?_⟩
          have u35 : Same G34 (upd G34 l35 (.lst [])) := same_upd nl35
          have e35 : (upd G34 l35 (.lst [])) l35 = some (.lst []) := upd_same
          have A := A.same u35
          have el := u35 _ _ el
          have em := u35 _ _ em
          have Xb := Xb.stay (TupsStay.same u35)
          have Xo := Xo.stay (TupsStay.same u35)
          have B := B.same u35
          generalize (upd G34 l35 (.lst [])) = G35 at u35 e35 A el em B Xb Xo
          refine ⟨_, _, Dp.lst (SqL.of em) (dpStrs ms), Dp.lst (SqL.of e35) DpAll.nil, shapedStrs txm, by decide, _, rfl, ite2 (fun e => ?_) (fun e => ?_)⟩
          · have n35 : 0 < ms.length := sN_len (fun z => by rw [z] at e; exact absurd e (by decide))
            refine ⟨_, rfl, h, c, _, _, 2, _, rfl, by decide, by decide, A, fun s36 k36 cs36 r36 H36 r360 r361 A36 B36 => ⟨rfl, _, rfl, ite2 (fun e => ?_) (fun e => ?_)⟩⟩
            · skip
              have tt36 := B36.tups A
              have el := B36 _ _ el nlh nlc
              have em := B36 _ _ em nmh nmc
              have Xb := Xb.stay tt36
              have Xo := Xo.stay tt36
              have B := B.trans B36
              have A := A36
              refine ⟨_, rfl, _, rfl, _, rfl, m, _, rfl, .inl (SqL.of em), h, c, _, _, _, _, rfl, by rw [List.length_map]; omega, by rw [List.length_map]; omega, A, fun s37 k37 cs37 x37 H37 x370 x377 A37 B37 => ?_⟩
              rw [List.length_map] at x377
              have hx37 : x37.toNat < ms.length := by omega
              have tt37 := B37.tups A
              have el := B37 _ _ el nlh nlc
              have em := B37 _ _ em nmh nmc
              have Xb := Xb.stay tt37
              refine ⟨m, _, _, .str ms[x37.toNat], rfl, rfl, SqL.of em, at_of (j := x37.toNat) (by omega) (by rw [List.getElem?_map, List.getElem?_eq_getElem hx37]; rfl), (by show 2 ≤ sizeLine; decide), fun t37 nt37 => ?_⟩
              have u37 : Same H37 (upd H37 t37 (.tup [.str "name", .str ms[x37.toNat]])) := same_upd nt37
              have Xp : ExAt K (upd H37 t37 (.tup [.str "name", .str ms[x37.toNat]])) t37 (.name ms[x37.toNat]) := SqT.of upd_same
              have okp : ExOk ns 0 (.name ms[x37.toNat]) := ExOk.name (hm _ (List.getElem_mem hx37)) _
              have A := A37.same u37
              have el := u37 _ _ el
              have em := u37 _ _ em
              have Xb := Xb.stay (TupsStay.same u37)
              have B := (B.trans B37).same u37
              generalize (upd H37 t37 (.tup [.str "name", .str ms[x37.toNat]])) = G37 at u37 Xp A el em B Xb
              refine ⟨_, rfl, h, c, _, _, 3, _, rfl, by decide, by decide, A, fun s38 k38 cs38 r38 H38 r380 r381 A38 B38 => ⟨rfl, _, rfl, ite2 (fun e => ?_) (fun e => ?_)⟩⟩
              · skip
                have tt38 := B38.tups A
                have el := B38 _ _ el nlh nlc
                have em := B38 _ _ em nmh nmc
                have Xb := Xb.stay tt38
                have Xp := Xp.stay tt38
                have B := B.trans B38
                have A := A38
                refine ⟨_, rfl, h, c, _, _, 4, _, rfl, by decide, by decide, A, fun s39 k39 cs39 r39 H39 r390 r391 A39 B39 => ⟨(by show 2 ≤ sizeLine; decide), fun t39 nt39 => ⟨_, rfl, (by show 3 ≤ sizeLine; decide), fun v39 nv39 => ?_⟩⟩⟩
                have tt39 := B39.tups A
                have el := B39 _ _ el nlh nlc
                have em := B39 _ _ em nmh nmc
                have Xb := Xb.stay tt39
                have Xp := Xp.stay tt39
                have u39 : Same H39 (upd H39 t39 (.tup [.str "num", .int r39])) := same_upd nt39
                have Xm : ExAt K (upd H39 t39 (.tup [.str "num", .int r39])) t39 (.num r39) := SqT.of upd_same
                have w39 : Same (upd H39 t39 (.tup [.str "num", .int r39])) (upd (upd H39 t39 (.tup [.str "num", .int r39])) v39 (.tup [.str "times", .ref t39, .ref t37])) := same_upd nv39
                have Xr : ExAt K (upd (upd H39 t39 (.tup [.str "num", .int r39])) v39 (.tup [.str "times", .ref t39, .ref t37])) v39 (.mul (.num r39) (.name ms[x37.toNat])) := ⟨t39, t37, SqT.of upd_same, Xm.stay (TupsStay.same w39), Xp.stay (TupsStay.same (u39.trans w39))⟩
                have okr : ExOk ns 1 (.mul (.num r39) (.name ms[x37.toNat])) := ⟨ExOk.num (by omega) _, okp⟩
                have A := A39.same (u39.trans w39)
                have Xb := Xb.stay (TupsStay.same (u39.trans w39))
                have B := (B.trans B39).same (u39.trans w39)
                refine ⟨_, rfl, _, rfl, (by show 3 ≤ sizeLine; decide), fun tz ntz => ?_⟩
                have sz : Same _ (upd _ tz (.tup [.str "add", .ref t13, .ref v39])) := same_upd ntz
                exact q _ _ _ tz (.add (.name ls[x13.toNat]) (.mul (.num r39) (.name ms[x37.toNat]))) _ (A.same sz) (B.same sz) ⟨t13, v39, SqT.of upd_same, Xb.stay (TupsStay.same sz), Xr.stay (TupsStay.same sz)⟩ ⟨okb.ups (by decide), okr.ups (by decide)⟩ ((one_name (List.getElem_mem hx13)).grow (oth_mul (r := r39) (by omega) (List.getElem_mem hx37)))
              · skip
                have tt38 := B38.tups A
                have el := B38 _ _ el nlh nlc
                have em := B38 _ _ em nmh nmc
                have Xb := Xb.stay tt38
                have Xp := Xp.stay tt38
                have B := B.trans B38
                have A := A38
                refine ⟨_, rfl, _, rfl, (by show 3 ≤ sizeLine; decide), fun tz ntz => ?_⟩
                have sz : Same _ (upd _ tz (.tup [.str "add", .ref t13, .ref t37])) := same_upd ntz
                exact q _ _ _ tz (.add (.name ls[x13.toNat]) (.name ms[x37.toNat])) _ (A.same sz) (B.same sz) ⟨t13, t37, SqT.of upd_same, Xb.stay (TupsStay.same sz), Xp.stay (TupsStay.same sz)⟩ ⟨okb.ups (by decide), okp.ups (by decide)⟩ ((one_name (List.getElem_mem hx13)).grow (oth_name (List.getElem_mem hx37)))
            · skip
              have tt36 := B36.tups A
              have el := B36 _ _ el nlh nlc
              have em := B36 _ _ em nmh nmc
              have Xb := Xb.stay tt36
              have Xo := Xo.stay tt36
              have B := B.trans B36
              have A := A36
              refine ⟨_, rfl, _, rfl, (by show 3 ≤ sizeLine; decide), fun tz ntz => ?_⟩
              have sz : Same _ (upd _ tz (.tup [.str "add", .ref t13, .ref t34])) := same_upd ntz
              exact q _ _ _ tz (.add (.name ls[x13.toNat]) (.num v33)) _ (A.same sz) (B.same sz) ⟨t13, t34, SqT.of upd_same, Xb.stay (TupsStay.same sz), Xo.stay (TupsStay.same sz)⟩ ⟨okb.ups (by decide), oko.ups (by decide)⟩ ((one_name (List.getElem_mem hx13)).grow (oth_num (r := v33) (by rcases hv33 with z | z <;> omega)))
          · skip
            refine ⟨_, rfl, _, rfl, (by show 3 ≤ sizeLine; decide), fun tz ntz => ?_⟩
            have sz : Same _ (upd _ tz (.tup [.str "add", .ref t13, .ref t34])) := same_upd ntz
            exact q _ _ _ tz (.add (.name ls[x13.toNat]) (.num v33)) _ (A.same sz) (B.same sz) ⟨t13, t34, SqT.of upd_same, Xb.stay (TupsStay.same sz), Xo.stay (TupsStay.same sz)⟩ ⟨okb.ups (by decide), oko.ups (by decide)⟩ ((one_name (List.getElem_mem hx13)).grow (oth_num (r := v33) (by rcases hv33 with z | z <;> omega)))
      · skip
        have tt12 := B12.tups A
        have el := B12 _ _ el nlh nlc
        have em := B12 _ _ em nmh nmc
        have Xa := Xa.stay tt12
        have B := B.trans B12
        have A := A12
        refine ⟨_, rfl, h, c, _, _, 4, _, rfl, by decide, by decide, A, fun s30 k30 cs30 r30 H30 r300 r301 A30 B30 => ⟨_, rfl, h, c, _, _, 1000, _, rfl, by decide, by decide, A30, fun s31 k31 cs31 r31 H31 r310 r311 A31 B31 => ⟨(by show 2 ≤ sizeLine; decide), fun l32 nl32 => ?_⟩⟩⟩
        have n2h : l32 ≠ h := (ne_of_none A31.h nl32).symm
        have n2c : l32 ≠ c := (ne_of_none A31.c nl32).symm
        have B31' := B30.trans B31
        have tt30 := (B30.tups A).trans (B31.tups A30)
        have el := B31' _ _ el nlh nlc
        have em := B31' _ _ em nmh nmc
        have Xa := Xa.stay tt30
        have u32 : Same H31 (upd H31 l32 (.lst [.int r30, .int r31])) := same_upd nl32
        have e32 : (upd H31 l32 (.lst [.int r30, .int r31])) l32 = some (.lst [.int r30, .int r31]) := upd_same
        have A := A31.same u32
        have el := u32 _ _ el
        have em := u32 _ _ em
        have Xa := Xa.stay (TupsStay.same u32)
        have B := (B.trans B31').same u32
        generalize (upd H31 l32 (.lst [.int r30, .int r31])) = G32 at u32 e32 A el em B Xa
        refine ⟨_, rfl, h, c, _, _, 2, _, rfl, by decide, by decide, A, fun s33 k33 cs33 r33 H33 r330 r331 A33 B33 => ?_⟩
        obtain ⟨v33, hv33, at33⟩ := two_at r330 r331 r30 r31
        refine ⟨l32, _, _, _, rfl, rfl, SqL.of (B33 _ _ e32 n2h n2c), at33, (by show 2 ≤ sizeLine; decide), fun t34 nt34 => ?_⟩
        have tt33 := B33.tups A
        have el := B33 _ _ el nlh nlc
        have em := B33 _ _ em nmh nmc
        have Xa := Xa.stay tt33
        have u34 : Same H33 (upd H33 t34 (.tup [.str "num", .int v33])) := same_upd nt34
        have Xo : ExAt K (upd H33 t34 (.tup [.str "num", .int v33])) t34 (.num v33) := SqT.of upd_same
        have oko : ExOk ns 0 (.num v33) := ExOk.num (by rcases hv33 with z | z <;> omega) _
        have A := A33.same u34
        have el := u34 _ _ el
        have em := u34 _ _ em
        have Xa := Xa.stay (TupsStay.same u34)
        have B := (B.trans B33).same u34
        generalize (upd H33 t34 (.tup [.str "num", .int v33])) = G34 at u34 Xo A el em B Xa
        refine ⟨_, rfl, (by show 0 ≤ sizeLine; decide), fun l35 nl35 => ?_⟩
        have u35 : Same G34 (upd G34 l35 (.lst [])) := same_upd nl35
        have e35 : (upd G34 l35 (.lst [])) l35 = some (.lst []) := upd_same
        have A := A.same u35
        have el := u35 _ _ el
        have em := u35 _ _ em
        have Xa := Xa.stay (TupsStay.same u35)
        have Xo := Xo.stay (TupsStay.same u35)
        have B := B.same u35
        generalize (upd G34 l35 (.lst [])) = G35 at u35 e35 A el em B Xa Xo
        refine ⟨_, _, Dp.lst (SqL.of em) (dpStrs ms), Dp.lst (SqL.of e35) DpAll.nil, shapedStrs txm, by decide, _, rfl, ite2 (fun e => ?_) (fun e => ?_)⟩
        · have n35 : 0 < ms.length := sN_len (fun z => by rw [z] at e; exact absurd e (by decide))
          refine ⟨_, rfl, h, c, _, _, 2, _, rfl, by decide, by decide, A, fun s36 k36 cs36 r36 H36 r360 r361 A36 B36 => ⟨rfl, _, rfl, ite2 (fun e => ?_) (fun e => ?_)⟩⟩
          · skip
            have tt36 := B36.tups A
            have el := B36 _ _ el nlh nlc
            have em := B36 _ _ em nmh nmc
            have Xa := Xa.stay tt36
            have Xo := Xo.stay tt36
            have B := B.trans B36
            have A := A36
            refine ⟨_, rfl, _, rfl, _, rfl, m, _, rfl, .inl (SqL.of em), h, c, _, _, _, _, rfl, by rw [List.length_map]; omega, by rw [List.length_map]; omega, A, fun s37 k37 cs37 x37 H37 x370 x377 A37 B37 => ?_⟩
            rw [List.length_map] at x377
            have hx37 : x37.toNat < ms.length := by omega
            have tt37 := B37.tups A
            have el := B37 _ _ el nlh nlc
            have em := B37 _ _ em nmh nmc
            have Xa := Xa.stay tt37
            refine ⟨m, _, _, .str ms[x37.toNat], rfl, rfl, SqL.of em, at_of (j := x37.toNat) (by omega) (by rw [List.getElem?_map, List.getElem?_eq_getElem hx37]; rfl), (by show 2 ≤ sizeLine; decide), fun t37 nt37 => ?_⟩
            have u37 : Same H37 (upd H37 t37 (.tup [.str "name", .str ms[x37.toNat]])) := same_upd nt37
            have Xp : ExAt K (upd H37 t37 (.tup [.str "name", .str ms[x37.toNat]])) t37 (.name ms[x37.toNat]) := SqT.of upd_same
            have okp : ExOk ns 0 (.name ms[x37.toNat]) := ExOk.name (hm _ (List.getElem_mem hx37)) _
            have A := A37.same u37
            have el := u37 _ _ el
            have em := u37 _ _ em
            have Xa := Xa.stay (TupsStay.same u37)
            have B := (B.trans B37).same u37
            generalize (upd H37 t37 (.tup [.str "name", .str ms[x37.toNat]])) = G37 at u37 Xp A el em B Xa
            refine ⟨_, rfl, h, c, _, _, 3, _, rfl, by decide, by decide, A, fun s38 k38 cs38 r38 H38 r380 r381 A38 B38 => ⟨rfl, _, rfl, ite2 (fun e => ?_) (fun e => ?_)⟩⟩
            · skip
              have tt38 := B38.tups A
              have el := B38 _ _ el nlh nlc
              have em := B38 _ _ em nmh nmc
              have Xa := Xa.stay tt38
              have Xp := Xp.stay tt38
              have B := B.trans B38
              have A := A38
              refine ⟨_, rfl, h, c, _, _, 4, _, rfl, by decide, by decide, A, fun s39 k39 cs39 r39 H39 r390 r391 A39 B39 => ⟨(by show 2 ≤ sizeLine; decide), fun t39 nt39 => ⟨_, rfl, (by show 3 ≤ sizeLine; decide), fun v39 nv39 => ?_⟩⟩⟩
              have tt39 := B39.tups A
              have el := B39 _ _ el nlh nlc
              have em := B39 _ _ em nmh nmc
              have Xa := Xa.stay tt39
              have Xp := Xp.stay tt39
              have u39 : Same H39 (upd H39 t39 (.tup [.str "num", .int r39])) := same_upd nt39
              have Xm : ExAt K (upd H39 t39 (.tup [.str "num", .int r39])) t39 (.num r39) := SqT.of upd_same
              have w39 : Same (upd H39 t39 (.tup [.str "num", .int r39])) (upd (upd H39 t39 (.tup [.str "num", .int r39])) v39 (.tup [.str "times", .ref t39, .ref t37])) := same_upd nv39
              have Xr : ExAt K (upd (upd H39 t39 (.tup [.str "num", .int r39])) v39 (.tup [.str "times", .ref t39, .ref t37])) v39 (.mul (.num r39) (.name ms[x37.toNat])) := ⟨t39, t37, SqT.of upd_same, Xm.stay (TupsStay.same w39), Xp.stay (TupsStay.same (u39.trans w39))⟩
              have okr : ExOk ns 1 (.mul (.num r39) (.name ms[x37.toNat])) := ⟨ExOk.num (by omega) _, okp⟩
              have A := A39.same (u39.trans w39)
              have Xa := Xa.stay (TupsStay.same (u39.trans w39))
              have B := (B.trans B39).same (u39.trans w39)
              refine ⟨_, rfl, _, rfl, (by show 3 ≤ sizeLine; decide), fun tz ntz => ?_⟩
              have sz : Same _ (upd _ tz (.tup [.str "add", .ref t10, .ref v39])) := same_upd ntz
              exact q _ _ _ tz (.add (.num r10) (.mul (.num r39) (.name ms[x37.toNat]))) _ (A.same sz) (B.same sz) ⟨t10, v39, SqT.of upd_same, Xa.stay (TupsStay.same sz), Xr.stay (TupsStay.same sz)⟩ ⟨oka.ups (by decide), okr.ups (by decide)⟩ ((one_num (r := r10) (by omega)).grow (oth_mul (r := r39) (by omega) (List.getElem_mem hx37)))
            · skip
              have tt38 := B38.tups A
              have el := B38 _ _ el nlh nlc
              have em := B38 _ _ em nmh nmc
              have Xa := Xa.stay tt38
              have Xp := Xp.stay tt38
              have B := B.trans B38
              have A := A38
              refine ⟨_, rfl, _, rfl, (by show 3 ≤ sizeLine; decide), fun tz ntz => ?_⟩
              have sz : Same _ (upd _ tz (.tup [.str "add", .ref t10, .ref t37])) := same_upd ntz
              exact q _ _ _ tz (.add (.num r10) (.name ms[x37.toNat])) _ (A.same sz) (B.same sz) ⟨t10, t37, SqT.of upd_same, Xa.stay (TupsStay.same sz), Xp.stay (TupsStay.same sz)⟩ ⟨oka.ups (by decide), okp.ups (by decide)⟩ ((one_num (r := r10) (by omega)).grow (oth_name (List.getElem_mem hx37)))
          · skip
            have tt36 := B36.tups A
            have el := B36 _ _ el nlh nlc
            have em := B36 _ _ em nmh nmc
            have Xa := Xa.stay tt36
            have Xo := Xo.stay tt36
            have B := B.trans B36
            have A := A36
            refine ⟨_, rfl, _, rfl, (by show 3 ≤ sizeLine; decide), fun tz ntz => ?_⟩
            have sz : Same _ (upd _ tz (.tup [.str "add", .ref t10, .ref t34])) := same_upd ntz
            exact q _ _ _ tz (.add (.num r10) (.num v33)) _ (A.same sz) (B.same sz) ⟨t10, t34, SqT.of upd_same, Xa.stay (TupsStay.same sz), Xo.stay (TupsStay.same sz)⟩ ⟨oka.ups (by decide), oko.ups (by decide)⟩ ((one_num (r := r10) (by omega)).grow (oth_num (r := v33) (by rcases hv33 with z | z <;> omega)))
        · skip
          refine ⟨_, rfl, _, rfl, (by show 3 ≤ sizeLine; decide), fun tz ntz => ?_⟩
          have sz : Same _ (upd _ tz (.tup [.str "add", .ref t10, .ref t34])) := same_upd ntz
          exact q _ _ _ tz (.add (.num r10) (.num v33)) _ (A.same sz) (B.same sz) ⟨t10, t34, SqT.of upd_same, Xa.stay (TupsStay.same sz), Xo.stay (TupsStay.same sz)⟩ ⟨oka.ups (by decide), oko.ups (by decide)⟩ ((one_num (r := r10) (by omega)).grow (oth_num (r := v33) (by rcases hv33 with z | z <;> omega)))
    · skip
      refine ⟨_, rfl, h, c, _, _, 4, _, rfl, by decide, by decide, A, fun s30 k30 cs30 r30 H30 r300 r301 A30 B30 => ⟨_, rfl, h, c, _, _, 1000, _, rfl, by decide, by decide, A30, fun s31 k31 cs31 r31 H31 r310 r311 A31 B31 => ⟨(by show 2 ≤ sizeLine; decide), fun l32 nl32 => ?_⟩⟩⟩
      have n2h : l32 ≠ h := (ne_of_none A31.h nl32).symm
      have n2c : l32 ≠ c := (ne_of_none A31.c nl32).symm
      have B31' := B30.trans B31
      have tt30 := (B30.tups A).trans (B31.tups A30)
      have el := B31' _ _ el nlh nlc
      have em := B31' _ _ em nmh nmc
      have Xa := Xa.stay tt30
      have u32 : Same H31 (upd H31 l32 (.lst [.int r30, .int r31])) := same_upd nl32
      have e32 : (upd H31 l32 (.lst [.int r30, .int r31])) l32 = some (.lst [.int r30, .int r31]) := upd_same
      have A := A31.same u32
      have el := u32 _ _ el
      have em := u32 _ _ em
      have Xa := Xa.stay (TupsStay.same u32)
      have B := (B.trans B31').same u32
      generalize (upd H31 l32 (.lst [.int r30, .int r31])) = G32 at u32 e32 A el em B Xa
      refine ⟨_, rfl, h, c, _, _, 2, _, rfl, by decide, by decide, A, fun s33 k33 cs33 r33 H33 r330 r331 A33 B33 => ?_⟩
      obtain ⟨v33, hv33, at33⟩ := two_at r330 r331 r30 r31
      refine ⟨l32, _, _, _, rfl, rfl, SqL.of (B33 _ _ e32 n2h n2c), at33, (by show 2 ≤ sizeLine; decide), fun t34 nt34 => ?_⟩
      have tt33 := B33.tups A
      have el := B33 _ _ el nlh nlc
      have em := B33 _ _ em nmh nmc
      have Xa := Xa.stay tt33
      have u34 : Same H33 (upd H33 t34 (.tup [.str "num", .int v33])) := same_upd nt34
      have Xo : ExAt K (upd H33 t34 (.tup [.str "num", .int v33])) t34 (.num v33) := SqT.of upd_same
      have oko : ExOk ns 0 (.num v33) := ExOk.num (by rcases hv33 with z | z <;> omega) _
      have A := A33.same u34
      have el := u34 _ _ el
      have em := u34 _ _ em
      have Xa := Xa.stay (TupsStay.same u34)
      have B := (B.trans B33).same u34
      generalize (upd H33 t34 (.tup [.str "num", .int v33])) = G34 at u34 Xo A el em B Xa
      refine ⟨_, rfl, (by show 0 ≤ sizeLine; decide), fun l35 nl35 => ?_⟩
      have u35 : Same G34 (upd G34 l35 (.lst [])) := same_upd nl35
      have e35 : (upd G34 l35 (.lst [])) l35 = some (.lst []) := upd_same
      have A := A.same u35
      have el := u35 _ _ el
      have em := u35 _ _ em
      have Xa := Xa.stay (TupsStay.same u35)
      have Xo := Xo.stay (TupsStay.same u35)
      have B := B.same u35
      generalize (upd G34 l35 (.lst [])) = G35 at u35 e35 A el em B Xa Xo
      refine ⟨_, _, Dp.lst (SqL.of em) (dpStrs ms), Dp.lst (SqL.of e35) DpAll.nil, shapedStrs txm, by decide, _, rfl, ite2 (fun e => ?_) (fun e => ?_)⟩
      · have n35 : 0 < ms.length := sN_len (fun z => by rw [z] at e; exact absurd e (by decide))
        refine ⟨_, rfl, h, c, _, _, 2, _, rfl, by decide, by decide, A, fun s36 k36 cs36 r36 H36 r360 r361 A36 B36 => ⟨rfl, _, rfl, ite2 (fun e => ?_) (fun e => ?_)⟩⟩
        · skip
          have tt36 := B36.tups A
          have el := B36 _ _ el nlh nlc
          have em := B36 _ _ em nmh nmc
          have Xa := Xa.stay tt36
          have Xo := Xo.stay tt36
          have B := B.trans B36
          have A := A36
          refine ⟨_, rfl, _, rfl, _, rfl, m, _, rfl, .inl (SqL.of em), h, c, _, _, _, _, rfl, by rw [List.length_map]; omega, by rw [List.length_map]; omega, A, fun s37 k37 cs37 x37 H37 x370 x377 A37 B37 => ?_⟩
          rw [List.length_map] at x377
          have hx37 : x37.toNat < ms.length := by omega
          have tt37 := B37.tups A
          have el := B37 _ _ el nlh nlc
          have em := B37 _ _ em nmh nmc
          have Xa := Xa.stay tt37
          refine ⟨m, _, _, .str ms[x37.toNat], rfl, rfl, SqL.of em, at_of (j := x37.toNat) (by omega) (by rw [List.getElem?_map, List.getElem?_eq_getElem hx37]; rfl), (by show 2 ≤ sizeLine; decide), fun t37 nt37 => ?_⟩
          have u37 : Same H37 (upd H37 t37 (.tup [.str "name", .str ms[x37.toNat]])) := same_upd nt37
          have Xp : ExAt K (upd H37 t37 (.tup [.str "name", .str ms[x37.toNat]])) t37 (.name ms[x37.toNat]) := SqT.of upd_same
          have okp : ExOk ns 0 (.name ms[x37.toNat]) := ExOk.name (hm _ (List.getElem_mem hx37)) _
          have A := A37.same u37
          have el := u37 _ _ el
          have em := u37 _ _ em
          have Xa := Xa.stay (TupsStay.same u37)
          have B := (B.trans B37).same u37
          generalize (upd H37 t37 (.tup [.str "name", .str ms[x37.toNat]])) = G37 at u37 Xp A el em B Xa
          refine ⟨_, rfl, h, c, _, _, 3, _, rfl, by decide, by decide, A, fun s38 k38 cs38 r38 H38 r380 r381 A38 B38 => ⟨rfl, _, rfl, ite2 (fun e => ?_) (fun e => ?_)⟩⟩
          · skip
            have tt38 := B38.tups A
            have el := B38 _ _ el nlh nlc
            have em := B38 _ _ em nmh nmc
            have Xa := Xa.stay tt38
            have Xp := Xp.stay tt38
            have B := B.trans B38
            have A := A38
            refine ⟨_, rfl, h, c, _, _, 4, _, rfl, by decide, by decide, A, fun s39 k39 cs39 r39 H39 r390 r391 A39 B39 => ⟨(by show 2 ≤ sizeLine; decide), fun t39 nt39 => ⟨_, rfl, (by show 3 ≤ sizeLine; decide), fun v39 nv39 => ?_⟩⟩⟩
            have tt39 := B39.tups A
            have el := B39 _ _ el nlh nlc
            have em := B39 _ _ em nmh nmc
            have Xa := Xa.stay tt39
            have Xp := Xp.stay tt39
            have u39 : Same H39 (upd H39 t39 (.tup [.str "num", .int r39])) := same_upd nt39
            have Xm : ExAt K (upd H39 t39 (.tup [.str "num", .int r39])) t39 (.num r39) := SqT.of upd_same
            have w39 : Same (upd H39 t39 (.tup [.str "num", .int r39])) (upd (upd H39 t39 (.tup [.str "num", .int r39])) v39 (.tup [.str "times", .ref t39, .ref t37])) := same_upd nv39
            have Xr : ExAt K (upd (upd H39 t39 (.tup [.str "num", .int r39])) v39 (.tup [.str "times", .ref t39, .ref t37])) v39 (.mul (.num r39) (.name ms[x37.toNat])) := ⟨t39, t37, SqT.of upd_same, Xm.stay (TupsStay.same w39), Xp.stay (TupsStay.same (u39.trans w39))⟩
            have okr : ExOk ns 1 (.mul (.num r39) (.name ms[x37.toNat])) := ⟨ExOk.num (by omega) _, okp⟩
            have A := A39.same (u39.trans w39)
            have Xa := Xa.stay (TupsStay.same (u39.trans w39))
            have B := (B.trans B39).same (u39.trans w39)
            refine ⟨_, rfl, _, rfl, (by show 3 ≤ sizeLine; decide), fun tz ntz => ?_⟩
            have sz : Same _ (upd _ tz (.tup [.str "add", .ref t10, .ref v39])) := same_upd ntz
            exact q _ _ _ tz (.add (.num r10) (.mul (.num r39) (.name ms[x37.toNat]))) _ (A.same sz) (B.same sz) ⟨t10, v39, SqT.of upd_same, Xa.stay (TupsStay.same sz), Xr.stay (TupsStay.same sz)⟩ ⟨oka.ups (by decide), okr.ups (by decide)⟩ ((one_num (r := r10) (by omega)).grow (oth_mul (r := r39) (by omega) (List.getElem_mem hx37)))
          · skip
            have tt38 := B38.tups A
            have el := B38 _ _ el nlh nlc
            have em := B38 _ _ em nmh nmc
            have Xa := Xa.stay tt38
            have Xp := Xp.stay tt38
            have B := B.trans B38
            have A := A38
            refine ⟨_, rfl, _, rfl, (by show 3 ≤ sizeLine; decide), fun tz ntz => ?_⟩
            have sz : Same _ (upd _ tz (.tup [.str "add", .ref t10, .ref t37])) := same_upd ntz
            exact q _ _ _ tz (.add (.num r10) (.name ms[x37.toNat])) _ (A.same sz) (B.same sz) ⟨t10, t37, SqT.of upd_same, Xa.stay (TupsStay.same sz), Xp.stay (TupsStay.same sz)⟩ ⟨oka.ups (by decide), okp.ups (by decide)⟩ ((one_num (r := r10) (by omega)).grow (oth_name (List.getElem_mem hx37)))
        · skip
          have tt36 := B36.tups A
          have el := B36 _ _ el nlh nlc
          have em := B36 _ _ em nmh nmc
          have Xa := Xa.stay tt36
          have Xo := Xo.stay tt36
          have B := B.trans B36
          have A := A36
          refine ⟨_, rfl, _, rfl, (by show 3 ≤ sizeLine; decide), fun tz ntz => ?_⟩
          have sz : Same _ (upd _ tz (.tup [.str "add", .ref t10, .ref t34])) := same_upd ntz
          exact q _ _ _ tz (.add (.num r10) (.num v33)) _ (A.same sz) (B.same sz) ⟨t10, t34, SqT.of upd_same, Xa.stay (TupsStay.same sz), Xo.stay (TupsStay.same sz)⟩ ⟨oka.ups (by decide), oko.ups (by decide)⟩ ((one_num (r := r10) (by omega)).grow (oth_num (r := v33) (by rcases hv33 with z | z <;> omega)))
      · skip
        refine ⟨_, rfl, _, rfl, (by show 3 ≤ sizeLine; decide), fun tz ntz => ?_⟩
        have sz : Same _ (upd _ tz (.tup [.str "add", .ref t10, .ref t34])) := same_upd ntz
        exact q _ _ _ tz (.add (.num r10) (.num v33)) _ (A.same sz) (B.same sz) ⟨t10, t34, SqT.of upd_same, Xa.stay (TupsStay.same sz), Xo.stay (TupsStay.same sz)⟩ ⟨oka.ups (by decide), oko.ups (by decide)⟩ ((one_num (r := r10) (by omega)).grow (oth_num (r := v33) (by rcases hv33 with z | z <;> omega)))
end
/-! ### drawn laps and rows -/
theorem cut_sub (ns : List Str) (a b : Option Int) : ∃ ys : List Str, cutV (ns.map V.str) a b = ys.map V.str ∧ (∀ y ∈ ys, y ∈ ns) ∧ ys.length ≤ ns.length := by
  unfold cutV
  rw [← List.map_drop, ← List.map_take]
  refine ⟨_, rfl, fun y hy => List.mem_of_mem_drop (List.mem_of_mem_take hy), ?_⟩
  rw [List.length_take, List.length_drop]
  omega
theorem TextsOk.sub {ns ms : List Str} (h : TextsOk ns) (s : ∀ y ∈ ms, y ∈ ns) : TextsOk ms := fun x hx => h x (s x hx)
theorem at_name {ns : List Str} (h7 : ns.length = 7) {i : Int} (h0 : 0 ≤ i) (h1 : i < 7) : ∃ x, x ∈ ns ∧ atI (ns.map V.str) i = some (.str x) := by
  have hx : i.toNat < ns.length := by omega
  refine ⟨ns[i.toNat], List.getElem_mem hx, at_of (j := i.toNat) (by omega) ?_⟩
  rw [List.getElem?_map, List.getElem?_eq_getElem hx]
  rfl
theorem StsAt.app' {K : PySem.W.Frag} {H : Hp} {r s : Rw} {qs rs : List Addr} (hs : StsAt K H s rs) (hr : StsAt K H r qs) : StsAt K H (appR r s) (qs ++ rs) := StsAt.app hs hr
def SqL1 (K : PySem.W.Frag) (H : Hp) (p : Addr) (qs : List Addr) : Prop := SqT K H p (qs.map V.ref)
theorem SqL1.stay {K : PySem.W.Frag} {H H' : Hp} {p : Addr} {qs : List Addr} (h : SqL1 K H p qs) (s : TupsStay H H') : SqL1 K H' p qs := SqT.keeps h s
section
variable {P : Program} {w : World} {K : PySem.W.Frag} {mg : Str → Option Value} {base : Heap} {C : Addr}
def spRow (K : PySem.W.Frag) (n : Nat) : Sp := fun vs H Q _ => ∃ (h c l : Addr) (s k : Int) (cs : List Int) (ns : List Str) (d : Nat) (odd : Bool), vs = [.ref h, .ref l, .int (d : Int), .bl odd] ∧ d + n = 3 ∧ HAt H h c s k cs ∧ H l = some (.lst (ns.map V.str)) ∧ l ≠ h ∧ l ≠ c ∧ ns.length = 7 ∧ TextsOk ns ∧
  ∀ (s' k' : Int) (cs' : List Int) (p : Addr) (rw_ : Rw) (H' : Hp), HAt H' h c s' k' cs' → But h c H H' → RwAt K H' p rw_ → RwOk ns rw_ n → RwT ns rw_ → lenR rw_ ≤ 6 → 1 ≤ lenR rw_ → Q (.ref p) H'
def spLap (K : PySem.W.Frag) (n : Nat) : Sp := fun vs H Q _ => ∃ (h c l : Addr) (s k : Int) (cs : List Int) (ns : List Str) (d : Nat) (odd : Bool), vs = [.ref h, .ref l, .int (d : Int), .bl odd] ∧ d + n = 3 ∧ 1 ≤ n ∧ HAt H h c s k cs ∧ H l = some (.lst (ns.map V.str)) ∧ l ≠ h ∧ l ≠ c ∧ ns.length = 7 ∧ TextsOk ns ∧
  ∀ (s' k' : Int) (cs' : List Int) (p : Addr) (x : Str) (m : Ex) (b : Rw) (H' : Hp), HAt H' h c s' k' cs' → But h c H H' → StsAt K H' (.lap x m b .nil) [p] → RwOk ns (.lap x m b .nil) n → RwT ns (.lap x m b .nil) → Q (.ref p) H'
theorem fn_or {CX : CXT} {k : Nat} {f : Addr} {fd : FuncData} {ps : List Str} {sp sp' : Sp} (F : FnOk P w K mg base CX k f fd ps sp) (G : FnOk P w K mg base CX k f fd ps sp') : FnOk P w K mg base CX k f fd ps (fun vs H Q E => sp vs H Q E ∨ sp' vs H Q E) :=
  ⟨fun vs H Q E q => q.elim (F.len vs H Q E) (G.len vs H Q E), fun A outer s H args us vs Q E hr he hb hv hs => hs.elim (F.run A outer s H args us vs Q E hr he hb hv) (G.run A outer s H args us vs Q E hr he hb hv)⟩
set_option maxHeartbeats 4000000 in
theorem ok_law_lap {f f0 : Addr} {fd fd0 : FuncData} {n : Nat} (T : Txt K mg C) (F : DefAt K mg "_law_lap" "_law_lap" s_law_lap ["_law_h", "_law_names_here", "_law_depth", "_law_odd"] f fd) (D_law_row : DefAt K mg "_law_row" "_law_row" s_law_row ["_law_h", "_law_names_here", "_law_depth", "_law_odd"] f0 fd0)
    (G0 : FnOk P w K mg base CX0 6 f0 fd0 ["_law_h", "_law_names_here", "_law_depth", "_law_odd"] (spRow K 0)) (G1 : FnOk P w K mg base CX0 (2 * n + 6) f0 fd0 ["_law_h", "_law_names_here", "_law_depth", "_law_odd"] (spRow K n)) :
    FnOk P w K mg base CX0 (2 * n + 7) f fd ["_law_h", "_law_names_here", "_law_depth", "_law_odd"] (spLap K (n + 1)) := by
  have G_law_row := fn_or (G0.mono (by omega : 6 ≤ 2 * n + 6)) G1
  obtain ⟨f1, fd1, D_law_next⟩ := T.d_law_next
  have G_law_next : FnOk P w K mg base CX0 1 f1 fd1 ["_law_h", "_law_many"] spNext := ok_law_next T D_law_next
  obtain ⟨f2, fd2, D_law_measure⟩ := T.d_law_measure
  have G_law_measure : FnOk P w K mg base CX0 2 f2 fd2 ["_law_h", "_law_guard", "_law_calm"] (spMeas K) := ok_law_measure T D_law_measure
  refine F.F.ok sc_law_lap (fun vs H Q E h => ?_) (fun cdv A outer s H vs Q E hr h => ?_)
  · obtain ⟨h, c, l, s, k, cs, ns, d, odd, rfl, _⟩ := h
    rfl
  · obtain ⟨h, c, l, z, k, cs, ns, d, odd, rfl, hd, _, A, el, nlh, nlc, h7, tx, q⟩ := h
    refine ⟨_, (pss_cons (ps_set (i := 4) sc_law_lap.nd rfl (.inl rfl) (pe_ix ix_list (pv 1) (pv 2) (fun _ _ => rfl)))
      (pss_cons (ps_if (PW.pt (pw_and (pt_val (pv 3)) (pw_and1 (pt_cmpR op_eq (pe_call G_law_next (hr.mono (by omega)) (by rfl) D_law_next.g D_law_next.F.kp D_law_next.b .nil pass0 (pa_cons (pv 0) (pa_cons pe_int pa_nil))) pe_int (nomark _))))) (pss_cons (ps_set (i := 5) sc_law_lap.nd rfl (.inl rfl) (pe_call G_law_row (hr.mono (by omega)) (by rfl) D_law_row.g D_law_row.F.kp D_law_row.b .nil pass0 (pa_cons (pv 0) (pa_cons (pv 1) (pa_cons pe_int (pa_cons (pv 3) pa_nil)))))) (pss_cons (ps_set (i := 6) sc_law_lap.nd rfl (.inl rfl) (pe_tup (pa_cons pe_str (pa_cons (pe_ix ix_list (pv 1) pe_int (fun _ _ => rfl)) pa_nil)))) (pss_cons (ps_set (i := 7) sc_law_lap.nd rfl (.inl rfl) (pe_tup (pa_cons (pe_tup (pa_cons pe_str (pa_cons (pv 4) (pa_cons (pe_tup (pa_cons pe_str (pa_cons (pv 6) (pa_cons (pe_tup (pa_cons pe_str (pa_cons (pv 4) pa_nil))) pa_nil)))) pa_nil)))) (pa_cons (pe_tup (pa_cons pe_str (pa_cons (pe_ix ix_list (pv 1) pe_int (fun _ _ => rfl)) (pa_cons (pe_tup (pa_cons pe_str (pa_cons pe_int pa_nil))) pa_nil)))) pa_nil)))) (pss_one (ps_ret (pe_tup (pa_cons pe_str (pa_cons (pv 4) (pa_cons (pe_tup (pa_cons pe_str (pa_cons (pe_tup (pa_cons pe_str (pa_cons (pv 4) pa_nil))) (pa_cons (pv 6) pa_nil)))) (pa_cons (pe_tup (pa_cons pe_str (pa_cons (pe_op op_catT (pe_ix ix_tup (pv 5) pe_int (fun _ _ => rfl)) (pv 7)) pa_nil))) pa_nil)))))))))) pss_nil)
      (pss_one (ps_ret (pe_tup (pa_cons pe_str (pa_cons (pv 4) (pa_cons (pe_call G_law_measure (hr.mono (by omega)) (by rfl) D_law_measure.g D_law_measure.F.kp D_law_measure.b .nil pass0 (pa_cons (pv 0) (pa_cons (pv 4) (pa_cons (pe_slice sl_list (pv 1) po_none (po_some (pv 2))) pa_nil)))) (pa_cons (pe_call G_law_row (hr.mono (by omega)) (by rfl) D_law_row.g D_law_row.F.kp D_law_row.b .nil pass0 (pa_cons (pv 0) (pa_cons (pv 1) (pa_cons (pe_op op_add (pv 2) pe_int) (pa_cons (pv 3) pa_nil))))) pa_nil))))))))), ?_⟩
    obtain ⟨g, hg, gg, atg⟩ := at_guard h7 (i := (d : Int)) (by omega)
    obtain ⟨y, hy, gy, aty⟩ := at_guard h7 (i := 6) (by omega)
    have len7 : 7 ≤ sizeLine := by rw [sizeLine_eq]; decide
    refine ⟨_, rfl, _, rfl, l, _, _, _, rfl, rfl, SqL.of el, atg, ?_⟩
    have B := But.refl h c H
    refine ⟨_, rfl, _, rfl, ?_⟩
    cases odd with
    | false =>
      simp only [Bool.false_eq_true, ↓reduceIte]
      refine ⟨_, rfl, _, rfl, _, rfl, _, rfl, _, rfl, (d : Int), rfl, l, _, rfl, SqL.of el, fun ls nls => ?_⟩
      obtain ⟨ys, ey, sy, ly⟩ := cut_sub ns none (some (d : Int))
      rw [ey]
      have uls : Same H (upd H ls (.lst (ys.map V.str))) := same_upd nls
      have nlsh : ls ≠ h := (ne_of_none A.h nls).symm
      have nlsc : ls ≠ c := (ne_of_none A.c nls).symm
      have A := A.same uls
      have el := uls _ _ el
      have B := B.same uls
      refine ⟨h, c, ls, _, _, _, g, ys, ns, rfl, A, upd_same, nlsh, nlsc, by omega, tx.sub sy, hg, sy, fun s5 k5 cs5 pm m H5 A5 B5 Xm okm => ?_⟩
      have el := B5 _ _ el nlh nlc
      refine ⟨_, rfl, _, rfl, _, rfl, _, _, rfl, rfl, _, rfl, .inr ⟨h, c, l, _, _, _, ns, d + 1, _, rfl, by omega, A5, el, nlh, nlc, h7, tx, fun s6 k6 cs6 pb b H6 A6 B6 Rb okb tb lb _ => ⟨(by show 4 ≤ sizeLine; decide), fun p np => ?_⟩⟩⟩
      have up : Same H6 (upd H6 p (.tup [.str "lap", .str g, .ref pm, .ref pb])) := same_upd np
      obtain ⟨pt, qb, r1, r2, r3⟩ := Rb.stay (TupsStay.same up)
      exact q _ _ _ p g m b _ (A6.same up) (((B.trans B5).trans B6).same up) ⟨p, [], pm, pb, pt, qb, rfl, SqT.of upd_same, (Xm.stay (B6.tups A5)).stay (TupsStay.same up), r1, r2, r3, rfl⟩ ⟨hg, okm.ups (by decide), by omega, by omega, okb, True.intro⟩ ⟨gg, okm, tb, True.intro⟩
    | true =>
      simp only [↓reduceIte]
      refine ⟨_, rfl, h, c, _, _, 3, _, rfl, by decide, by decide, A, fun s2 k2 cs2 r2 H2 r20 r23 A2 B2 => ⟨rfl, _, rfl, ite2 (fun e => ?_) (fun e => ?_)⟩⟩
      · skip
        have tt2 := B2.tups A
        have el := B2 _ _ el nlh nlc
        have B := B.trans B2
        have A := A2
        refine ⟨_, rfl, _, rfl, _, rfl, .inl ⟨h, c, l, _, _, _, ns, 3, _, rfl, by omega, A, el, nlh, nlc, h7, tx, fun s3 k3 cs3 pi b0 H3 A3 B3 R0 ok0 tm0 l0 l1 => ?_⟩⟩
        have el := B3 _ _ el nlh nlc
        have B := B.trans B3
        have A := A3
        refine ⟨_, rfl, l, _, _, _, rfl, rfl, SqL.of el, aty, (by show 2 ≤ sizeLine; decide), fun tl ntl => ?_⟩
        have utl : Same H3 (upd H3 tl (.tup [.str "name", .str y])) := same_upd ntl
        have Xl : ExAt K (upd H3 tl (.tup [.str "name", .str y])) tl (.name y) := SqT.of upd_same
        have A := A.same utl
        have el := utl _ _ el
        have R0 := R0.stay (TupsStay.same utl)
        have B := B.same utl
        generalize (upd H3 tl (.tup [.str "name", .str y])) = H_tl at utl A el B R0 Xl
        refine ⟨_, rfl, _, rfl, _, rfl, (by show 2 ≤ sizeLine; decide), fun tg ntg => ?_⟩
        have utg : Same H_tl (upd H_tl tg (.tup [.str "name", .str g])) := same_upd ntg
        have Xg : ExAt K (upd H_tl tg (.tup [.str "name", .str g])) tg (.name g) := SqT.of upd_same
        have A := A.same utg
        have el := utg _ _ el
        have R0 := R0.stay (TupsStay.same utg)
        have Xl := Xl.stay (TupsStay.same utg)
        have B := B.same utg
        generalize (upd H_tl tg (.tup [.str "name", .str g])) = H_tg at utg A el B R0 Xl Xg
        refine ⟨(by show 3 ≤ sizeLine; decide), fun ta nta => ?_⟩
        have uta : Same H_tg (upd H_tg ta (.tup [.str "add", .ref tl, .ref tg])) := same_upd nta
        have Xa : ExAt K (upd H_tg ta (.tup [.str "add", .ref tl, .ref tg])) ta (.add (.name y) (.name g)) := ⟨tl, tg, SqT.of upd_same, Xl.stay (TupsStay.same uta), Xg.stay (TupsStay.same uta)⟩
        have A := A.same uta
        have el := uta _ _ el
        have R0 := R0.stay (TupsStay.same uta)
        have Xl := Xl.stay (TupsStay.same uta)
        have Xg := Xg.stay (TupsStay.same uta)
        have B := B.same uta
        generalize (upd H_tg ta (.tup [.str "add", .ref tl, .ref tg])) = H_ta at uta A el B R0 Xl Xg Xa
        refine ⟨(by show 3 ≤ sizeLine; decide), fun ts nts => ?_⟩
        have uts : Same H_ta (upd H_ta ts (.tup [.str "set", .str g, .ref ta])) := same_upd nts
        have Xs : StsAt K (upd H_ta ts (.tup [.str "set", .str g, .ref ta])) (.set g (.add (.name y) (.name g)) .nil) [ts] := ⟨ts, [], ta, rfl, SqT.of upd_same, Xa.stay (TupsStay.same uts), rfl⟩
        have A := A.same uts
        have el := uts _ _ el
        have R0 := R0.stay (TupsStay.same uts)
        have Xl := Xl.stay (TupsStay.same uts)
        have Xg := Xg.stay (TupsStay.same uts)
        have Xa := Xa.stay (TupsStay.same uts)
        have B := B.same uts
        generalize (upd H_ta ts (.tup [.str "set", .str g, .ref ta])) = H_ts at uts A el B R0 Xl Xg Xa Xs
        refine ⟨_, rfl, l, _, _, _, rfl, rfl, SqL.of el, aty, (by show 2 ≤ sizeLine; decide), fun tz ntz => ?_⟩
        have utz : Same H_ts (upd H_ts tz (.tup [.str "num", .int 0])) := same_upd ntz
        have Xz : ExAt K (upd H_ts tz (.tup [.str "num", .int 0])) tz (.num 0) := SqT.of upd_same
        have A := A.same utz
        have el := utz _ _ el
        have R0 := R0.stay (TupsStay.same utz)
        have Xl := Xl.stay (TupsStay.same utz)
        have Xg := Xg.stay (TupsStay.same utz)
        have Xa := Xa.stay (TupsStay.same utz)
        have Xs := Xs.stay (TupsStay.same utz)
        have B := B.same utz
        generalize (upd H_ts tz (.tup [.str "num", .int 0])) = H_tz at utz A el B R0 Xl Xg Xa Xs Xz
        refine ⟨(by show 3 ≤ sizeLine; decide), fun tt ntt => ?_⟩
        have utt : Same H_tz (upd H_tz tt (.tup [.str "set", .str y, .ref tz])) := same_upd ntt
        have Xt : StsAt K (upd H_tz tt (.tup [.str "set", .str y, .ref tz])) (.set y (.num 0) .nil) [tt] := ⟨tt, [], tz, rfl, SqT.of upd_same, Xz.stay (TupsStay.same utt), rfl⟩
        have A := A.same utt
        have el := utt _ _ el
        have R0 := R0.stay (TupsStay.same utt)
        have Xl := Xl.stay (TupsStay.same utt)
        have Xg := Xg.stay (TupsStay.same utt)
        have Xa := Xa.stay (TupsStay.same utt)
        have Xs := Xs.stay (TupsStay.same utt)
        have Xz := Xz.stay (TupsStay.same utt)
        have B := B.same utt
        generalize (upd H_tz tt (.tup [.str "set", .str y, .ref tz])) = H_tt at utt A el B R0 Xl Xg Xa Xs Xz Xt
        have Xst := Xt.app' Xs
        refine ⟨(by show 2 ≤ sizeLine; decide), fun tm ntm => ?_⟩
        have utm : Same H_tt (upd H_tt tm (.tup [.ref ts, .ref tt])) := same_upd ntm
        have Xm : SqL1 K (upd H_tt tm (.tup [.ref ts, .ref tt])) tm [ts, tt] := SqT.of upd_same
        have A := A.same utm
        have el := utm _ _ el
        have R0 := R0.stay (TupsStay.same utm)
        have Xl := Xl.stay (TupsStay.same utm)
        have Xg := Xg.stay (TupsStay.same utm)
        have Xa := Xa.stay (TupsStay.same utm)
        have Xs := Xs.stay (TupsStay.same utm)
        have Xz := Xz.stay (TupsStay.same utm)
        have Xt := Xt.stay (TupsStay.same utm)
        have Xst := Xst.stay (TupsStay.same utm)
        have B := B.same utm
        generalize (upd H_tt tm (.tup [.ref ts, .ref tt])) = H_tm at utm A el B R0 Xl Xg Xa Xs Xz Xt Xst Xm
        refine ⟨_, rfl, _, rfl, (by show 2 ≤ sizeLine; decide), fun tu ntu => ?_⟩
        have utu : Same H_tm (upd H_tm tu (.tup [.str "name", .str g])) := same_upd ntu
        have Xu : ExAt K (upd H_tm tu (.tup [.str "name", .str g])) tu (.name g) := SqT.of upd_same
        have A := A.same utu
        have el := utu _ _ el
        have R0 := R0.stay (TupsStay.same utu)
        have Xl := Xl.stay (TupsStay.same utu)
        have Xg := Xg.stay (TupsStay.same utu)
        have Xa := Xa.stay (TupsStay.same utu)
        have Xs := Xs.stay (TupsStay.same utu)
        have Xz := Xz.stay (TupsStay.same utu)
        have Xt := Xt.stay (TupsStay.same utu)
        have Xst := Xst.stay (TupsStay.same utu)
        have Xm := Xm.stay (TupsStay.same utu)
        have B := B.same utu
        generalize (upd H_tm tu (.tup [.str "name", .str g])) = H_tu at utu A el B R0 Xl Xg Xa Xs Xz Xt Xst Xm Xu
        refine ⟨_, rfl, (by show 3 ≤ sizeLine; decide), fun tv ntv => ?_⟩
        have utv : Same H_tu (upd H_tu tv (.tup [.str "add", .ref tu, .ref tl])) := same_upd ntv
        have Xv : ExAt K (upd H_tu tv (.tup [.str "add", .ref tu, .ref tl])) tv (.add (.name g) (.name y)) := ⟨tu, tl, SqT.of upd_same, Xu.stay (TupsStay.same utv), Xl.stay (TupsStay.same utv)⟩
        have A := A.same utv
        have el := utv _ _ el
        have R0 := R0.stay (TupsStay.same utv)
        have Xl := Xl.stay (TupsStay.same utv)
        have Xg := Xg.stay (TupsStay.same utv)
        have Xa := Xa.stay (TupsStay.same utv)
        have Xs := Xs.stay (TupsStay.same utv)
        have Xz := Xz.stay (TupsStay.same utv)
        have Xt := Xt.stay (TupsStay.same utv)
        have Xst := Xst.stay (TupsStay.same utv)
        have Xm := Xm.stay (TupsStay.same utv)
        have Xu := Xu.stay (TupsStay.same utv)
        have B := B.same utv
        generalize (upd H_tu tv (.tup [.str "add", .ref tu, .ref tl])) = H_tv at utv A el B R0 Xl Xg Xa Xs Xz Xt Xst Xm Xu Xv
        obtain ⟨p0, q0, w1, w2, w3⟩ := id R0
        have lq := w3.len
        refine ⟨_, rfl, pi, _, _, _, rfl, rfl, w1, atI_nat (j := 1) rfl, _, rfl, p0, tm, _, _, rfl, rfl, w2, Xm, ?_, ?_, ?_⟩
        · intro z0
          have z1 := congrArg List.length z0
          rw [List.length_map, lq] at z1
          have z2 : lenR b0 = 0 := z1
          omega
        · rw [List.length_map, lq, List.length_map, sizeLine_eq]
          show lenR b0 + 2 ≤ _
          omega
        · refine ⟨fun z0 => (nomatch z0), fun _ pq npq => ⟨(by show 2 ≤ sizeLine; decide), fun pr npr => ⟨(by show 4 ≤ sizeLine; decide), fun p np => ?_⟩⟩⟩
          have g1 := same_upd (o := .tup (q0.map V.ref ++ [ts, tt].map V.ref)) npq
          have g2 := same_upd (o := .tup [.str "row", .ref pq]) npr
          have g3 := same_upd (o := .tup [.str "lap", .str g, .ref tv, .ref pr]) np
          have g123 := (g1.trans g2).trans g3
          have okb : RwOk ns (appR b0 (appR (.set g (.add (.name y) (.name g)) .nil) (.set y (.num 0) .nil))) n := RwOk.app (show RwOk ns (appR (.set g (.add (.name y) (.name g)) .nil) (.set y (.num 0) .nil)) n from ⟨hg, ⟨ExOk.name hy _, ExOk.name hg _⟩, hy, ExOk.num (by omega) _, True.intro⟩) (RwOk.up (Nat.zero_le _) ok0)
          have lb : lenR (appR b0 (appR (.set g (.add (.name y) (.name g)) .nil) (.set y (.num 0) .nil))) ≤ 8 := by
            rw [lenR_app]
            show lenR b0 + 2 ≤ 8
            omega
          have eqs : (q0 ++ ([ts] ++ [tt])).map V.ref = q0.map V.ref ++ [ts, tt].map V.ref := by rw [List.map_append]; rfl
          have w4 := (Xst.app' w3).stay (TupsStay.same g123)
          exact q _ _ _ p g (.add (.name g) (.name y)) _ _ (A.same g123) (B.same g123) ⟨p, [], tv, pr, pq, q0 ++ ([ts] ++ [tt]), rfl, SqT.of upd_same, Xv.stay (TupsStay.same g123), SqT.keeps (SqT.of upd_same) (TupsStay.same g3), by rw [eqs]; exact SqT.keeps (SqT.of upd_same) (TupsStay.same (g2.trans g3)), w4, rfl⟩ ⟨hg, ⟨ExOk.name hg _, ExOk.name hy _⟩, by omega, lb, okb, True.intro⟩ ⟨gg, ⟨ExOk.name hg _, ExOk.name hy _⟩, RwT.app (show RwT ns (appR (.set g (.add (.name y) (.name g)) .nil) (.set y (.num 0) .nil)) from ⟨.inl ⟨gg, grd_two gy gg⟩, .inl ⟨ExOk.name hy _, ExOk.name hg _⟩, .inl ⟨gy, grd_num (by omega)⟩, .inl (ExOk.num (by omega) _), True.intro⟩) tm0, True.intro⟩
      · skip
        have tt2 := B2.tups A
        have el := B2 _ _ el nlh nlc
        have B := B.trans B2
        have A := A2
        refine ⟨_, rfl, _, rfl, _, rfl, _, rfl, _, rfl, (d : Int), rfl, l, _, rfl, SqL.of el, fun ls nls => ?_⟩
        obtain ⟨ys, ey, sy, ly⟩ := cut_sub ns none (some (d : Int))
        rw [ey]
        have uls : Same H2 (upd H2 ls (.lst (ys.map V.str))) := same_upd nls
        have nlsh : ls ≠ h := (ne_of_none A.h nls).symm
        have nlsc : ls ≠ c := (ne_of_none A.c nls).symm
        have A := A.same uls
        have el := uls _ _ el
        have B := B.same uls
        refine ⟨h, c, ls, _, _, _, g, ys, ns, rfl, A, upd_same, nlsh, nlsc, by omega, tx.sub sy, hg, sy, fun s5 k5 cs5 pm m H5 A5 B5 Xm okm => ?_⟩
        have el := B5 _ _ el nlh nlc
        refine ⟨_, rfl, _, rfl, _, rfl, _, _, rfl, rfl, _, rfl, .inr ⟨h, c, l, _, _, _, ns, d + 1, _, rfl, by omega, A5, el, nlh, nlc, h7, tx, fun s6 k6 cs6 pb b H6 A6 B6 Rb okb tb lb _ => ⟨(by show 4 ≤ sizeLine; decide), fun p np => ?_⟩⟩⟩
        have up : Same H6 (upd H6 p (.tup [.str "lap", .str g, .ref pm, .ref pb])) := same_upd np
        obtain ⟨pt, qb, r1, r2, r3⟩ := Rb.stay (TupsStay.same up)
        exact q _ _ _ p g m b _ (A6.same up) (((B.trans B5).trans B6).same up) ⟨p, [], pm, pb, pt, qb, rfl, SqT.of upd_same, (Xm.stay (B6.tups A5)).stay (TupsStay.same up), r1, r2, r3, rfl⟩ ⟨hg, okm.ups (by decide), by omega, by omega, okb, True.intro⟩ ⟨gg, okm, tb, True.intro⟩
end
/-- what a row's loop keeps -/
structure RI (K : PySem.W.Frag) (H : Hp) (h c l lp lw : Addr) (ns ys : List Str) (n : Nat) (H2 : Hp) (qs : List Addr) (rw_ : Rw) : Prop where
  A : ∃ (s k : Int) (cs : List Int), HAt H2 h c s k cs
  el : H2 l = some (.lst (ns.map V.str))
  ep : H2 lp = some (.lst (qs.map V.ref))
  ew : H2 lw = some (.lst (ys.map V.str))
  st : StsAt K H2 rw_ qs
  ok : RwOk ns rw_ n
  tm : RwT ns rw_
  B : But h c H H2
structure Apart (H : Hp) (h c l lp lw : Addr) : Prop where
  ph : lp ≠ h
  pc : lp ≠ c
  pl : lp ≠ l
  pw : lp ≠ lw
  wh : lw ≠ h
  wc : lw ≠ c
  lh : l ≠ h
  lc : l ≠ c
  new : H lp = none
section
variable {P : Program} {w : World} {K : PySem.W.Frag} {mg : Str → Option Value} {base : Heap} {C : Addr}
theorem But.other {h c l : Addr} {H H1 H2 : Hp} (B : But h c H H1) (e : Else l H1 H2) (n : H l = none) : But h c H H2 := fun p o q nh nc => e p o (B p o q nh nc) (fun z => by rw [z, n] at q; cases q)
theorem RI.same {H H2 H3 : Hp} {h c l lp lw : Addr} {ns ys : List Str} {n : Nat} {qs : List Addr} {r : Rw} (I : RI K H h c l lp lw ns ys n H2 qs r) (u : Same H2 H3) : RI K H h c l lp lw ns ys n H3 qs r :=
  ⟨let ⟨s, k, cs, a⟩ := I.A; ⟨s, k, cs, a.same u⟩, u _ _ I.el, u _ _ I.ep, u _ _ I.ew, I.st.stay (TupsStay.same u), I.ok, I.tm, I.B.same u⟩
theorem RI.but {H H2 H3 : Hp} {h c l lp lw : Addr} {ns ys : List Str} {n : Nat} {qs : List Addr} {r : Rw} (I : RI K H h c l lp lw ns ys n H2 qs r) (D : Apart H h c l lp lw) {s k : Int} {cs : List Int} (A : HAt H3 h c s k cs) (B : But h c H2 H3) : RI K H h c l lp lw ns ys n H3 qs r :=
  let ⟨_, _, _, a⟩ := I.A
  ⟨⟨s, k, cs, A⟩, B _ _ I.el D.lh D.lc, B _ _ I.ep D.ph D.pc, B _ _ I.ew D.wh D.wc, I.st.stay (B.tups a), I.ok, I.tm, I.B.trans B⟩
theorem RI.fresh {H H2 : Hp} {h c l lp lw a : Addr} {ns ys : List Str} {n : Nat} {qs : List Addr} {r : Rw} (I : RI K H h c l lp lw ns ys n H2 qs r) (e : H2 a = none) (ah : a ≠ h) (ac : a ≠ c) : H a = none := by
  cases q : H a with
  | none => rfl
  | some o => rw [I.B a o q ah ac] at e; cases e
theorem RI.els {H H2 : Hp} {h c l lp lw a : Addr} {ns ys : List Str} {n : Nat} {qs : List Addr} {r : Rw} {u o : HO} (I : RI K H h c l lp lw ns ys n H2 qs r) (na : H a = none) (ah : a ≠ h) (ac : a ≠ c) (al : a ≠ l) (ap : a ≠ lp) (aw : a ≠ lw) (e : H2 a = some u) (nt : NotTup u) : RI K H h c l lp lw ns ys n (upd H2 a o) qs r :=
  ⟨let ⟨s, k, cs, x⟩ := I.A; ⟨s, k, cs, ⟨by rw [upd_ne ah.symm]; exact x.h, by rw [upd_ne ac.symm]; exact x.c, x.n⟩⟩, by rw [upd_ne al.symm]; exact I.el, by rw [upd_ne ap.symm]; exact I.ep, by rw [upd_ne aw.symm]; exact I.ew, I.st.stay (TupsStay.upd e nt), I.ok, I.tm, I.B.other Else.upd na⟩
theorem RI.tups {H H2 H3 : Hp} {h c l lp lw : Addr} {ns ys : List Str} {n : Nat} {qs : List Addr} {r : Rw} (I : RI K H h c l lp lw ns ys n H2 qs r) (B : But h c H2 H3) : TupsStay H2 H3 := let ⟨_, _, _, a⟩ := I.A; B.tups a
theorem RI.add {H H2 : Hp} {h c l lp lw : Addr} {ns ys : List Str} {n : Nat} {qs : List Addr} {r : Rw} (I : RI K H h c l lp lw ns ys n H2 qs r) (D : Apart H h c l lp lw) {one : Rw} {p : Addr} (st : StsAt K H2 one [p]) (ok : RwOk ns one n) (tm : RwT ns one) : RI K H h c l lp lw ns ys n (upd H2 lp (.lst (qs.map V.ref ++ [V.ref p]))) (qs ++ [p]) (appR r one) :=
  have t : TupsStay H2 (upd H2 lp (.lst (qs.map V.ref ++ [V.ref p]))) := TupsStay.upd I.ep True.intro
  ⟨let ⟨s, k, cs, a⟩ := I.A; ⟨s, k, cs, ⟨by rw [upd_ne D.ph.symm]; exact a.h, by rw [upd_ne D.pc.symm]; exact a.c, a.n⟩⟩, by rw [upd_ne D.pl.symm]; exact I.el, by rw [upd_same, List.map_append]; rfl, by rw [upd_ne D.pw.symm]; exact I.ew, StsAt.app (st.stay t) (I.st.stay t), RwOk.app ok I.ok, RwT.app tm I.tm, I.B.other Else.upd D.new⟩
def rowVars : List Str := ["_law_h", "_law_names_here", "_law_depth", "_law_odd", "_law_parts", "_law_low", "_law_laps", "_law_k", "_law_way", "_law_at", "_law_part_here", "_law_some"]
set_option maxHeartbeats 4000000 in
theorem ok_law_row {f f0 : Addr} {fd fd0 : FuncData} {n : Nat} (T : Txt K mg C) (F : DefAt K mg "_law_row" "_law_row" s_law_row ["_law_h", "_law_names_here", "_law_depth", "_law_odd"] f fd) (D_law_lap : DefAt K mg "_law_lap" "_law_lap" s_law_lap ["_law_h", "_law_names_here", "_law_depth", "_law_odd"] f0 fd0)
    (G_law_lap : FnOk P w K mg base CX0 (2 * n + 5) f0 fd0 ["_law_h", "_law_names_here", "_law_depth", "_law_odd"] (fun vs H Q E => 1 ≤ n ∧ spLap K n vs H Q E)) :
    FnOk P w K mg base CX0 (2 * n + 6) f fd ["_law_h", "_law_names_here", "_law_depth", "_law_odd"] (spRow K n) := by
  obtain ⟨f1, fd1, D_law_next⟩ := T.d_law_next
  have G_law_next : FnOk P w K mg base CX0 1 f1 fd1 ["_law_h", "_law_many"] spNext := ok_law_next T D_law_next
  obtain ⟨f2, fd2, D_law_grow⟩ := T.d_law_grow
  have G_law_grow : FnOk P w K mg base CX0 2 f2 fd2 ["_law_h", "_law_low", "_law_some"] (spGrow K) := ok_law_grow T D_law_grow
  obtain ⟨f3, fd3, D_law_part⟩ := T.d_law_part
  have G_law_part : FnOk P w K mg base CX0 5 f3 fd3 ["_law_h", "_law_some", "_law_deep"] (spPart K 3) := ok_law_part T D_law_part 3
  refine F.F.ok sc_law_row (fun vs H Q E h => ?_) (fun cdv A outer s H vs Q E hr h => ?_)
  · obtain ⟨h, c, l, s, k, cs, ns, d, odd, rfl, _⟩ := h
    rfl
  · obtain ⟨h, c, l, z, k, cs, ns, d, odd, rfl, hd, A, el, nlh, nlc, h7, tx, q⟩ := h
    refine ⟨_, (pss_cons (ps_set (i := 4) sc_law_row.nd rfl (.inl rfl) (pe_lst pa_nil))
      (pss_cons (ps_set (i := 5) sc_law_row.nd rfl (.inl rfl) (pe_slice sl_list (pv 1) po_none (po_some (pv 2))))
      (pss_cons (ps_set (i := 6) sc_law_row.nd rfl (.inl rfl) (pv 2))
      (pss_cons (ps_for PassesOwn.never rfl (pi_range1 rfl T.m_range (pa_cons (pe_op op_add pe_int (pe_call G_law_next (hr.mono (by omega)) (by rfl) D_law_next.g D_law_next.F.kp D_law_next.b .nil pass0 (pa_cons (pv 0) (pa_cons pe_int pa_nil)))) pa_nil)) (pg_name (i := 7) sc_law_row.nd rfl (.inl rfl)) (pss_cons (ps_set (i := 8) sc_law_row.nd rfl (.inl rfl) (pe_call G_law_next (hr.mono (by omega)) (by rfl) D_law_next.g D_law_next.F.kp D_law_next.b .nil pass0 (pa_cons (pv 0) (pa_cons pe_int pa_nil)))) (pss_one (ps_if (pt_cmpR op_lt (pv 8) pe_int (nomark _)) (pss_cons (ps_set (i := 9) sc_law_row.nd rfl (.inl rfl) (pe_op op_add pe_int (pe_call G_law_next (hr.mono (by omega)) (by rfl) D_law_next.g D_law_next.F.kp D_law_next.b .nil pass0 (pa_cons (pv 0) (pa_cons pe_int pa_nil))))) (pss_cons (ps_set (i := 10) sc_law_row.nd rfl (.inl rfl) (pe_call G_law_grow (hr.mono (by omega)) (by rfl) D_law_grow.g D_law_grow.F.kp D_law_grow.b .nil pass0 (pa_cons (pv 0) (pa_cons (pv 5) (pa_cons (pe_slice sl_list (pv 1) (po_some pe_int) (po_some (pv 9))) pa_nil))))) (pss_cons (ps_if (pt_cmpR op_gt (pe_call G_law_next (hr.mono (by omega)) (by rfl) D_law_next.g D_law_next.F.kp D_law_next.b .nil pass0 (pa_cons (pv 0) (pa_cons pe_int pa_nil))) pe_int (nomark _)) (pss_one (ps_set (i := 10) sc_law_row.nd rfl (.inl rfl) (pe_tup (pa_cons pe_str (pa_cons (pe_tup (pa_cons pe_str (pa_cons (pe_ix ix_list (pv 1) (pv 9) (fun _ _ => rfl)) pa_nil))) (pa_cons (pv 10) pa_nil)))))) pss_nil) (pss_one (ps_expr (pe_bm PySem.F.plainAttrs_list PySem.F.slot_list_append PySem.F.type_list_append mt_append (pv 4) (pa_cons (pe_tup (pa_cons pe_str (pa_cons (pe_ix ix_list (pv 1) (pv 9) (fun _ _ => rfl)) (pa_cons (pv 10) pa_nil)))) pa_nil))))))) (pss_one (ps_if (PW.pt (pw_or (pt_cmpR op_eq (pv 8) pe_int (nomark _)) (pw_or1 (pt_cmpR op_gt (pv 6) pe_int (nomark _))))) (pss_one (ps_expr (pe_bm PySem.F.plainAttrs_list PySem.F.slot_list_append PySem.F.type_list_append mt_append (pv 4) (pa_cons (pe_tup (pa_cons pe_str (pa_cons (pe_call G_law_part (hr.mono (by omega)) (by rfl) D_law_part.g D_law_part.F.kp D_law_part.b .nil pass0 (pa_cons (pv 0) (pa_cons (pe_op op_cat (pv 5) (pe_slice sl_list (pv 1) (po_some pe_int) (po_some pe_int))) (pa_cons pe_int pa_nil)))) pa_nil))) pa_nil)))) (pss_cons (ps_set (i := 6) sc_law_row.nd rfl (.inl rfl) pe_int) (pss_cons (ps_if (PW.pt (pw_or (pt_cmpR op_gt (pv 2) pe_int (nomark _)) (pw_or1 (pt_cmpR op_eq (pe_call G_law_next (hr.mono (by omega)) (by rfl) D_law_next.g D_law_next.F.kp D_law_next.b .nil pass0 (pa_cons (pv 0) (pa_cons pe_int pa_nil))) pe_int (nomark _))))) (pss_cons (ps_set (i := 11) sc_law_row.nd rfl (.inl rfl) (pe_lst (pa_cons (pe_tup (pa_cons pe_str (pa_cons (pe_call G_law_next (hr.mono (by omega)) (by rfl) D_law_next.g D_law_next.F.kp D_law_next.b .nil pass0 (pa_cons (pv 0) (pa_cons pe_int pa_nil))) pa_nil))) pa_nil))) (pss_cons (ps_expr (pe_bm PySem.F.plainAttrs_list PySem.F.slot_list_append PySem.F.type_list_append mt_append (pv 11) (pa_cons (pe_tup (pa_cons pe_str (pa_cons (pe_tup (pa_cons pe_str (pa_cons (pe_ix ix_list (pv 1) (pe_callB (call_max2 rfl) (by rfl) T.m_max (by decide +kernel) (pa_cons pe_int (pa_cons (pe_op op_sub (pv 2) pe_int) pa_nil))) (fun _ _ => rfl)) pa_nil))) (pa_cons (pe_tup (pa_cons pe_str (pa_cons (pe_call G_law_next (hr.mono (by omega)) (by rfl) D_law_next.g D_law_next.F.kp D_law_next.b .nil pass0 (pa_cons (pv 0) (pa_cons pe_int pa_nil))) pa_nil))) pa_nil)))) pa_nil))) (pss_one (ps_expr (pe_bm PySem.F.plainAttrs_list PySem.F.slot_list_append PySem.F.type_list_append mt_append (pv 4) (pa_cons (pe_tup (pa_cons pe_str (pa_cons (pe_ix ix_list (pv 1) (pv 2) (fun _ _ => rfl)) (pa_cons (pe_ix ix_list (pv 11) (pe_call G_law_next (hr.mono (by omega)) (by rfl) D_law_next.g D_law_next.F.kp D_law_next.b .nil pass0 (pa_cons (pv 0) (pa_cons pe_int pa_nil))) (fun _ _ => rfl)) pa_nil)))) pa_nil)))))) pss_nil) (pss_one (ps_expr (pe_bm PySem.F.plainAttrs_list PySem.F.slot_list_append PySem.F.type_list_append mt_append (pv 4) (pa_cons (pe_call G_law_lap (hr.mono (by omega)) (by rfl) D_law_lap.g D_law_lap.F.kp D_law_lap.b .nil pass0 (pa_cons (pv 0) (pa_cons (pv 1) (pa_cons (pv 2) (pa_cons (pv 3) pa_nil))))) pa_nil))))))))))))
      (pss_one (ps_ret (pe_tup (pa_cons pe_str (pa_cons (pe_tupleOf (by rfl) T.m_tuple (pv 4)) pa_nil))))))))), ?_⟩
    refine ⟨(by show 0 ≤ sizeLine; decide), fun lp nlp => ?_⟩
    have up : Same H (upd H lp (.lst [])) := same_upd nlp
    have AH := A
    have elH := el
    have A := A.same up
    have el := up _ _ el
    refine ⟨_, rfl, _, rfl, (d : Int), rfl, l, _, rfl, SqL.of el, fun lw nlw => ?_⟩
    obtain ⟨ys, ey, sy, ly⟩ := cut_sub ns none (some (d : Int))
    rw [ey]
    have uw : Same (upd H lp (.lst [])) (upd (upd H lp (.lst [])) lw (.lst (ys.map V.str))) := same_upd nlw
    have A0 := A
    have A := A.same uw
    have ep : (upd H lp (.lst [])) lp = some (.lst []) := upd_same
    have el0 := el
    have nph : lp ≠ h := (ne_of_none AH.h nlp).symm
    have npc : lp ≠ c := (ne_of_none AH.c nlp).symm
    have npl : lp ≠ l := (ne_of_none elH nlp).symm
    have D : Apart H h c l lp lw := ⟨nph, npc, npl, (ne_of_none ep nlw), (ne_of_none A0.h nlw).symm, (ne_of_none A0.c nlw).symm, nlh, nlc, nlp⟩
    have I : RI K H h c l lp lw ns ys n (upd (upd H lp (.lst [])) lw (.lst (ys.map V.str))) [] .nil := ⟨⟨_, _, _, A⟩, uw _ _ el, uw _ _ ep, upd_same, rfl, True.intro, True.intro, ((But.refl h c H).same up).same uw⟩
    have lenY : ys.length < 1000 := by omega
    have txY := tx.sub sy
    have gY : ∀ x ∈ ys, x ∈ gsOf ns := cut_guard (by omega) ey
    refine ⟨_, rfl, _, rfl, h, c, _, _, 3, _, rfl, by decide, by decide, A, fun s1 k1 cs1 m H1 m0 m3 A1 B1 => ⟨_, _, rfl, rfl, 1 + m, rfl, by omega, Int.lt_of_le_of_lt (by omega : 1 + m ≤ 3) (by decide), for_range (lo := 0) (n := (1 + m).toNat) (fun i σ H2 => ∃ (v7 v8 v9 v10 v11 : Option V) (laps : Int) (qs : List Addr) (r : Rw), σ = [some (.ref h), some (.ref l), some (.int (d : Int)), some (.bl odd), some (.ref lp), some (.ref lw), some (.int laps), v7, v8, v9, v10, v11] ∧ RI K H h c l lp lw ns ys n H2 qs r ∧ (laps = d ∨ laps = 3) ∧ lenR r ≤ 2 * i ∧ i ≤ lenR r)
      ⟨none, none, none, none, none, _, [], .nil, rfl, I.but D A1 B1, .inl rfl, Nat.le_refl _, Nat.le_refl _⟩ ?_ ?_⟩⟩
    · clear I A A0 ep el el0 uw up AH elH ey
      rintro i σ H2 hi ⟨v7, v8, v9, v10, v11, laps, qs, r, rfl, I, hl, l1, l2⟩
      obtain ⟨s2, k2, cs2, A⟩ := I.A
      have lenq : ∀ {H4 : Hp} {qs4 : List Addr} {r4 : Rw}, RI K H h c l lp lw ns ys n H4 qs4 r4 → lenR r4 ≤ 7 → (qs4.map V.ref).length < sizeLine := fun I4 z => by
        rw [List.length_map, I4.st.len, sizeLine_eq]
        omega
      refine ⟨_, rfl, h, c, _, _, 6, _, rfl, by decide, by decide, A, fun s3 k3 cs3 way H3 way0 way6 A3 B3 => ?_⟩
      have I := I.but D A3 B3
      clear A B3
      refine ⟨_, rfl, _, _, rfl, rfl, _, rfl, ite2 (fun e1 => ?_) (fun e1 => ?_)⟩
      · skip
        refine ⟨_, rfl, h, c, _, _, 3, _, rfl, by decide, by decide, A3, fun s4 k4 cs4 at_ H4 at0 at3 A4 B4 => ⟨_, _, rfl, rfl, ?_⟩⟩
        have I := I.but D A4 B4
        clear A3 B4
        refine ⟨_, rfl, _, rfl, _, rfl, (3 : Int), rfl, _, rfl, 3 + at_, rfl, l, _, rfl, SqL.of I.el, fun mm nmm => ?_⟩
        obtain ⟨zs, ez, sz, lz⟩ := cut_sub ns (some 3) (some (3 + at_))
        rw [ez]
        have um : Same H4 (upd H4 mm (.lst (zs.map V.str))) := same_upd nmm
        have I := I.same um
        refine ⟨h, c, lw, mm, _, _, _, ys, zs, ns, rfl, A4.same um, I.ew, upd_same, D.wh, D.wc, (ne_of_none A4.h nmm).symm, (ne_of_none A4.c nmm).symm, lenY, by omega, txY, tx.sub sz, sy, sz, fun s5 k5 cs5 pg g H5 A5 B5 Xg okg grg => ?_⟩
        have I := I.but D A5 B5
        clear A4 B5 um nmm
        obtain ⟨y, hy, oy, aty⟩ := at_other h7 (i := 3 + at_) (by omega) (by omega)
        have oZ : ∀ x ∈ zs, x ∈ osOf ns := cut_other (by omega) (by omega) ez
        refine ⟨_, rfl, h, c, _, _, 4, _, rfl, by decide, by decide, A5, fun s6 k6 cs6 b6 H6 b60 b64 A6 B6 => ⟨_, _, rfl, rfl, _, rfl, ite2 (fun e2 => ?_) (fun e2 => ?_)⟩⟩
        · skip
          have Xg := Xg.stay (I.tups B6)
          have I := I.but D A6 B6
          refine ⟨_, rfl, _, rfl, l, _, _, _, rfl, rfl, SqL.of I.el, aty, (by show 2 ≤ sizeLine; decide), fun t7 n7 => ⟨_, rfl, (by show 3 ≤ sizeLine; decide), fun t8 n8 => ?_⟩⟩
          have u7 : Same H6 (upd H6 t7 (.tup [.str "name", .str y])) := same_upd n7
          have u8 : Same (upd H6 t7 (.tup [.str "name", .str y])) (upd (upd H6 t7 (.tup [.str "name", .str y])) t8 (.tup [.str "add", .ref t7, .ref pg])) := same_upd n8
          have X8 : ExAt K (upd (upd H6 t7 (.tup [.str "name", .str y])) t8 (.tup [.str "add", .ref t7, .ref pg])) t8 (.add (.name y) g) := ⟨t7, pg, SqT.of upd_same, SqT.keeps (SqT.of upd_same) (TupsStay.same u8), Xg.stay (TupsStay.same (u7.trans u8))⟩
          have ok8 : ExOk ns 5 (.add (.name y) g) := ⟨ExOk.name hy _, okg.ups (by decide)⟩
          have I := I.same (u7.trans u8)
          refine ⟨_, rfl, .inl ⟨rfl, _, SqL.of I.ep⟩, _, rfl, _, rfl, l, _, _, _, rfl, rfl, SqL.of I.el, aty, _, rfl, (by show 3 ≤ sizeLine; decide), fun t9 n9 => ?_⟩
          have u9 : Same (upd (upd H6 t7 (.tup [.str "name", .str y])) t8 (.tup [.str "add", .ref t7, .ref pg])) (upd (upd (upd H6 t7 (.tup [.str "name", .str y])) t8 (.tup [.str "add", .ref t7, .ref pg])) t9 (.tup [.str "set", .str y, .ref t8])) := same_upd n9
          have I := I.same u9
          refine ⟨lp, _, _, rfl, rfl, I.ep, lenq I (by omega), ?_⟩
          exact ⟨_, _, _, _, _, laps, _, _, rfl, I.add D (one := .set y (.add (.name y) g) .nil) ⟨t9, [], t8, rfl, SqT.of upd_same, X8.stay (TupsStay.same u9), rfl⟩ ⟨hy, ok8, True.intro⟩ ⟨.inr ⟨oy, (grg.sub gY oZ).more oy⟩, .inr ⟨y, g, rfl, hy, okg⟩, True.intro⟩, hl, by rw [lenR_app]; show lenR r + 1 ≤ _; omega, by rw [lenR_app]; show _ ≤ lenR r + 1; omega⟩
        · skip
          have Xg := Xg.stay (I.tups B6)
          have I := I.but D A6 B6
          refine ⟨_, rfl, .inl ⟨rfl, _, SqL.of I.ep⟩, _, rfl, _, rfl, l, _, _, _, rfl, rfl, SqL.of I.el, aty, _, rfl, (by show 3 ≤ sizeLine; decide), fun t9 n9 => ?_⟩
          have u9 : Same H6 (upd H6 t9 (.tup [.str "set", .str y, .ref pg])) := same_upd n9
          have I := I.same u9
          refine ⟨lp, _, _, rfl, rfl, I.ep, lenq I (by omega), ?_⟩
          exact ⟨_, _, _, _, _, laps, _, _, rfl, I.add D (one := .set y g .nil) ⟨t9, [], pg, rfl, SqT.of upd_same, Xg.stay (TupsStay.same u9), rfl⟩ ⟨hy, (okg.ups (by decide)), True.intro⟩ ⟨.inr ⟨oy, (grg.sub gY oZ).big⟩, .inl okg, True.intro⟩, hl, by rw [lenR_app]; show lenR r + 1 ≤ _; omega, by rw [lenR_app]; show _ ≤ lenR r + 1; omega⟩
      · skip
        refine ⟨_, rfl, rfl, _, rfl, ite2 (fun e2 => ?_) (fun e2 => ⟨_, rfl, _, _, rfl, rfl, _, rfl, ite2 (fun e3 => ?_) (fun e3 => ?_)⟩)⟩
        · skip
          refine ⟨_, rfl, .inl ⟨rfl, _, SqL.of I.ep⟩, _, rfl, _, rfl, _, rfl, (3 : Int), rfl, (6 : Int), rfl, l, _, rfl, SqL.of I.el, fun mm nmm => ?_⟩
          obtain ⟨zs, ez, sz, lz⟩ := cut_sub ns (some 3) (some 6)
          rw [ez]
          have um : Same H3 (upd H3 mm (.lst (zs.map V.str))) := same_upd nmm
          have I := I.same um
          have A4 := A3.same um
          refine ⟨_, _, _, _, rfl, rfl, I.ew, upd_same, by rw [List.length_map, List.length_map, sizeLine_eq]; omega, fun lc nlc2 => ?_⟩
          rw [← List.map_append]
          have uc : Same (upd H3 mm (.lst (zs.map V.str))) (upd (upd H3 mm (.lst (zs.map V.str))) lc (.lst ((ys ++ zs).map V.str))) := same_upd nlc2
          have I := I.same uc
          have sY : ∀ x ∈ ys ++ zs, x ∈ ns := fun x hx => (List.mem_append.mp hx).elim (sy x) (sz x)
          refine ⟨h, c, lc, _, _, _, ys ++ zs, rfl, A4.same uc, upd_same, (ne_of_none A4.h nlc2).symm, (ne_of_none A4.c nlc2).symm, by rw [List.length_append]; omega, tx.sub sY, fun s5 k5 cs5 pe e H5 A5 B5 Xe oke => ⟨(by show 2 ≤ sizeLine; decide), fun t6 n6 => ?_⟩⟩
          have I := I.but D A5 B5
          have u6 : Same H5 (upd H5 t6 (.tup [.str "say", .ref pe])) := same_upd n6
          have I := I.same u6
          refine ⟨lp, _, _, rfl, rfl, I.ep, lenq I (by omega), ?_⟩
          exact ⟨_, _, _, _, _, laps, _, _, rfl, I.add D (one := .say e .nil) ⟨t6, [], pe, rfl, SqT.of upd_same, Xe.stay (TupsStay.same u6), rfl⟩ ⟨(oke.sub sY).ups (by decide), True.intro⟩ ⟨oke.sub sY, True.intro⟩, hl, by rw [lenR_app]; show lenR r + 1 ≤ _; omega, by rw [lenR_app]; show _ ≤ lenR r + 1; omega⟩
        · skip
          refine ⟨_, rfl, .inl ⟨rfl, _, SqL.of I.ep⟩, _, rfl, _, rfl, _, rfl, (3 : Int), rfl, (6 : Int), rfl, l, _, rfl, SqL.of I.el, fun mm nmm => ?_⟩
          obtain ⟨zs, ez, sz, lz⟩ := cut_sub ns (some 3) (some 6)
          rw [ez]
          have um : Same H3 (upd H3 mm (.lst (zs.map V.str))) := same_upd nmm
          have I := I.same um
          have A4 := A3.same um
          refine ⟨_, _, _, _, rfl, rfl, I.ew, upd_same, by rw [List.length_map, List.length_map, sizeLine_eq]; omega, fun lc nlc2 => ?_⟩
          rw [← List.map_append]
          have uc : Same (upd H3 mm (.lst (zs.map V.str))) (upd (upd H3 mm (.lst (zs.map V.str))) lc (.lst ((ys ++ zs).map V.str))) := same_upd nlc2
          have I := I.same uc
          have sY : ∀ x ∈ ys ++ zs, x ∈ ns := fun x hx => (List.mem_append.mp hx).elim (sy x) (sz x)
          refine ⟨h, c, lc, _, _, _, ys ++ zs, rfl, A4.same uc, upd_same, (ne_of_none A4.h nlc2).symm, (ne_of_none A4.c nlc2).symm, by rw [List.length_append]; omega, tx.sub sY, fun s5 k5 cs5 pe e H5 A5 B5 Xe oke => ⟨(by show 2 ≤ sizeLine; decide), fun t6 n6 => ?_⟩⟩
          have I := I.but D A5 B5
          have u6 : Same H5 (upd H5 t6 (.tup [.str "say", .ref pe])) := same_upd n6
          have I := I.same u6
          refine ⟨lp, _, _, rfl, rfl, I.ep, lenq I (by omega), ?_⟩
          exact ⟨_, _, _, _, _, laps, _, _, rfl, I.add D (one := .say e .nil) ⟨t6, [], pe, rfl, SqT.of upd_same, Xe.stay (TupsStay.same u6), rfl⟩ ⟨(oke.sub sY).ups (by decide), True.intro⟩ ⟨oke.sub sY, True.intro⟩, hl, by rw [lenR_app]; show lenR r + 1 ≤ _; omega, by rw [lenR_app]; show _ ≤ lenR r + 1; omega⟩
        · skip
          have el3 : laps ≤ 2 := by have z : ¬ 2 < laps := fun q => e3 (decide_eq_true q); omega
          have dn : 1 ≤ n ∧ d ≤ 2 := by rcases hl with z | z <;> omega
          have hd7 : (d : Int) ≤ 2 := by omega
          clear e1 e2 e3 hl
          obtain ⟨g, hg, gg, atg⟩ := at_guard h7 (i := (d : Int)) (by omega)
          refine ⟨_, rfl, _, _, rfl, rfl, _, rfl, ite2 (fun e => ?_) (fun e => ⟨_, rfl, h, c, _, _, 2, _, rfl, by decide, by decide, A3, fun s8 k8 cs8 r8 H8 r80 r82 A8 B8 => ⟨rfl, _, rfl, ite2 (fun e8 => ?_) (fun e8 => ?_)⟩⟩)⟩
          · skip
            refine ⟨_, rfl, h, c, _, _, 4, _, rfl, by decide, by decide, A3, fun s4 k4 cs4 r4 H4 r40 r44 A4 B4 => ⟨(by show 2 ≤ sizeLine; decide), fun t1 n1 => ⟨(by show 1 ≤ sizeLine; decide), fun ls nls => ?_⟩⟩⟩
            have I := I.but D A4 B4
            have u1 : Same H4 (upd H4 t1 (.tup [.str "num", .int r4])) := same_upd n1
            have X1 : ExAt K (upd H4 t1 (.tup [.str "num", .int r4])) t1 (.num r4) := SqT.of upd_same
            have I := I.same u1
            have A := A4.same u1
            have lsh : ls ≠ h := (ne_of_none A.h nls).symm
            have lsc : ls ≠ c := (ne_of_none A.c nls).symm
            have lsl : ls ≠ l := (ne_of_none I.el nls).symm
            have lsp : ls ≠ lp := (ne_of_none I.ep nls).symm
            have lsw : ls ≠ lw := (ne_of_none I.ew nls).symm
            have ls0 := I.fresh nls lsh lsc
            have u2 : Same (upd H4 t1 (.tup [.str "num", .int r4])) (upd (upd H4 t1 (.tup [.str "num", .int r4])) ls (.lst [.ref t1])) := same_upd nls
            have els : (upd (upd H4 t1 (.tup [.str "num", .int r4])) ls (.lst [.ref t1])) ls = some (.lst [.ref t1]) := upd_same
            have I := I.same u2
            have A := A.same u2
            have X1 := X1.stay (TupsStay.same u2)
            clear u1 u2 n1 nls A4 B4
            generalize (upd (upd H4 t1 (.tup [.str "num", .int r4])) ls (.lst [.ref t1])) = G1 at els I A X1
            obtain ⟨y, hy, gy, aty⟩ := at_guard h7 (i := if 0 < (d : Int) - 1 then (d : Int) - 1 else 0) (.inl (by split <;> omega))
            refine ⟨_, rfl, .inl ⟨rfl, _, SqL.of els⟩, _, rfl, _, rfl, _, _, rfl, rfl, 0, _, rfl, l, _, _, _, rfl, rfl, SqL.of I.el, aty, (by show 2 ≤ sizeLine; decide), fun t2 n2 => ?_⟩
            have u2 : Same G1 (upd G1 t2 (.tup [.str "name", .str y])) := same_upd n2
            have X2 : ExAt K (upd G1 t2 (.tup [.str "name", .str y])) t2 (.name y) := SqT.of upd_same
            have I := I.same u2
            have A := A.same u2
            have X1 := X1.stay (TupsStay.same u2)
            have els := u2 _ _ els
            refine ⟨_, rfl, h, c, _, _, 3, _, rfl, by decide, by decide, A, fun s5 k5 cs5 r5 H5 r50 r53 A5 B5 => ⟨(by show 2 ≤ sizeLine; decide), fun t3 n3 => ⟨(by show 3 ≤ sizeLine; decide), fun t4 n4 => ?_⟩⟩⟩
            have X1 := X1.stay (I.tups B5)
            have X2 := X2.stay (I.tups B5)
            have I := I.but D A5 B5
            have els := B5 _ _ els lsh lsc
            have u3 : Same H5 (upd H5 t3 (.tup [.str "num", .int r5])) := same_upd n3
            have X3 : ExAt K (upd H5 t3 (.tup [.str "num", .int r5])) t3 (.num r5) := SqT.of upd_same
            have u4 : Same (upd H5 t3 (.tup [.str "num", .int r5])) (upd (upd H5 t3 (.tup [.str "num", .int r5])) t4 (.tup [.str "add", .ref t2, .ref t3])) := same_upd n4
            have X4 : ExAt K (upd (upd H5 t3 (.tup [.str "num", .int r5])) t4 (.tup [.str "add", .ref t2, .ref t3])) t4 (.add (.name y) (.num r5)) := ⟨t2, t3, SqT.of upd_same, X2.stay (TupsStay.same (u3.trans u4)), X3.stay (TupsStay.same u4)⟩
            have X1 := X1.stay (TupsStay.same (u3.trans u4))
            have I := I.same (u3.trans u4)
            have A := A5.same (u3.trans u4)
            have els := (u3.trans u4) _ _ els
            clear u3 u4 u2 n2 n3 n4 X3 X2 A5 B5
            generalize (upd (upd H5 t3 (.tup [.str "num", .int r5])) t4 (.tup [.str "add", .ref t2, .ref t3])) = G2 at els I A X1 X4
            refine ⟨ls, _, _, rfl, rfl, els, (by show 1 < sizeLine; decide), ?_⟩
            have t5 : TupsStay G2 (upd G2 ls (.lst [.ref t1, .ref t4])) := TupsStay.upd els True.intro
            have I := I.els (o := .lst [.ref t1, .ref t4]) ls0 lsh lsc lsl lsp lsw els True.intro
            have A := A.set (o := .lst [.ref t1, .ref t4]) lsh lsc
            have X1 := X1.stay t5
            have X4 := X4.stay t5
            have els : (upd G2 ls (.lst [.ref t1, .ref t4])) ls = some (.lst [.ref t1, .ref t4]) := upd_same
            clear t5
            refine ⟨_, rfl, .inl ⟨rfl, _, SqL.of I.ep⟩, _, rfl, _, rfl, l, _, _, _, rfl, rfl, SqL.of I.el, atg, _, rfl, _, rfl, h, c, _, _, 2, _, rfl, by decide, by decide, A, fun s6 k6 cs6 r6 H6 r60 r62 A6 B6 => ?_⟩
            have X1 := X1.stay (I.tups B6)
            have X4 := X4.stay (I.tups B6)
            have I := I.but D A6 B6
            have els := B6 _ _ els lsh lsc
            have pick : ∃ (pe : Addr) (e : Ex), atI [V.ref t1, V.ref t4] r6 = some (.ref pe) ∧ ExAt K H6 pe e ∧ ExOk ns 5 e ∧ ExOk ns 2 e ∧ BndE (gsOf ns) (osOf ns) (fun G _ => 2 * G + 1010) e := by
              have z : r6 = 0 ∨ r6 = 1 := by omega
              rcases z with z | z
              · subst z
                exact ⟨t1, _, rfl, X1, ExOk.num (by omega) _, ExOk.num (by omega) _, grd_num (by omega)⟩
              · subst z
                exact ⟨t4, _, rfl, X4, ⟨ExOk.name hy _, ExOk.num (by omega) _⟩, ⟨ExOk.name hy _, ExOk.num (by omega) _⟩, grd_more gy (by omega)⟩
            obtain ⟨pe, e, ate, Xe, oke, ok2, gre⟩ := pick
            refine ⟨ls, _, _, _, rfl, rfl, SqL.of els, ate, (by show 3 ≤ sizeLine; decide), fun t7 n7 => ?_⟩
            have u7 : Same H6 (upd H6 t7 (.tup [.str "set", .str g, .ref pe])) := same_upd n7
            have I := I.same u7
            refine ⟨lp, _, _, rfl, rfl, I.ep, lenq I (by omega), ?_⟩
            have I := I.add D (one := .set g e .nil) ⟨t7, [], pe, rfl, SqT.of upd_same, Xe.stay (TupsStay.same u7), rfl⟩ ⟨hg, oke, True.intro⟩ ⟨.inl ⟨gg, gre⟩, .inl ok2, True.intro⟩
            have A := (A6.same u7).set (o := .lst (qs.map V.ref ++ [V.ref t7])) D.ph D.pc
            refine ⟨_, rfl, .inl ⟨rfl, _, SqL.of I.ep⟩, _, rfl, _, rfl, _, rfl, _, rfl, dn.1, h, c, l, _, _, _, ns, d, odd, rfl, hd, dn.1, A, I.el, nlh, nlc, h7, tx, fun s9 k9 cs9 p9 x9 m9 b9 H9 A9 B9 St9 ok9 tm9 => ?_⟩
            have I := I.but D A9 B9
            refine ⟨lp, _, _, rfl, rfl, I.ep, lenq I (by first | omega | (rw [lenR_app]; show lenR r + 1 ≤ 7; omega)), ?_⟩
            exact ⟨_, _, _, _, _, 3, _, _, rfl, I.add D St9 ok9 tm9, .inr rfl, by simp only [lenR_app]; show lenR r + 2 ≤ _; omega, by simp only [lenR_app]; show _ ≤ lenR r + 2; omega⟩
          · skip
            have I := I.but D A8 B8
            refine ⟨_, rfl, h, c, _, _, 4, _, rfl, by decide, by decide, A8, fun s4 k4 cs4 r4 H4 r40 r44 A4 B4 => ⟨(by show 2 ≤ sizeLine; decide), fun t1 n1 => ⟨(by show 1 ≤ sizeLine; decide), fun ls nls => ?_⟩⟩⟩
            have I := I.but D A4 B4
            have u1 : Same H4 (upd H4 t1 (.tup [.str "num", .int r4])) := same_upd n1
            have X1 : ExAt K (upd H4 t1 (.tup [.str "num", .int r4])) t1 (.num r4) := SqT.of upd_same
            have I := I.same u1
            have A := A4.same u1
            have lsh : ls ≠ h := (ne_of_none A.h nls).symm
            have lsc : ls ≠ c := (ne_of_none A.c nls).symm
            have lsl : ls ≠ l := (ne_of_none I.el nls).symm
            have lsp : ls ≠ lp := (ne_of_none I.ep nls).symm
            have lsw : ls ≠ lw := (ne_of_none I.ew nls).symm
            have ls0 := I.fresh nls lsh lsc
            have u2 : Same (upd H4 t1 (.tup [.str "num", .int r4])) (upd (upd H4 t1 (.tup [.str "num", .int r4])) ls (.lst [.ref t1])) := same_upd nls
            have els : (upd (upd H4 t1 (.tup [.str "num", .int r4])) ls (.lst [.ref t1])) ls = some (.lst [.ref t1]) := upd_same
            have I := I.same u2
            have A := A.same u2
            have X1 := X1.stay (TupsStay.same u2)
            clear u1 u2 n1 nls A4 B4
            generalize (upd (upd H4 t1 (.tup [.str "num", .int r4])) ls (.lst [.ref t1])) = G1 at els I A X1
            obtain ⟨y, hy, gy, aty⟩ := at_guard h7 (i := if 0 < (d : Int) - 1 then (d : Int) - 1 else 0) (.inl (by split <;> omega))
            refine ⟨_, rfl, .inl ⟨rfl, _, SqL.of els⟩, _, rfl, _, rfl, _, _, rfl, rfl, 0, _, rfl, l, _, _, _, rfl, rfl, SqL.of I.el, aty, (by show 2 ≤ sizeLine; decide), fun t2 n2 => ?_⟩
            have u2 : Same G1 (upd G1 t2 (.tup [.str "name", .str y])) := same_upd n2
            have X2 : ExAt K (upd G1 t2 (.tup [.str "name", .str y])) t2 (.name y) := SqT.of upd_same
            have I := I.same u2
            have A := A.same u2
            have X1 := X1.stay (TupsStay.same u2)
            have els := u2 _ _ els
            refine ⟨_, rfl, h, c, _, _, 3, _, rfl, by decide, by decide, A, fun s5 k5 cs5 r5 H5 r50 r53 A5 B5 => ⟨(by show 2 ≤ sizeLine; decide), fun t3 n3 => ⟨(by show 3 ≤ sizeLine; decide), fun t4 n4 => ?_⟩⟩⟩
            have X1 := X1.stay (I.tups B5)
            have X2 := X2.stay (I.tups B5)
            have I := I.but D A5 B5
            have els := B5 _ _ els lsh lsc
            have u3 : Same H5 (upd H5 t3 (.tup [.str "num", .int r5])) := same_upd n3
            have X3 : ExAt K (upd H5 t3 (.tup [.str "num", .int r5])) t3 (.num r5) := SqT.of upd_same
            have u4 : Same (upd H5 t3 (.tup [.str "num", .int r5])) (upd (upd H5 t3 (.tup [.str "num", .int r5])) t4 (.tup [.str "add", .ref t2, .ref t3])) := same_upd n4
            have X4 : ExAt K (upd (upd H5 t3 (.tup [.str "num", .int r5])) t4 (.tup [.str "add", .ref t2, .ref t3])) t4 (.add (.name y) (.num r5)) := ⟨t2, t3, SqT.of upd_same, X2.stay (TupsStay.same (u3.trans u4)), X3.stay (TupsStay.same u4)⟩
            have X1 := X1.stay (TupsStay.same (u3.trans u4))
            have I := I.same (u3.trans u4)
            have A := A5.same (u3.trans u4)
            have els := (u3.trans u4) _ _ els
            clear u3 u4 u2 n2 n3 n4 X3 X2 A5 B5
            generalize (upd (upd H5 t3 (.tup [.str "num", .int r5])) t4 (.tup [.str "add", .ref t2, .ref t3])) = G2 at els I A X1 X4
            refine ⟨ls, _, _, rfl, rfl, els, (by show 1 < sizeLine; decide), ?_⟩
            have t5 : TupsStay G2 (upd G2 ls (.lst [.ref t1, .ref t4])) := TupsStay.upd els True.intro
            have I := I.els (o := .lst [.ref t1, .ref t4]) ls0 lsh lsc lsl lsp lsw els True.intro
            have A := A.set (o := .lst [.ref t1, .ref t4]) lsh lsc
            have X1 := X1.stay t5
            have X4 := X4.stay t5
            have els : (upd G2 ls (.lst [.ref t1, .ref t4])) ls = some (.lst [.ref t1, .ref t4]) := upd_same
            clear t5
            refine ⟨_, rfl, .inl ⟨rfl, _, SqL.of I.ep⟩, _, rfl, _, rfl, l, _, _, _, rfl, rfl, SqL.of I.el, atg, _, rfl, _, rfl, h, c, _, _, 2, _, rfl, by decide, by decide, A, fun s6 k6 cs6 r6 H6 r60 r62 A6 B6 => ?_⟩
            have X1 := X1.stay (I.tups B6)
            have X4 := X4.stay (I.tups B6)
            have I := I.but D A6 B6
            have els := B6 _ _ els lsh lsc
            have pick : ∃ (pe : Addr) (e : Ex), atI [V.ref t1, V.ref t4] r6 = some (.ref pe) ∧ ExAt K H6 pe e ∧ ExOk ns 5 e ∧ ExOk ns 2 e ∧ BndE (gsOf ns) (osOf ns) (fun G _ => 2 * G + 1010) e := by
              have z : r6 = 0 ∨ r6 = 1 := by omega
              rcases z with z | z
              · subst z
                exact ⟨t1, _, rfl, X1, ExOk.num (by omega) _, ExOk.num (by omega) _, grd_num (by omega)⟩
              · subst z
                exact ⟨t4, _, rfl, X4, ⟨ExOk.name hy _, ExOk.num (by omega) _⟩, ⟨ExOk.name hy _, ExOk.num (by omega) _⟩, grd_more gy (by omega)⟩
            obtain ⟨pe, e, ate, Xe, oke, ok2, gre⟩ := pick
            refine ⟨ls, _, _, _, rfl, rfl, SqL.of els, ate, (by show 3 ≤ sizeLine; decide), fun t7 n7 => ?_⟩
            have u7 : Same H6 (upd H6 t7 (.tup [.str "set", .str g, .ref pe])) := same_upd n7
            have I := I.same u7
            refine ⟨lp, _, _, rfl, rfl, I.ep, lenq I (by omega), ?_⟩
            have I := I.add D (one := .set g e .nil) ⟨t7, [], pe, rfl, SqT.of upd_same, Xe.stay (TupsStay.same u7), rfl⟩ ⟨hg, oke, True.intro⟩ ⟨.inl ⟨gg, gre⟩, .inl ok2, True.intro⟩
            have A := (A6.same u7).set (o := .lst (qs.map V.ref ++ [V.ref t7])) D.ph D.pc
            refine ⟨_, rfl, .inl ⟨rfl, _, SqL.of I.ep⟩, _, rfl, _, rfl, _, rfl, _, rfl, dn.1, h, c, l, _, _, _, ns, d, odd, rfl, hd, dn.1, A, I.el, nlh, nlc, h7, tx, fun s9 k9 cs9 p9 x9 m9 b9 H9 A9 B9 St9 ok9 tm9 => ?_⟩
            have I := I.but D A9 B9
            refine ⟨lp, _, _, rfl, rfl, I.ep, lenq I (by first | omega | (rw [lenR_app]; show lenR r + 1 ≤ 7; omega)), ?_⟩
            exact ⟨_, _, _, _, _, 3, _, _, rfl, I.add D St9 ok9 tm9, .inr rfl, by simp only [lenR_app]; show lenR r + 2 ≤ _; omega, by simp only [lenR_app]; show _ ≤ lenR r + 2; omega⟩
          · skip
            have I := I.but D A8 B8
            refine ⟨_, rfl, .inl ⟨rfl, _, SqL.of I.ep⟩, _, rfl, _, rfl, _, rfl, _, rfl, dn.1, h, c, l, _, _, _, ns, d, odd, rfl, hd, dn.1, A8, I.el, nlh, nlc, h7, tx, fun s9 k9 cs9 p9 x9 m9 b9 H9 A9 B9 St9 ok9 tm9 => ?_⟩
            have I := I.but D A9 B9
            refine ⟨lp, _, _, rfl, rfl, I.ep, lenq I (by first | omega | (rw [lenR_app]; show lenR r + 1 ≤ 7; omega)), ?_⟩
            exact ⟨_, _, _, _, _, 3, _, _, rfl, I.add D St9 ok9 tm9, .inr rfl, by simp only [lenR_app]; show lenR r + 1 ≤ _; omega, by simp only [lenR_app]; show _ ≤ lenR r + 1; omega⟩
    · rintro σ H2 ⟨v7, v8, v9, v10, v11, laps, qs, r, rfl, I, hl, l1, l2⟩
      obtain ⟨s2, k2, cs2, A⟩ := I.A
      refine ⟨_, rfl, .inl ⟨lp, _, rfl, SqL.of I.ep, fun pt npt => ⟨(by show 2 ≤ sizeLine; decide), fun p np => ?_⟩⟩⟩
      have u1 : Same H2 (upd H2 pt (.tup (qs.map V.ref))) := same_upd npt
      have u2 : Same (upd H2 pt (.tup (qs.map V.ref))) (upd (upd H2 pt (.tup (qs.map V.ref))) p (.tup [.str "row", .ref pt])) := same_upd np
      have I := I.same (u1.trans u2)
      exact q _ _ _ p r _ (A.same (u1.trans u2)) I.B ⟨pt, qs, SqT.of upd_same, SqT.keeps (SqT.of upd_same) (TupsStay.same u2), I.st⟩ I.ok I.tm (by omega) (by omega)
end
/-! ### all names of a program -/
def namesE : Ex → List Str
  | .num _ => []
  | .name x => [x]
  | .add a b => namesE a ++ namesE b
  | .mul a b => namesE a ++ namesE b
def namesR : Rw → List Str
  | .nil => []
  | .set x e r => x :: (namesE e ++ namesR r)
  | .say e r => namesE e ++ namesR r
  | .lap x m b r => x :: (namesE m ++ (namesR b ++ namesR r))
theorem namesE_len {ns : List Str} : ∀ {t : Ex} {d : Nat}, ExOk ns d t → (namesE t).length ≤ 2 ^ d
  | .num _, d, _ => Nat.zero_le _
  | .name _, d, _ => Nat.one_le_two_pow
  | .add a b, 0, h => False.elim h
  | .mul a b, 0, h => False.elim h
  | .add a b, d + 1, ⟨ha, hb⟩ => by
    have := namesE_len ha
    have := namesE_len hb
    show (namesE a ++ namesE b).length ≤ _
    rw [List.length_append, Nat.pow_succ]
    omega
  | .mul a b, d + 1, ⟨ha, hb⟩ => by
    have := namesE_len ha
    have := namesE_len hb
    show (namesE a ++ namesE b).length ≤ _
    rw [List.length_append, Nat.pow_succ]
    omega
theorem namesE_in {ns : List Str} : ∀ {t : Ex} {d : Nat}, ExOk ns d t → ∀ x ∈ namesE t, x ∈ ns
  | .num _, d, _, x, h => nomatch h
  | .name y, d, k, x, h => by rw [show x = y by simpa [namesE] using h]; exact k.of_name
  | .add a b, 0, h, _, _ => False.elim h
  | .mul a b, 0, h, _, _ => False.elim h
  | .add a b, d + 1, ⟨ha, hb⟩, x, h => (List.mem_append.mp h).elim (namesE_in ha x) (namesE_in hb x)
  | .mul a b, d + 1, ⟨ha, hb⟩, x, h => (List.mem_append.mp h).elim (namesE_in ha x) (namesE_in hb x)
def rowN : Nat → Nat
  | 0 => 33
  | d + 1 => 33 + 8 * rowN d
theorem rowN_pos : ∀ d, 33 ≤ rowN d
  | 0 => Nat.le_refl _
  | d + 1 => Nat.le_add_right _ _
theorem rowN_up : ∀ d, rowN d ≤ rowN (d + 1)
  | d => by show rowN d ≤ 33 + 8 * rowN d; omega
theorem namesR_len {ns : List Str} : ∀ {r : Rw} {d : Nat}, RwOk ns r d → (namesR r).length ≤ lenR r * rowN d
  | .nil, d, _ => Nat.zero_le _
  | .set x e r, d, ⟨_, b, c⟩ => by
    have h1 := namesE_len b
    have h2 := namesR_len c
    have h3 := rowN_pos d
    show (x :: (namesE e ++ namesR r)).length ≤ (lenR r + 1) * rowN d
    rw [List.length_cons, List.length_append, Nat.succ_mul]
    omega
  | .say e r, d, ⟨b, c⟩ => by
    have h1 := namesE_len b
    have h2 := namesR_len c
    have h3 := rowN_pos d
    show (namesE e ++ namesR r).length ≤ (lenR r + 1) * rowN d
    rw [List.length_append, Nat.succ_mul]
    omega
  | .lap x m b r, 0, ⟨_, _, k, _⟩ => absurd k (by decide)
  | .lap x m b r, d + 1, ⟨_, o, _, l8, okb, c⟩ => by
    have h1 := namesE_len o
    have h2 := namesR_len c
    have h4 := namesR_len (d := d) okb
    have h5 : lenR b * rowN d ≤ 8 * rowN d := Nat.mul_le_mul_right _ l8
    show (x :: (namesE m ++ (namesR b ++ namesR r))).length ≤ (lenR r + 1) * (33 + 8 * rowN d)
    have h2 : (namesR r).length ≤ lenR r * (33 + 8 * rowN d) := h2
    rw [List.length_cons, List.length_append, List.length_append, Nat.succ_mul]
    omega
theorem namesR_in {ns : List Str} : ∀ {r : Rw} {d : Nat}, RwOk ns r d → ∀ x ∈ namesR r, x ∈ ns
  | .nil, d, _, x, h => nomatch h
  | .set y e r, d, ⟨a, b, c⟩, x, h => (List.mem_cons.mp h).elim (fun z => by rw [z]; exact a) fun z => (List.mem_append.mp z).elim (namesE_in b x) (namesR_in c x)
  | .say e r, d, ⟨b, c⟩, x, h => (List.mem_append.mp h).elim (namesE_in b x) (namesR_in c x)
  | .lap y m b r, d, ⟨a, o, _, _, okb, c⟩, x, h => (List.mem_cons.mp h).elim (fun z => by rw [z]; exact a) fun z => (List.mem_append.mp z).elim (namesE_in o x) fun z => (List.mem_append.mp z).elim (namesR_in okb x) (namesR_in c x)
section
variable {P : Program} {w : World} {K : PySem.W.Frag} {mg : Str → Option Value} {base : Heap} {C : Addr}
theorem tyT {K : PySem.W.Frag} {H : Hp} {p : Addr} {xs : List V} (h : SqT K H p xs) : TyX K H (.ref p) (.type "tuple") := by
  rcases h with (h | ⟨o, h⟩) | ⟨o, _, _, h, c, _⟩
  · exact .base (.tup h)
  · exact .fTuple h
  · exact .kTuple h c
end
/-! ### sets of texts: made, added to, sorted -/
/-- the payload D holds the texts l, and its places are in order -/
def TxtSet (P : Program) (w : World) (h : Heap) (a : Addr) (l : List Str) : Prop := ∃ D : PySem.Froz.SD, h.get? a = some (PySem.Froz.sObj "set" D) ∧ PySem.Froz.TxOk P w D l ∧ Ris D.2.2.place.toList ∧ (w.params.followText "set-order" = true ∨ D.2.2.led = true)
def SetT (P : Program) (w : World) (a : Addr) (l : List Str) : HO := .ext fun h => TxtSet P w h a l
theorem TxtSet.at_ {P : Program} {w : World} {h h' : Heap} {a : Addr} {l : List Str} (R : TxtSet P w h a l) (k : ∀ o, h.get? a = some o → h'.get? a = some o) : TxtSet P w h' a l := by
  obtain ⟨D, e, r⟩ := R
  exact ⟨D, k _ e, r⟩
theorem setT_new {w : World} {P : Program} {H : Hp} {h : Heap} {a : Addr} {l : List Str} (R : TxtSet P w h a l) : ObjOk P w H h a (SetT P w a l) := by
  have ⟨D, e, _⟩ := R
  exact ⟨R, ⟨_, e⟩, fun h1 h2 p k => p.at_ k⟩
theorem TxtSet.typeIs {P : Program} {w : World} {s : Shared} {a : Addr} {l : List Str} (R : TxtSet P w s.heap a l) : s.TypeIs (.ref a) "set" := by
  obtain ⟨D, e, _⟩ := R
  exact ⟨_, e, rfl⟩
theorem addTx_more {h : Int} {v : Value} {D : PySem.Froz.SD} (r : Ris D.2.2.place.toList) : Ris (PySem.Froz.addTx h v D).2.2.place.toList ∧ (PySem.Froz.addTx h v D).2.2.led = D.2.2.led := by
  obtain ⟨es, ep, t⟩ := D
  have hr := layNew_ris t es h v r
  have hl := layNew_led t es h v
  unfold PySem.Froz.addTx PySem.Froz.tailTx
  dsimp only
  split
  · split
    · exact ⟨relayAll_ris _ _ _, (relayAll_led _ _ _).trans hl⟩
    · exact ⟨hr, hl⟩
  · split
    · exact ⟨relayAll_ris _ _ _, (relayAll_led _ _ _).trans hl⟩
    · exact ⟨hr, hl⟩
section
variable {P : Program} {w : World} {A : Around} {E : Value → Shared → Prop} {s : Shared} {a : Addr} {l : List Str} {k : Str} {u : Tok}
theorem addT_old {Q : Bool → Shared → Prop} (R : TxtSet P w s.heap a l) (hk : k ∈ l) (hb : l.length < scanBound) (h : Q false s) : wpAny (model P w) A (setAddHashed a (.str k u) (hashStr w k)) Q E s := by
  obtain ⟨⟨es, ep, t⟩, ho, F, _⟩ := R
  have hd : (PySem.Froz.sObj "set" (es, ep, t)).data = .set es ep t := rfl
  have hf : t.fits es.size = true := F.fit
  have hel : ElemsOf (strKind P w) es.toList := F.el
  have hsz : es.size = l.length := F.sz
  have hb0 : es.size < scanBound := by omega
  have hkey : (strKind P w).is k (.str k u) = true := PySem.Froz.is_str k u
  unfold setAddHashed setAddHashedIn
  refine wpAny_holding (wpAny_bind (wpAny_setState_of ho hd hf ?_))
  dsimp only
  rw [byScan_of rfl hb0 hel]
  simp only [↓reduceIte]
  unfold setAddByScan
  refine wpAny_bind ?_
  refine wpAny_bind (wpAny_rule ?_)
  refine wpAny_bind (wpAny_setScan_of (knd := strKind P w) (k := k) hkey ho hd hf hel ?_)
  cases hfi : List.findIdx? (fun e => (strKind P w).is k e.2) es.toList with
  | some j =>
    dsimp only
    exact wpAny_pure (wpAny_pure h)
  | none =>
    obtain ⟨e, he, q⟩ := (F.mem k).mp hk
    have c := List.findIdx?_eq_none_iff.mp hfi e he
    rw [q] at c
    cases c
theorem call_addT {Q : Value → Shared → Prop} (R : TxtSet P w s.heap a l) (hb : l.length + 1 < scanBound)
    (hQ : ∀ h', Heap.SameBut a s.heap h' → TxtSet P w h' a (if k ∈ l then l else k :: l) → Q .none { s with heap := h', toks := s.toks + 1 }) : wpAny (model P w) A (call (.builtin "set.add") [.ref a, .str k u]) Q E s := by
  refine wpAny_call_entry PySem.F.slot_set_add R.typeIs PySem.F.entry_set_add ?_ (PySem.F.args_set_add_2 _ _)
  unfold Builtin.«set.add» Builtin.Frozenset.oneOther
  simp only [List.isEmpty_nil, bind_assoc]
  unfold Builtin.Frozenset.addrOf setAdd
  refine wpAny_bind (wpAny_pure ?_)
  try dsimp only
  refine wpAny_bind (wpAny_pure ?_)
  try dsimp only
  refine wpAny_bind ?_
  refine wpAny_holding ?_
  refine wpAny_bind ((strKind P w).pyHash (PySem.Froz.is_str k u) ?_)
  by_cases hk : k ∈ l
  · refine addT_old (s := { s with toks := s.toks + 1 }) R hk (by omega) ?_
    show wpAny _ _ (ret Value.none) _ _ _
    refine wpAny_pure ⟨_, rfl, hQ s.heap (Heap.SameBut.refl a s.heap) ?_⟩
    rw [if_pos hk]
    exact R
  · obtain ⟨D, ho, F, ri, le⟩ := R
    refine PySem.Froz.add_x (s := { s with toks := s.toks + 1 }) (T := "set") ho F hk hb ?_
    show wpAny _ _ (ret Value.none) _ _ _
    refine wpAny_pure ⟨_, rfl, hQ _ (Heap.SameBut.update ..) ?_⟩
    rw [if_neg hk]
    have m := addTx_more (h := hashStr w k) (v := .str k u) ri
    exact ⟨_, PySem.Froz.get_upd _ ho rfl, PySem.Froz.add_ok u F, m.1, le.imp id fun z => by rw [m.2]; exact z⟩
end
section
variable {X : Cx}
def rSet0T (P : Program) (w : World) : List V → Hp → VK → Prop := fun xs H Q => xs = [] ∧ ∀ p, H p = none → Q (.ref p) (upd H p (SetT P w p []))
theorem cr_set0T : CallR X (.type "set") (rSet0T X.prog X.w) := by
  intro pins s σ H xs us Q I r h
  obtain ⟨rfl, q⟩ := h
  cases r
  refine setR_new fun _ => ?_
  have new : TxtSet X.prog X.w (s.heap.push { cls := .type "set", dict := none, data := .set #[] 0 (.fresh 0 0 (!X.w.params.followText "set-order")) }) s.heap.objs.size [] :=
    ⟨(#[], 0, .fresh 0 0 (!X.w.params.followText "set-order")), Heap.get?_push_size _ rfl, PySem.Froz.TxOk.nil rfl, List.Pairwise.nil, by
      show _ ∨ (!X.w.params.followText "set-order") = true
      cases X.w.params.followText "set-order"
      · exact .inr rfl
      · exact .inl rfl⟩
  exact ⟨.ref _, upd H s.heap.objs.size (SetT X.prog X.w s.heap.objs.size []), I.laid (t' := s.toks) (fun b u e => Heap.get?_push_of_some _ e) (Nat.le_refl _) (setT_new new), rfl, q _ (I.hok.fresh (Nat.le_refl _))⟩
def rSAddT (P : Program) (w : World) : V → List V → Hp → VK → Prop := fun x xs H Q => ∃ (a : Addr) (k : Str) (l : List Str), x = V.ref a ∧ xs = [.str k] ∧ H a = some (SetT P w a l) ∧ l.length + 1 < scanBound ∧ Q .non (upd H a (SetT P w a (if k ∈ l then l else k :: l)))
theorem mt_saddT : MtR X "set.add" (rSAddT X.prog X.w) := by
  intro pins s σ H x xs v us Q I rx rxs h
  obtain ⟨a, k, l, rfl, rfl, ha, room, q⟩ := h
  cases rx
  cases rxs with
  | cons ry rt =>
    cases rt
    obtain ⟨t, rfl⟩ := ry
    have R : TxtSet X.prog X.w s.heap a l := (I.hok a _ ha).1
    refine call_addT R room fun h' sb new => ?_
    have he : ∃ u, h'.get? a = some u := by
      have ⟨D, e, _⟩ := new
      exact ⟨_, e⟩
    exact ⟨.non, upd H a (SetT X.prog X.w a (if k ∈ l then l else k :: l)), I.write (e := a) (t' := s.toks + 1) (by rw [ha]; trivial) (.inl rfl) (fun b u hb hu => (sb.2 b hb).trans hu) he (setT_new new), rfl, q⟩
def tSAddT (P : Program) (w : World) (to te : TE) : TE := fun σ H Q => to σ H fun x H1 => (∃ a l, x = V.ref a ∧ H1 a = some (SetT P w a l)) ∧ te σ H1 fun y H2 => rSAddT P w x [y] H2 Q
theorem pe_saddT {o e : Expr} {to te : TE} {apos cpos : Pos} (ho : PE X o to) (he : PE X e te)
    (hbase : attributeBase o "add" X.env (eval o X.env) = eval o X.env := by rfl)
    (hfew : ((backTo cpos (starEach [e] X.env)).all (fun x => !x.1) && (backToKw cpos (keywordEach [] X.env)).all (fun x => x.1.isSome)
      && decide (([e] : List Expr).length + ([] : List Keyword).length + (if ([] : List Keyword).isEmpty then 0 else 1) < 30)) = true := by rfl)
    (hline : (apos.endLine == cpos.line) = true := by rfl) (hs : starEach [e] X.env = [(false, eval e X.env)] := by rfl) :
    PE X (.Call (.Attribute o "add" apos) [e] [] cpos) (tSAddT X.prog X.w to te) := by
  refine ⟨fun pins s σ H Q I h => ?_⟩
  refine wpAny_Call_method_late hbase hfew hline rfl (thn (ho.run pins s σ H _ I h) fun v s1 ⟨x, H1, I1, r1, ty, q1⟩ => ?_)
  obtain ⟨a, l, rfl, hka⟩ := ty
  have R : TxtSet X.prog X.w s1.heap a l := (I1.hok a _ hka).1
  cases r1
  have ⟨D, hD, _⟩ := R
  refine ⟨"set", "set.add", PySem.F.plainAttrs_set, PySem.F.slot_set_add, PySem.F.type_set_add, R.typeIs, (fun b e => by cases e; exact ⟨_, hD, rfl⟩), ?_⟩
  rw [hs]
  refine Calls.callWith_builtin rfl (Calls.evalArgs_plain (Calls.spliced_cons (thn (he.run pins s1 σ H1 _ I1 q1) fun iv s2 ⟨y, H2, I2, ry, q2⟩ => Calls.spliced_nil ?_)))
  exact mt_saddT pins s2 σ H2 (.ref a) [y] (.ref a) [iv] Q I2 rfl (.cons ry .nil) q2
/-- sorted(found) -/
def rSortT (P : Program) (w : World) : List V → Hp → VK → Prop := fun vs H Q => ∃ (a : Addr) (l : List Str), vs = [.ref a] ∧ H a = some (SetT P w a l) ∧ l.Nodup ∧ l.length < 64 ∧
  ∀ (l' : List Str) (p : Addr), l'.Perm l → l'.Pairwise slt → H p = none → Q (.ref p) (upd H p (.lst (l'.map V.str)))
theorem strs_all {l : List Str} {vs : List Value} (h : ∀ v ∈ vs, ∃ x t, v = Value.str x t ∧ x ∈ l) : StrsAre vs (vs.map strOf) := strsAre_map vs fun v hv => let ⟨x, t, e, _⟩ := h v hv; ⟨x, t, e⟩
theorem perm_of_sub : ∀ {l m : List Str}, l.Nodup → (∀ x ∈ l, x ∈ m) → m.length = l.length → m.Perm l
  | [], m, _, _, e => by
    rw [List.length_eq_zero_iff.mp e]
  | x :: r, m, h, s, e => by
    obtain ⟨h1, h2⟩ := List.nodup_cons.mp h
    have hx : x ∈ m := s x (by simp)
    have ih := perm_of_sub (m := m.erase x) h2 (fun y hy => (List.mem_erase_of_ne (fun z => h1 (by rw [← z]; exact hy))).mpr (s y (by simp [hy]))) (by rw [List.length_erase_of_mem hx, e]; rfl)
    exact (List.perm_cons_erase hx).trans (ih.cons x)
theorem str_of_is {P : Program} {w : World} {k : Str} {v : Value} (h : (strKind P w).is k v = true) : ∃ t, v = .str k t := by
  rcases keyIs_shape (k := (Sum.inr k : L2.Key)) (show keyIs (.inr k) v = true from h) with ⟨_, _, e, _⟩ | ⟨x, t, e, e2⟩
  · cases e
  · cases e
    exact ⟨t, e2⟩
theorem cr_sortedT (hc : X.calm = true) : CallR X (.builtin "sorted") (rSortT X.prog X.w) := by
  intro pins s σ H xs us Q I r h
  obtain ⟨a, l, rfl, ha, nl, h64, q⟩ := h
  obtain rfl := Vals.ref1 r
  obtain ⟨⟨es, ep, t⟩, ho, F, ri, le⟩ := (show TxtSet X.prog X.w s.heap a l from (I.hok a _ ha).1)
  have hsz : es.size = l.length := F.sz
  refine Calls.call_function_entry kind_sorted plain_sorted entry_sorted (args_sorted1 _) ?_
  unfold Builtin.«sorted»
  refine wpAny_bind (m := checkCount "sorted" 1 1 _) (wpAny_pure ?_)
  refine wpAny_bind (collect_set (A := X.A.in1) (I.ok.hd hc) ⟨_, ho, rfl, rfl⟩ F.fit (by rw [hsz]; exact Nat.lt_trans h64 (by decide)) ri le fun s1 vs k1 hz g1 o1 pm => ?_)
  have hvl : vs.length = l.length := by rw [pm.length_eq, List.length_map, Array.length_toList, hsz]
  have isv : ∀ v ∈ vs, ∃ x t, v = Value.str x t ∧ x ∈ l := fun v hv => by
    obtain ⟨e, he, q⟩ := List.mem_map.mp (pm.mem_iff.mp hv)
    obtain ⟨⟨k, hk, _⟩, _⟩ := F.el e he
    obtain ⟨t, et⟩ := str_of_is hk
    exact ⟨k, t, by rw [← q]; exact et, (F.mem k).mpr ⟨e, he, hk⟩⟩
  have hS := strs_all isv
  have pl : (vs.map strOf).Perm l := by
    refine perm_of_sub nl (fun x hx => ?_) (by rw [List.length_map, hvl])
    obtain ⟨e, he, hk⟩ := (F.mem x).mp hx
    obtain ⟨t, et⟩ := str_of_is hk
    exact List.mem_map.mpr ⟨e.2, pm.mem_iff.mpr (List.mem_map.mpr ⟨e, he, rfl⟩), by rw [et]; rfl⟩
  refine wpAny_bind (wpAny_newList ?_ (by rw [hvl, sizeLine_eq]; omega))
  have hoL : (s1.heap.push { cls := .type "list", data := .seq vs.toArray }).get? s1.heap.objs.size = some (seqObj "list" vs.toArray 0) := Heap.get?_push_size _ rfl
  refine wpAny_bind (wpAny_holding (wpAny_call_entry PyProof.Rows.slot_list_sort ⟨_, hoL, rfl⟩ PyProof.Rows.entry_list_sort
    (SK.plain_sort (r := fun v => rankS l (strOf v)) hoL (by rw [hvl]; exact h64) (fun h2 Qk hQk => ?_) fun ps out o2 o3 o4 => ⟨.none, rfl, ?_⟩) (PyProof.Rows.args_list_sort _)))
  · have kk : keyKind' vs.toArray = pure oneType' := by
      match vs, hS, h2 with
      | v1 :: v2 :: rest, hS, _ => exact keyKind_strs hS
      | [], _, h => exact absurd h (by decide)
      | [v], _, h => exact absurd h (by simp)
    rw [kk]
    refine wpAny_pure (hQk _ ?_)
    intro p q hp hq Q' E' hQ
    rw [PyProof.Rows.pairsOf_toList] at hp hq
    obtain ⟨x, t, e1, m1⟩ := isv _ (mem_zip_self hp).2
    obtain ⟨y, u, e2, m2⟩ := isv _ (mem_zip_self hq).2
    rw [e1, e2] at hQ ⊢
    rw [keyLt'_oneType]
    refine oneLt_str ?_
    have := rankS_iff m1 m2
    show Q' (decide (slt x y)) _
    rw [this]
    exact hQ
  · have pv : out.toList.Perm vs := by
      have z := o3.map Prod.snd
      rw [List.map_snd_zip (Nat.le_refl _)] at z
      rw [o2]
      exact z
    have pl' : (out.toList.map strOf).Perm l := (pv.map strOf).trans pl
    have up : (out.toList.map strOf).Pairwise slt := by
      have nd' := pl'.nodup_iff.mpr nl
      rw [o2, List.map_map] at nd' ⊢
      rw [List.nodup_iff_pairwise_ne, List.pairwise_map] at nd'
      rw [List.pairwise_map]
      refine List.Pairwise.imp_of_mem (fun {p q} hp hq h => ?_) (o4.and nd')
      obtain ⟨a1, b1⟩ := mem_zip_self (o3.mem_iff.mp hp)
      obtain ⟨a2, b2⟩ := mem_zip_self (o3.mem_iff.mp hq)
      obtain ⟨x, t, e1, m1⟩ := isv _ b1
      obtain ⟨y, u, e2, m2⟩ := isv _ b2
      have h1 : rankS l (strOf p.1) ≤ rankS l (strOf q.1) := h.1
      have h2 : strOf p.2 ≠ strOf q.2 := h.2
      show slt (strOf p.2) (strOf q.2)
      rw [← a1, ← a2, e1, e2] at h2 ⊢
      rw [e1, e2] at h1
      have h1' : rankS l x ≤ rankS l y := h1
      have h2' : x ≠ y := h2
      show slt x y
      by_cases c : slt x y
      · exact c
      · rcases slt_or c with g | g
        · have := rankS_lt m2 g
          omega
        · exact absurd g h2'
    have hI : StrsAre out.toList (out.toList.map strOf) := strsAre_map _ fun v hv => by
      obtain ⟨x, t, e, _⟩ := isv v (pv.mem_iff.mp hv)
      exact ⟨x, t, e⟩
    have hlen : ((out.toList.map strOf).map V.str).length ≤ sizeLine := by
      rw [List.length_map, pl'.length_eq, sizeLine_eq]
      omega
    obtain ⟨eF, heF⟩ := PyProof.Rows.sortedHeap_at (vs := vs) (out := out) hoL
    have hn : H s1.heap.objs.size = none := I.hok.fresh hz
    have k2 : ∀ b o, s.heap.get? b = some o → (sortedHeap (s1.heap.push { cls := .type "list", data := .seq vs.toArray }) s1.heap.objs.size vs out).get? b = some o := fun b o e => by
      have e1 := k1 b o e
      have lt := Heap.lt_size e1
      exact (PyProof.Rows.sortedHeap_old (Nat.ne_of_lt lt) (Heap.lt_size (Heap.get?_push_of_some _ e1))).trans (Heap.get?_push_of_some _ e1)
    have rv : Vals ((out.toList.map strOf).map V.str) out.toList := vals_of_strs hI
    have J : Inv X pins σ (upd H s1.heap.objs.size (.lst ((out.toList.map strOf).map V.str))) { s with heap := sortedHeap (s1.heap.push { cls := .type "list", data := .seq vs.toArray }) s1.heap.objs.size vs out, gens := s1.gens, drawn := s1.drawn, toks := s1.toks } :=
      I.call (ch := []) (Un.laid k2 hz hn) (I.hok.laid k2 hz ⟨hlen, out.toList, eF, rv, heF⟩) (by rw [g1]; exact I.bare) (fun _ z => nomatch z)
    have es1 : ({ s1 with heap := sortedHeap (s1.heap.push { cls := .type "list", data := .seq vs.toArray }) s1.heap.objs.size vs out } : Shared) = { s with heap := sortedHeap (s1.heap.push { cls := .type "list", data := .seq vs.toArray }) s1.heap.objs.size vs out, gens := s1.gens, drawn := s1.drawn, toks := s1.toks } := by
      cases s1
      cases s
      cases o1
      rfl
    refine wpAny_pure ⟨_, rfl, ?_⟩
    rw [es1]
    exact ⟨.ref s1.heap.objs.size, _, J, rfl, q _ _ pl' up hn⟩
end
/-! ### set(xs) of a list of texts -/
/-- what the set has got from the first i items -/
structure GotS (ks : List Str) (i : Nat) (l : List Str) : Prop where
  sub : ∀ x ∈ l, x ∈ ks.take i
  all : ∀ x ∈ ks.take i, x ∈ l
  nd : l.Nodup
theorem GotS.zero (ks : List Str) : GotS ks 0 [] := ⟨(fun _ h => nomatch h), (fun _ h => by rw [List.take_zero] at h; cases h), List.nodup_nil⟩
theorem take_nextS {α : Type} {l : List α} {i : Nat} {x : α} (h : l[i]? = some x) : l.take (i + 1) = l.take i ++ [x] := by
  rw [List.take_succ, h] <;> rfl
theorem GotS.step {ks l : List Str} {i : Nat} {x : Str} (g : GotS ks i l) (h : ks[i]? = some x) : GotS ks (i + 1) (if x ∈ l then l else x :: l) := by
  by_cases c : x ∈ l
  · rw [if_pos c]
    refine ⟨fun y hy => ?_, fun y hy => ?_, g.nd⟩
    · rw [take_nextS h]
      exact List.mem_append_left _ (g.sub y hy)
    · rw [take_nextS h] at hy
      rcases List.mem_append.mp hy with z | z
      · exact g.all y z
      · rw [List.mem_singleton.mp z]; exact c
  · rw [if_neg c]
    refine ⟨fun y hy => ?_, fun y hy => ?_, List.nodup_cons.mpr ⟨c, g.nd⟩⟩
    · rw [take_nextS h]
      rcases List.mem_cons.mp hy with e | z
      · rw [e]; exact List.mem_append_right _ (List.mem_singleton.mpr rfl)
      · exact List.mem_append_left _ (g.sub y z)
    · rw [take_nextS h] at hy
      rcases List.mem_append.mp hy with z | z
      · exact List.mem_cons_of_mem _ (g.all y z)
      · rw [List.mem_singleton.mp z]; exact List.mem_cons_self
section
variable {P : Program} {w : World} {A : Around} {E : Value → Shared → Prop} {s : Shared}
theorem set_add_txt {a : Addr} {l : List Str} {k : Str} {u : Tok} {Q : Bool → Shared → Prop} (R : TxtSet P w s.heap a l) (hb : l.length + 1 < scanBound)
    (hQ : ∀ b h', Heap.SameBut a s.heap h' → TxtSet P w h' a (if k ∈ l then l else k :: l) → Q b { s with heap := h', toks := s.toks + 1 }) : wpAny (model P w) A (setAdd a (.str k u)) Q E s := by
  unfold setAdd
  refine wpAny_holding ?_
  refine wpAny_bind ((strKind P w).pyHash (PySem.Froz.is_str k u) ?_)
  by_cases hk : k ∈ l
  · refine addT_old (s := { s with toks := s.toks + 1 }) R hk (by omega) ?_
    refine hQ _ s.heap (Heap.SameBut.refl a s.heap) ?_
    rw [if_pos hk]
    exact R
  · obtain ⟨D, ho, F, ri, le⟩ := R
    refine PySem.Froz.add_x (s := { s with toks := s.toks + 1 }) (T := "set") ho F hk hb ?_
    refine hQ _ _ (Heap.SameBut.update ..) ?_
    rw [if_neg hk]
    have m := addTx_more (h := hashStr w k) (v := .str k u) ri
    exact ⟨_, PySem.Froz.get_upd _ ho rfl, PySem.Froz.add_ok u F, m.1, le.imp id fun z => by rw [m.2]; exact z⟩
theorem set_update_txts {I : Addr} {fp wr : List Addr} {G : Array GenState → Array GenState → Prop} {n : Nat} {Pv : Nat → Value → Prop} {St : Nat → Shared → Prop} {R : Result → Shared → Prop}
    (W : WalksS P w A.in1 I fp wr G n Pv St) (S : Addr) (hSf : S ∉ fp) (ks ns : List Str) (hn : n = ks.length) (hns : ∀ x ∈ ks, x ∈ ns) (hfew : ns.length + 1 < scanBound) (hval : ∀ (i : Nat) (v : Value), Pv i v → ∃ (x : Str) (u : Tok), ks[i]? = some x ∧ v = Value.str x u)
    (h0 : Heap) (hS0 : h0.get? S = none) (hw0 : ∀ b ∈ wr, h0.get? b = none) :
    ∀ (k i : Nat) (s : Shared), n - i = k → i ≤ n → St i s → (∀ b o, h0.get? b = some o → s.heap.get? b = some o) → (∃ l, TxtSet P w s.heap S l ∧ GotS ks i l) →
      (∀ s' l, Moved (S :: wr) G s s' → TxtSet P w s'.heap S l → GotS ks n l → (∀ b o, h0.get? b = some o → s'.heap.get? b = some o) → R (.ok (.ret .none)) s') →
      codeAny (model P w) A (.builtin "set.update.loop" ⟨[.ref S, .ref I], []⟩) R s := by
  have hSw : S ∉ wr := fun h => hSf (W.sub _ h)
  have hsub : ∀ b ∈ wr, b ∈ S :: wr := fun b hb => List.mem_cons_of_mem _ hb
  have keepM : ∀ {s s' : Shared}, Moved wr G s s' → (∀ b o, h0.get? b = some o → s.heap.get? b = some o) → ∀ b o, h0.get? b = some o → s'.heap.get? b = some o := fun hm hkp b o e =>
    hm.heap b o (fun hb => by rw [hw0 b hb] at e; cases e) (hkp b o e)
  have keepT : ∀ {h h' : Heap} {l : List Str}, TxtSet P w h S l → (∀ o, h.get? S = some o → h'.get? S = some o) → TxtSet P w h' S l := fun R k => by
    obtain ⟨D, e, r⟩ := R
    exact ⟨D, k _ e, r⟩
  intro k
  induction k with
  | zero =>
    intro i s hk' hi hst hkp ⟨l, hS, g⟩ hR
    have hin : i = n := by omega
    subst hin
    refine codeAny_builtin F.entry_set_update_loop ?_
    rw [Around.under_plainId F.plain_set_update_loop _]
    show wpAny _ A.in1 (pyNext (.ref I) >>= _) _ _ s
    refine wpAny_bind (W.done s _ _ hst fun s' hm => ?_)
    show wpAny _ A.in1 (ret Value.none) _ _ s'
    have hkp' := keepM hm hkp
    exact wpAny_pure (hR s' l (hm.mono hsub) (keepT hS fun o e => hm.heap S o hSw e) g hkp')
  | succ k ih =>
    intro i s hk' hi hst hkp ⟨l, hS, g⟩ hR
    have hlt : i < n := by omega
    refine codeAny_builtin F.entry_set_update_loop ?_
    rw [Around.under_plainId F.plain_set_update_loop _]
    show wpAny _ A.in1 (pyNext (.ref I) >>= _) _ _ s
    refine wpAny_bind (W.item i s _ _ hlt hst fun v s' hP hst' hm => ?_)
    obtain ⟨x, u, hx, rfl⟩ := hval i v hP
    have hkp' := keepM hm hkp
    have hS' : TxtSet P w s'.heap S l := keepT hS fun o e => hm.heap S o hSw e
    show wpAny _ A.in1 (holding [Value.str x u] (setAdd S (.str x u)) >>= _) _ _ s'
    refine wpAny_bind (wpAny_holding ?_)
    have len := nodup_len (m := ns) g.nd fun y hy => hns y (List.mem_of_mem_take (g.sub y hy))
    refine set_add_txt hS' (by omega) fun b h' hsb hS2 => ?_
    have g' := g.step hx
    have hkp2 : ∀ b o, h0.get? b = some o → h'.get? b = some o := fun b o e => (hsb.2 b (fun z => by rw [z, hS0] at e; cases e)).trans (hkp' b o e)
    refine wpAny_pure ⟨plainId_quiet F.plain_set_update_loop _, ih (i + 1) _ (by omega) hlt (W.frame _ s' _ _ hst' (Nat.le_add_right _ _) fun b hb o e => ?_) hkp2 ⟨_, hS2, g'⟩ fun s'' l2 hm'' hS'' g'' hkp'' => ?_⟩
    · rw [hsb.2 b (fun h : b = S => hSf (by rw [← h]; exact hb))]; exact e
    · refine hR s'' l2 (Moved.trans W.gtrans ((hm.mono hsub).then_heap (Nat.le_add_right _ _) fun b o hb e => ?_) hm'') hS'' g'' hkp''
      rw [hsb.2 b (fun h : b = S => hb (by rw [h]; exact List.mem_cons_self))]; exact e
theorem setT_fresh {h : Heap} {a : Addr} (ho : h.get? a = some { cls := .type "set", dict := none, data := .set #[] 0 (.fresh 0 0 (!w.params.followText "set-order")) }) : TxtSet P w h a [] :=
  ⟨(#[], 0, .fresh 0 0 (!w.params.followText "set-order")), ho, PySem.Froz.TxOk.nil rfl, List.Pairwise.nil, by
      show _ ∨ (!w.params.followText "set-order") = true
      cases w.params.followText "set-order"
      · exact .inr rfl
      · exact .inl rfl⟩
set_option maxHeartbeats 3200000 in
theorem call_set_txts {l : Addr} {items : Array Value} (ks ns : List Str) {Q : Value → Shared → Prop} (hh : A.handled = none) (hl : s.heap.IsList l items) (hit : ∀ (i : Nat) (v : Value), items[i]? = some v → ∃ (x : Str) (u : Tok), ks[i]? = some x ∧ v = Value.str x u) (hisz : items.size = ks.length)
    (hns : ∀ x ∈ ks, x ∈ ns) (hfew : ns.length + 1 < scanBound)
    (h : ∀ (h' : Heap) (tk : Nat) L, TxtSet P w h' s.heap.objs.size L → GotS ks ks.length L → (∀ b o, s.heap.get? b = some o → h'.get? b = some o) → Q (.ref s.heap.objs.size) { s with heap := h', toks := tk }) :
    wpAny (model P w) A (call (.type "set") [.ref l]) Q E s := by
  obtain ⟨c, tl, hmro⟩ := F.called_set.mro
  have hmade := F.called_set.made
  have hsub := F.called_set.sub
  refine wpAny_call (codeAny_of_tree ?_)
  show wpAny _ _ (callAny (.type "set") _) _ _ _
  refine wpAny_pure ⟨Code.quiet_builtin _ (by decide +kernel), codeAny_builtin F.entry_type_call ?_⟩
  rw [Around.under_plain (weight_type_call_type "set" [.ref l] []) rfl]
  have h1 := F.called_set.notType
  have h2 := F.called_set.canCreate
  have hct := F.typeCall_set_1 (.ref l)
  repeat (any_goals (first | assumption | wp_step))
  refine codeAny_mono (code_set_led1 (.ref l) (E := E) (Q₁ := fun obj s₁ => obj = .ref s.heap.objs.size ∧ s₁ = { s with heap := s.heap.push { cls := .type "set", dict := none, data := .set #[] 0 (.fresh 0 0 (!w.params.followText "set-order")) } }) ⟨rfl, rfl⟩) fun r s₁ hr => ?_
  cases r with
  | error e => exact hr
  | ok fl =>
    cases fl with
    | ret obj =>
      obtain ⟨rfl, rfl⟩ := hr
      have hS : (s.heap.push { cls := .type "set", dict := none, data := .set #[] 0 (.fresh 0 0 (!w.params.followText "set-order")) }).get? s.heap.objs.size = some { cls := .type "set", dict := none, data := .set #[] 0 (.fresh 0 0 (!w.params.followText "set-order")) } := Heap.get?_push_size _ rfl
      have hT : Shared.TypeIs { s with heap := s.heap.push { cls := .type "set", dict := none, data := .set #[] 0 (.fresh 0 0 (!w.params.followText "set-order")) } } (.ref s.heap.objs.size) "set" := ⟨_, hS, rfl⟩
      have hli := F.called_set.init.lookup
      have hbi := F.called_set.init.bind (.ref s.heap.objs.size)
      repeat (any_goals (first | assumption | wp_step))
      refine codeAny_mono (codeAny_call_builtin (R := wants (fun r s₂ => r = .none ∧ ∃ h' tk L, s₂ = { s with heap := h', toks := tk } ∧ TxtSet P w h' s.heap.objs.size L ∧ GotS ks ks.length L ∧
          (∀ b o, s.heap.get? b = some o → h'.get? b = some o)) E) F.called_set.init.plain F.entry_set_init (check_set_init_1 hT ?_)) fun r₂ s₂ hr₂ => ?_
      · obtain ⟨ol, hol, hcl, nl, hdl⟩ := hl
        obtain ⟨ocls, odict, odata, oslots⟩ := ol
        simp only at hcl hdl
        subst hcl; subst hdl
        have hol' : (s.heap.push { cls := .type "set", dict := none, data := .set #[] 0 (.fresh 0 0 (!w.params.followText "set-order")) }).get? l = some { cls := .type "list", dict := odict, data := .seq items nl, slots := oslots } := Heap.get?_push_of_some _ hol
        have hsls := F.sub_list_set
        have hslf := F.sub_list_frozenset
        have hne : (Value.type "list" == Value.type "dict") = false := by decide
        have hl1 : (s.heap.push { cls := .type "set", dict := none, data := .set #[] 0 (.fresh 0 0 (!w.params.followText "set-order")) }).IsList l items := ⟨_, hol', rfl, nl, rfl⟩
        unfold Builtin.«set.__init__» noKeywords Builtin.Frozenset.updateFrom
        generalize hPI : pyIter = PI
        wp_walk
        subst hPI
        refine wpAny_pyIter_list hl1 ?_
        refine wpAny_bind (wpAny_runValue ?_)
        have hlS : l < s.heap.objs.size := Heap.lt_size hol
        have hh3 : A.in1.in1.in1.handled = none := by simp [hh]
        have hz1 : (s.heap.push { cls := .type "set", dict := none, data := .set #[] 0 (.fresh 0 0 (!w.params.followText "set-order")) }).objs.size = s.heap.objs.size + 1 := Heap.size_push ..
        have hneI : l ≠ (s.heap.push { cls := .type "set", dict := none, data := .set #[] 0 (.fresh 0 0 (!w.params.followText "set-order")) }).objs.size := by
          rw [Heap.size_push]; exact Nat.ne_of_lt (Nat.lt_succ_of_lt hlS)
        have hSf : s.heap.objs.size ∉ [(s.heap.push { cls := .type "set", dict := none, data := .set #[] 0 (.fresh 0 0 (!w.params.followText "set-order")) }).objs.size, l] := by
          rw [Heap.size_push]; simp only [List.mem_cons, List.mem_singleton, List.not_mem_nil, or_false, not_or]
          exact ⟨Nat.ne_of_lt (Nat.lt_succ_self _), Nat.ne_of_gt hlS⟩
        have none_of : ∀ b, s.heap.objs.size ≤ b → s.heap.get? b = none := fun b hb => by
          cases q : s.heap.get? b with
          | none => rfl
          | some o => exact absurd (Nat.lt_of_lt_of_le (Heap.lt_size q) hb) (Nat.lt_irrefl _)
        refine set_update_txts ((Walks.list hh3 _ l hneI items).toS) s.heap.objs.size
          hSf ks ns hisz hns hfew hit s.heap (none_of _ (Nat.le_refl _)) (fun b hb => none_of b (by
            rw [List.mem_singleton.mp hb, Heap.size_push]
            exact Nat.le_succ _)) (items.size - 0) 0 _ (by omega) (Nat.zero_le _)
          ⟨⟨_, Heap.get?_push_size _ rfl, rfl, rfl⟩, (hl1.push _)⟩ (fun b o e => Heap.get?_push_of_some _ (Heap.get?_push_of_some _ e)) ?hS0 ?hR
        case hS0 =>
          have hget : ((s.heap.push { cls := .type "set", dict := none, data := .set #[] 0 (.fresh 0 0 (!w.params.followText "set-order")) }).push { cls := .type "list_iterator", data := .fields #[.ref l, .int 0 0] }).get? s.heap.objs.size
              = some { cls := .type "set", dict := none, data := .set #[] 0 (.fresh 0 0 (!w.params.followText "set-order")) } := Heap.get?_push_of_some _ hS
          exact ⟨[], setT_fresh hget, GotS.zero ks⟩
        case hR =>
          intro s' L hm hS' g' hkp
          obtain ⟨h', g2, d', tk', os'⟩ := s'
          have eg : g2 = s.gens := hm.gens
          have ed : d' = s.drawn := hm.drawn
          have eo : os' = s.os := hm.os
          subst eg; subst ed; subst eo
          show wpAny _ _ _ _ _ _
          refine wpAny_pure ?_
          show wpAny _ _ (ret Value.none) _ _ _
          rw [hisz] at g'
          exact wpAny_pure ⟨rfl, h', tk', L, rfl, hS', g', hkp⟩
      · cases r₂ with
        | error e => exact hr₂
        | ok fl₂ =>
          cases fl₂ with
          | ret r =>
            obtain ⟨rfl, h', tk, L, rfl, hS', g', hk'⟩ := hr₂
            repeat (any_goals (first | assumption | wp_step))
            exact h _ _ _ hS' g' hk'
          | _ => exact hr₂.elim
    | _ => exact hr.elim
end
section
variable {X : Cx}
def rSetOfS (K : PySem.W.Frag) (P : Program) (w : World) : List V → Hp → VK → Prop := fun xs H Q => ∃ (l : Addr) (ks ns : List Str), xs = [V.ref l] ∧ SqL K H l (ks.map V.str) ∧ (∀ x ∈ ks, x ∈ ns) ∧ ns.length + 1 < scanBound ∧
  ∀ a L, H a = none → (∀ x ∈ L, x ∈ ks) → (∀ x ∈ ks, x ∈ L) → L.Nodup → Q (.ref a) (upd H a (SetT P w a L))
theorem cr_setOfS (hc : X.calm = true) : CallR X (.type "set") (rSetOfS X.K X.prog X.w) := by
  intro pins s σ H xs us Q I r h
  obtain ⟨l, ks, ns, rfl, hl, hns, hf, q⟩ := h
  rw [Vals.ref1 r]
  obtain ⟨its, rv, pl, hz⟩ := I.list hl
  have hn : H s.heap.objs.size = none := I.hok.fresh (Nat.le_refl _)
  have len : its.length = ks.length := by
    have := Paired.length rv
    rw [List.length_map] at this
    exact this.symm
  refine call_set_txts (P := X.prog) (w := X.w) ks ns (I.ok.hd hc) pl.isList (fun i v hv => ?_) (by rw [List.size_toArray]; exact len) hns hf fun h' tk L R g k => ?_
  · have hv' : its[i]? = some v := by
      rw [← hv, List.getElem?_toArray]
    obtain ⟨hi, _⟩ := List.getElem?_eq_some_iff.mp hv'
    have hk : i < ks.length := by omega
    obtain ⟨u, hu, ru⟩ := Vals.get rv (i := i) (x := V.str ks[i]) (by rw [List.getElem?_map, List.getElem?_eq_getElem hk]; rfl)
    rw [hv'] at hu
    cases hu
    obtain ⟨t, e⟩ := ru
    exact ⟨ks[i], t, List.getElem?_eq_getElem hk, e⟩
  · refine ⟨.ref s.heap.objs.size, upd H s.heap.objs.size (SetT X.prog X.w s.heap.objs.size L), I.laid (t' := tk) k (Nat.le_refl _) (setT_new R), rfl, q _ L hn (fun x hx => ?_) (fun x hx => ?_) g.nd⟩
    · exact List.mem_of_mem_take (g.sub x hx)
    · exact g.all x (by rw [List.take_length]; exact hx)
end
/-! ### sorted(d) of a dict whose keys are texts -/
def rSortDS : List V → Hp → VK → Prop := fun vs H Q => ∃ (a : Addr) (kvs : List (L2.Key × V)) (l : List Str), vs = [.ref a] ∧ H a = some (.dK kvs) ∧ kvs.map (·.1) = l.map Sum.inr ∧ l.Nodup ∧ l.length < 64 ∧
  ∀ (l' : List Str) (p : Addr), l'.Perm l → l'.Pairwise slt → H p = none → Q (.ref p) (upd H p (.lst (l'.map V.str)))
theorem cr_sortedDS {X : Cx} (hc : X.calm = true) : CallR X (.builtin "sorted") rSortDS := by
  intro pins s σ H xs us Q I r h
  obtain ⟨a, kvs, l, rfl, ha, ek, nl, h64, q⟩ := h
  obtain rfl := Vals.ref1 r
  obtain ⟨z, lo, vs, rk, hd⟩ := dk_of I.hok ha
  obtain ⟨ep, hat⟩ := hd.dictAt
  have hl : kvs.length = vs.length := Paired.length rk
  have hln : l.length = kvs.length := by
    have := congrArg List.length ek
    rw [List.length_map, List.length_map] at this
    exact this.symm
  refine Calls.call_function_entry kind_sorted plain_sorted entry_sorted (args_sorted1 _) ?_
  unfold Builtin.«sorted»
  refine wpAny_bind (m := checkCount "sorted" 1 1 _) (wpAny_pure ?_)
  refine wpAny_bind (PySem.W.kdu_collect (A := X.A.in1) (PySem.W.kdl_dict (knd := mixKind X.prog X.w) (kvs := vs) (ep := ep) lo) (I.ok.hd hc) hat (by rw [← hl]; exact z) fun h' tk acc hk hacc => ?_)
  have la : acc.toList.length = vs.length := by rw [Array.length_toList]; exact hacc.1
  have hvl : acc.toList.length = l.length := by omega
  have isv' : ∀ (j : Nat) (v : Value), acc.toList[j]? = some v → ∃ x t, v = Value.str x t ∧ l[j]? = some x := fun j v h1 => by
    obtain ⟨k, x, hky, hi⟩ := hacc.2 j v (by rw [← Array.getElem?_toList]; exact h1)
    have e1 : (kvs.map (·.1))[j]? = some k := by rw [KV.keys rk, List.getElem?_map, hky]; rfl
    obtain ⟨hj, _⟩ := List.getElem?_eq_some_iff.mp h1
    have hjl : j < l.length := by omega
    rw [ek, List.getElem?_map, List.getElem?_eq_getElem hjl] at e1
    have e2 : Sum.inr l[j] = k := Option.some.inj e1
    rw [← e2] at hi
    rcases keyIs_shape (k := (Sum.inr l[j] : L2.Key)) hi with ⟨_, _, y, _⟩ | ⟨x, t, e3, y⟩
    · cases y
    · cases e3
      exact ⟨l[j], t, y, List.getElem?_eq_getElem hjl⟩
  have isv : ∀ v ∈ acc.toList, ∃ x t, v = Value.str x t ∧ x ∈ l := fun v hv => by
    obtain ⟨j, hj, e⟩ := List.getElem_of_mem hv
    obtain ⟨x, t, e1, e2⟩ := isv' j v (by rw [List.getElem?_eq_getElem hj, e])
    exact ⟨x, t, e1, List.mem_of_getElem? e2⟩
  have hS := strs_all isv
  have pl0 : acc.toList.map strOf = l := by
    refine List.ext_getElem? fun j => ?_
    rw [List.getElem?_map]
    cases h1 : acc.toList[j]? with
    | none =>
      have z := List.getElem?_eq_none_iff.mp h1
      rw [List.getElem?_eq_none_iff.mpr (by omega)]
      rfl
    | some v =>
      obtain ⟨x, t, e1, e2⟩ := isv' j v h1
      rw [e1, e2]
      rfl
  have pl : (acc.toList.map strOf).Perm l := by rw [pl0]
  have hsz : acc.toList.length ≤ sizeLine := by rw [la, ← hl]; exact z
  refine wpAny_bind (wpAny_newList ?_ (by rw [hvl, sizeLine_eq]; omega))
  have hoL : (h'.push { cls := .type "list", data := .seq acc.toList.toArray }).get? h'.objs.size = some (seqObj "list" acc.toList.toArray 0) := Heap.get?_push_size _ rfl
  refine wpAny_bind (wpAny_holding (wpAny_call_entry PyProof.Rows.slot_list_sort ⟨_, hoL, rfl⟩ PyProof.Rows.entry_list_sort
    (SK.plain_sort (r := fun v => rankS l (strOf v)) hoL (by rw [hvl]; exact h64) (fun h2 Qk hQk => ?_) fun ps out o2 o3 o4 => ⟨.none, rfl, ?_⟩) (PyProof.Rows.args_list_sort _)))
  · have kk : keyKind' acc.toList.toArray = pure oneType' := by
      match acc.toList, hS, h2 with
      | v1 :: v2 :: rest, hS, _ => exact keyKind_strs hS
      | [], _, h => exact absurd h (by decide)
      | [v], _, h => exact absurd h (by simp)
    rw [kk]
    refine wpAny_pure (hQk _ ?_)
    intro p q hp hq Q' E' hQ
    rw [PyProof.Rows.pairsOf_toList] at hp hq
    obtain ⟨x, t, e1, m1⟩ := isv _ (mem_zip_self hp).2
    obtain ⟨y, u, e2, m2⟩ := isv _ (mem_zip_self hq).2
    rw [e1, e2] at hQ ⊢
    rw [keyLt'_oneType]
    refine oneLt_str ?_
    have := rankS_iff m1 m2
    show Q' (decide (slt x y)) _
    rw [this]
    exact hQ
  · have pv : out.toList.Perm acc.toList := by
      have z := o3.map Prod.snd
      rw [List.map_snd_zip (Nat.le_refl _)] at z
      rw [o2]
      exact z
    have pl' : (out.toList.map strOf).Perm l := (pv.map strOf).trans pl
    have up : (out.toList.map strOf).Pairwise slt := by
      have nd' := pl'.nodup_iff.mpr nl
      rw [o2, List.map_map] at nd' ⊢
      rw [List.nodup_iff_pairwise_ne, List.pairwise_map] at nd'
      rw [List.pairwise_map]
      refine List.Pairwise.imp_of_mem (fun {p q} hp hq h => ?_) (o4.and nd')
      obtain ⟨a1, b1⟩ := mem_zip_self (o3.mem_iff.mp hp)
      obtain ⟨a2, b2⟩ := mem_zip_self (o3.mem_iff.mp hq)
      obtain ⟨x, t, e1, m1⟩ := isv _ b1
      obtain ⟨y, u, e2, m2⟩ := isv _ b2
      have h1 : rankS l (strOf p.1) ≤ rankS l (strOf q.1) := h.1
      have h2 : strOf p.2 ≠ strOf q.2 := h.2
      show slt (strOf p.2) (strOf q.2)
      rw [← a1, ← a2, e1, e2] at h2 ⊢
      rw [e1, e2] at h1
      have h1' : rankS l x ≤ rankS l y := h1
      have h2' : x ≠ y := h2
      show slt x y
      by_cases c : slt x y
      · exact c
      · rcases slt_or c with g | g
        · have := rankS_lt m2 g
          omega
        · exact absurd g h2'
    have hI : StrsAre out.toList (out.toList.map strOf) := strsAre_map _ fun v hv => by
      obtain ⟨x, t, e, _⟩ := isv v (pv.mem_iff.mp hv)
      exact ⟨x, t, e⟩
    obtain ⟨eF, heF⟩ := PyProof.Rows.sortedHeap_at (vs := acc.toList) (out := out) hoL
    have hlen : ((out.toList.map strOf).map V.str).length ≤ sizeLine := by
      rw [List.length_map, pl'.length_eq, sizeLine_eq]
      omega
    have I' : Inv X pins σ H { s with heap := h', toks := tk } := I.kept (t' := tk) hk
    have kF : ∀ b o, h'.get? b = some o → (sortedHeap (h'.push { cls := .type "list", data := .seq acc.toList.toArray }) h'.objs.size acc.toList out).get? b = some o := fun b o e =>
      (PyProof.Rows.sortedHeap_old (Nat.ne_of_lt (Heap.lt_size e)) (Heap.lt_size (Heap.get?_push_of_some _ e))).trans (Heap.get?_push_of_some _ e)
    exact wpAny_pure ⟨_, rfl, .ref h'.objs.size, upd H h'.objs.size (.lst ((out.toList.map strOf).map V.str)), I'.laid (t' := tk) kF (Nat.le_refl _) ⟨hlen, out.toList, eF, vals_of_strs hI, heF⟩, rfl, q _ _ pl' up (I'.hok.fresh (Nat.le_refl _))⟩
/-! ### names_of -/
def insT (L : List Str) (x : Str) : List Str := if x ∈ L then L else L ++ [x]
def insA (L M : List Str) : List Str := M.foldl insT L
theorem insA_append (L M N : List Str) : insA L (M ++ N) = insA (insA L M) N := List.foldl_append ..
theorem insT_mem {L : List Str} {x y : Str} : y ∈ insT L x ↔ y ∈ L ∨ y = x := by
  unfold insT
  by_cases c : x ∈ L
  · rw [if_pos c]
    exact ⟨.inl, fun h => h.elim id fun z => by rw [z]; exact c⟩
  · rw [if_neg c, List.mem_append, List.mem_singleton]
theorem insT_nd {L : List Str} {x : Str} (h : L.Nodup) : (insT L x).Nodup := by
  unfold insT
  by_cases c : x ∈ L
  · rw [if_pos c]
    exact h
  · rw [if_neg c]
    exact List.nodup_append.mpr ⟨h, List.nodup_cons.mpr ⟨by simp, List.nodup_nil⟩, fun a ha b hb => by rw [List.mem_singleton.mp hb]; exact fun z => c (z ▸ ha)⟩
theorem insA_mem {y : Str} : ∀ {M L : List Str}, y ∈ insA L M ↔ y ∈ L ∨ y ∈ M
  | [], L => by simp [insA]
  | x :: M, L => by
    show y ∈ insA (insT L x) M ↔ _
    rw [insA_mem, insT_mem, List.mem_cons, or_assoc]
theorem insA_nd : ∀ {M L : List Str}, L.Nodup → (insA L M).Nodup
  | [], L, h => h
  | x :: M, L, h => insA_nd (M := M) (insT_nd (x := x) h)
def dT (L : List Str) : List (L2.Key × V) := L.map fun x => (.inr x, .bl true)
theorem dT_put (L : List Str) (x : Str) : putK (dT L) (Sum.inr x) (.bl true) = dT (insT L x) := by
  unfold putK insT dT
  have e : ((L.map fun x => ((Sum.inr x : L2.Key), V.bl true)).any fun kv => decide (kv.1 = (Sum.inr x : L2.Key))) = true ↔ x ∈ L := by
    rw [List.any_map, List.any_eq_true]
    constructor
    · rintro ⟨y, hy, z⟩
      have z : (Sum.inr y : L2.Key) = Sum.inr x := of_decide_eq_true z
      rw [← Sum.inr.inj z]
      exact hy
    · intro h
      exact ⟨x, h, decide_eq_true rfl⟩
  by_cases c : x ∈ L
  · rw [if_pos (e.mpr c), if_pos c, List.map_map]
    refine List.map_congr_left fun a _ => ?_
    show (if (Sum.inr a : L2.Key) = Sum.inr x then ((Sum.inr a : L2.Key), V.bl true) else (Sum.inr a, V.bl true)) = (Sum.inr a, V.bl true)
    by_cases z : (Sum.inr a : L2.Key) = Sum.inr x
    · rw [if_pos z]
    · rw [if_neg z]
  · rw [if_neg (fun z => c (e.mp z)), if_neg c, List.map_append]
    rfl
theorem dT_len (L : List Str) : (dT L).length = L.length := List.length_map ..
/-- names of ns, each once -/
structure Few (ns L : List Str) : Prop where
  nd : L.Nodup
  of : ∀ x ∈ L, x ∈ ns
theorem Few.len {ns L : List Str} (h : Few ns L) : L.length ≤ ns.length := nodup_len h.nd h.of
theorem Few.put {ns L : List Str} {x : Str} (h : Few ns L) (hx : x ∈ ns) : Few ns (insT L x) := ⟨insT_nd h.nd, fun y hy => (insT_mem.mp hy).elim (h.of y) fun z => by rw [z]; exact hx⟩
theorem Few.all {ns L M : List Str} (h : Few ns L) (hM : ∀ x ∈ M, x ∈ ns) : Few ns (insA L M) := ⟨insA_nd h.nd, fun y hy => (insA_mem.mp hy).elim (h.of y) (hM y)⟩
section
variable {P : Program} {w : World} {K : PySem.W.Frag} {mg : Str → Option Value} {base : Heap} {C : Addr}
def spFindE (K : PySem.W.Frag) : Nat → Sp
  | 0 => fun _ _ _ _ => False
  | k + 1 => fun vs H Q _ => ∃ (p d : Addr) (t : Ex) (ns L : List Str), vs = [.ref p, .ref d] ∧ ExAt K H p t ∧ ExOk ns k t ∧ H d = some (.dK (dT L)) ∧ Few ns L ∧ ns.length < 1000 ∧ ∀ H', H' d = some (.dK (dT (insA L (namesE t)))) → Else d H H' → Q .non H'
theorem ok_find_in_expression {f : Addr} {fd : FuncData} (T : Txt K mg C) (F : DefAt K mg "_find_in_expression" "_find_in_expression" s_find_in_expression ["expression", "found"] f fd) : ∀ k, FnOk P w K mg base CX0 k f fd ["expression", "found"] (spFindE K k)
  | 0 => ⟨fun _ _ _ _ h => False.elim h, fun _ _ _ _ _ _ _ _ _ _ _ _ _ h => False.elim h⟩
  | k + 1 => by
    have G_find_in_expression := ok_find_in_expression T F k
    have D_find_in_expression := F
    refine F.F.ok sc_find_in_expression (fun vs H Q E h => ?_) (fun cdv A outer s H vs Q E hr h => ?_)
    · obtain ⟨p, d, t, ns, L, rfl, _⟩ := h
      rfl
    · obtain ⟨p, d, t, ns, L, rfl, tr, ok, ed, fw, hns, q⟩ := h
      refine ⟨_, (pss_one (ps_if (pt_cmpR op_eq (pe_ix ix_tup (pv 0) pe_int (fun _ _ => rfl)) pe_str (nomark _)) (pss_one (ps_dput (room1 hr) (pv 1) (pe_ix ix_tup (pv 0) pe_int (fun _ _ => rfl)) pe_bl rfl)) (pss_one (ps_if (pt_cmpR op_ne (pe_ix ix_tup (pv 0) pe_int (fun _ _ => rfl)) pe_str (nomark _)) (pss_cons (ps_expr (pe_call G_find_in_expression (hr.mono (by omega)) (by rfl) D_find_in_expression.g D_find_in_expression.F.kp D_find_in_expression.b .nil pass0 (pa_cons (pe_ix ix_tup (pv 0) pe_int (fun _ _ => rfl)) (pa_cons (pv 1) pa_nil)))) (pss_one (ps_expr (pe_call G_find_in_expression (hr.mono (by omega)) (by rfl) D_find_in_expression.g D_find_in_expression.F.kp D_find_in_expression.b .nil pass0 (pa_cons (pe_ix ix_tup (pv 0) pe_int (fun _ _ => rfl)) (pa_cons (pv 1) pa_nil)))))) pss_nil)))), ?_⟩
      have lenL : (dT L).length < sizeLine := by
        rw [dT_len, sizeLine_eq]
        have := fw.len
        omega
      cases t with
      | num n =>
        refine ⟨_, rfl, p, _, _, _, rfl, rfl, tr, atI_nat (j := 0) rfl, rfl, _, rfl, ite2 (fun e => absurd e (by decide)) (fun e => ?_)⟩
        refine ⟨_, rfl, p, _, _, _, rfl, rfl, tr, atI_nat (j := 0) rfl, rfl, _, rfl, ite2 (fun e => absurd e (by decide)) (fun e => ?_)⟩
        exact q H ed (.refl d H)
      | name x =>
        refine ⟨_, rfl, p, _, _, _, rfl, rfl, tr, atI_nat (j := 0) rfl, rfl, _, rfl, ite2 (fun e => ?_) (fun e => absurd (by decide) e)⟩
        refine ⟨_, rfl, _, rfl, p, _, _, _, rfl, rfl, tr, atI_nat (j := 1) rfl, d, _, rfl, DPut.k (k := .inr x) ed lenL, ?_⟩
        rw [dT_put]
        exact q _ upd_same Else.upd
      | add a b =>
        cases k with
        | zero => exact False.elim ok
        | succ k =>
          obtain ⟨pa, pb, tp, ta, tb⟩ := tr
          obtain ⟨oa, ob⟩ := ok
          refine ⟨_, rfl, p, _, _, _, rfl, rfl, tp, atI_nat (j := 0) rfl, rfl, _, rfl, ite2 (fun e => absurd e (by decide)) (fun e => ?_)⟩
          refine ⟨_, rfl, p, _, _, _, rfl, rfl, tp, atI_nat (j := 0) rfl, rfl, _, rfl, ite2 (fun e => ?_) (fun e => absurd (by decide) e)⟩
          refine ⟨_, rfl, p, _, _, _, rfl, rfl, tp, atI_nat (j := 1) rfl, _, rfl, pa, d, a, ns, L, rfl, ta, oa, ed, fw, hns, fun H1 e1 s1 => ?_⟩
          have t1 := s1.tups ed True.intro
          refine ⟨_, rfl, p, _, _, _, rfl, rfl, SqT.keeps tp t1, atI_nat (j := 2) rfl, _, rfl, pb, d, b, ns, _, rfl, tb.stay t1, ob, e1, fw.all (namesE_in oa), hns, fun H2 e2 s2 => ?_⟩
          exact q H2 (by rw [show namesE (.add a b) = namesE a ++ namesE b from rfl, insA_append]; exact e2) (s1.trans s2)
      | mul a b =>
        cases k with
        | zero => exact False.elim ok
        | succ k =>
          obtain ⟨pa, pb, tp, ta, tb⟩ := tr
          obtain ⟨oa, ob⟩ := ok
          refine ⟨_, rfl, p, _, _, _, rfl, rfl, tp, atI_nat (j := 0) rfl, rfl, _, rfl, ite2 (fun e => absurd e (by decide)) (fun e => ?_)⟩
          refine ⟨_, rfl, p, _, _, _, rfl, rfl, tp, atI_nat (j := 0) rfl, rfl, _, rfl, ite2 (fun e => ?_) (fun e => absurd (by decide) e)⟩
          refine ⟨_, rfl, p, _, _, _, rfl, rfl, tp, atI_nat (j := 1) rfl, _, rfl, pa, d, a, ns, L, rfl, ta, oa, ed, fw, hns, fun H1 e1 s1 => ?_⟩
          have t1 := s1.tups ed True.intro
          refine ⟨_, rfl, p, _, _, _, rfl, rfl, SqT.keeps tp t1, atI_nat (j := 2) rfl, _, rfl, pb, d, b, ns, _, rfl, tb.stay t1, ob, e1, fw.all (namesE_in oa), hns, fun H2 e2 s2 => ?_⟩
          exact q H2 (by rw [show namesE (.mul a b) = namesE a ++ namesE b from rfl, insA_append]; exact e2) (s1.trans s2)
def spFindR (K : PySem.W.Frag) : Nat → Sp
  | 0 => fun _ _ _ _ => False
  | n + 1 => fun vs H Q _ => ∃ (p d : Addr) (r : Rw) (ns L : List Str), vs = [.ref p, .ref d] ∧ RwAt K H p r ∧ RwOk ns r n ∧ H d = some (.dK (dT L)) ∧ Few ns L ∧ ns.length < 1000 ∧ ∀ H', H' d = some (.dK (dT (insA L (namesR r)))) → Else d H H' → Q .non H'
set_option maxHeartbeats 4000000 in
theorem ok_find_in_row {f : Addr} {fd : FuncData} (T : Txt K mg C) (F : DefAt K mg "_find_in_row" "_find_in_row" s_find_in_row ["row", "found"] f fd) : ∀ n, FnOk P w K mg base CX0 (n + 6) f fd ["row", "found"] (spFindR K n)
  | 0 => ⟨fun _ _ _ _ h => False.elim h, fun _ _ _ _ _ _ _ _ _ _ _ _ _ h => False.elim h⟩
  | n + 1 => by
    have G_find_in_row := ok_find_in_row T F n
    have D_find_in_row := F
    obtain ⟨f1, fd1, D_find_in_expression⟩ := T.d_find_in_expression
    have G_find_in_expression : FnOk P w K mg base CX0 6 f1 fd1 ["expression", "found"] (spFindE K 6) := ok_find_in_expression T D_find_in_expression 6
    refine F.F.ok sc_find_in_row (fun vs H Q E h => ?_) (fun cdv A outer s H vs Q E hr h => ?_)
    · obtain ⟨p, d, r, ns, L, rfl, _⟩ := h
      rfl
    · obtain ⟨p, d, r, ns, L, rfl, rat, ok, ed, fw, hns, q⟩ := h
      refine ⟨_, (pss_one (ps_for PassesOwn.never rfl (pi_tup (pe_ix ix_tup (pv 0) pe_int (fun _ _ => rfl))) (pg_name (i := 2) sc_find_in_row.nd rfl (.inl rfl)) (pss_cons (ps_if (pt_cmpR op_eq (pe_ix ix_tup (pv 2) pe_int (fun _ _ => rfl)) pe_str (nomark _)) (pss_one (ps_expr (pe_call G_find_in_expression (hr.mono (by omega)) (by rfl) D_find_in_expression.g D_find_in_expression.F.kp D_find_in_expression.b .nil pass0 (pa_cons (pe_ix ix_tup (pv 2) pe_int (fun _ _ => rfl)) (pa_cons (pv 1) pa_nil))))) (pss_cons (ps_dput (room1 hr) (pv 1) (pe_ix ix_tup (pv 2) pe_int (fun _ _ => rfl)) pe_bl rfl) (pss_one (ps_expr (pe_call G_find_in_expression (hr.mono (by omega)) (by rfl) D_find_in_expression.g D_find_in_expression.F.kp D_find_in_expression.b .nil pass0 (pa_cons (pe_ix ix_tup (pv 2) pe_int (fun _ _ => rfl)) (pa_cons (pv 1) pa_nil))))))) (pss_one (ps_if (pt_cmpR op_eq (pe_ix ix_tup (pv 2) pe_int (fun _ _ => rfl)) pe_str (nomark _)) (pss_one (ps_expr (pe_call G_find_in_row (hr.mono (by omega)) (by rfl) D_find_in_row.g D_find_in_row.F.kp D_find_in_row.b .nil pass0 (pa_cons (pe_ix ix_tup (pv 2) pe_int (fun _ _ => rfl)) (pa_cons (pv 1) pa_nil))))) pss_nil))))), ?_⟩
      obtain ⟨pt, qs, a1, a2, a3⟩ := rat
      refine ⟨_, rfl, p, _, _, _, rfl, rfl, a1, atI_nat (j := 1) rfl, pt, rfl, ⟨_, a2⟩, for_tup (K := K) (a := pt) (xs := qs.map V.ref) (fun i σ H2 => ∃ (v2 : Option V) (L2 : List Str) (r2 : Rw), σ = [some (.ref p), some (.ref d), v2] ∧ H2 d = some (.dK (dT L2)) ∧ Few ns L2 ∧ Else d H H2 ∧ StsAt K H2 r2 (qs.drop i) ∧ RwOk ns r2 n ∧ insA L2 (namesR r2) = insA L (namesR r))
        ⟨none, L, r, rfl, ed, fw, .refl d H, a3, ok, rfl⟩ (fun i σ H2 _ h => ?_) ?_ ?_⟩
      · obtain ⟨_, _, _, _, _, _, s2, _⟩ := h
        exact SqT.keeps a2 (s2.tups ed True.intro)
      · rintro i x σ H2 hx ⟨v2, L2, r2, rfl, e2, fw2, s2, st, ok2, eq⟩
        rw [List.getElem?_map] at hx
        cases hy : qs[i]? with
        | none =>
          rw [hy] at hx
          cases hx
        | some q1 =>
          rw [hy] at hx
          cases hx
          obtain ⟨hi, hq⟩ := List.getElem?_eq_some_iff.mp hy
          rw [List.drop_eq_getElem_cons hi, hq] at st
          have len2 : (dT L2).length < sizeLine := by
            rw [dT_len, sizeLine_eq]
            have := fw2.len
            omega
          cases r2 with
          | nil => cases st
          | say e r3 =>
            obtain ⟨q2, t2, pe, e1, b1, b2, b3⟩ := st
            obtain ⟨z1, z2⟩ := List.cons.inj e1
            subst z1 z2
            obtain ⟨o2, o3⟩ := ok2
            refine ⟨_, rfl, q1, _, _, _, rfl, rfl, b1, atI_nat (j := 0) rfl, rfl, _, rfl, ite2 (fun c => ?_) (fun c => absurd (by decide) c)⟩
            refine ⟨_, rfl, q1, _, _, _, rfl, rfl, b1, atI_nat (j := 1) rfl, _, rfl, pe, d, e, ns, L2, rfl, b2, o2, e2, fw2, hns, fun H3 e3 s3 => ?_⟩
            have t3 := s3.tups e2 True.intro
            refine ⟨_, rfl, q1, _, _, _, rfl, rfl, SqT.keeps b1 t3, atI_nat (j := 0) rfl, rfl, _, rfl, ite2 (fun c => absurd c (by decide)) (fun c => ?_)⟩
            exact ⟨_, _, r3, rfl, e3, fw2.all (namesE_in o2), s2.trans s3, b3.stay t3, o3, by rw [← eq, show namesR (.say e r3) = namesE e ++ namesR r3 from rfl, insA_append]⟩
          | set x e r3 =>
            obtain ⟨q2, t2, pe, e1, b1, b2, b3⟩ := st
            obtain ⟨z1, z2⟩ := List.cons.inj e1
            subst z1 z2
            obtain ⟨o1, o2, o3⟩ := ok2
            refine ⟨_, rfl, q1, _, _, _, rfl, rfl, b1, atI_nat (j := 0) rfl, rfl, _, rfl, ite2 (fun c => absurd c (by decide)) (fun c => ?_)⟩
            refine ⟨_, rfl, _, rfl, q1, _, _, _, rfl, rfl, b1, atI_nat (j := 1) rfl, d, _, rfl, DPut.k (k := .inr x) e2 len2, ?_⟩
            rw [dT_put]
            have s4 : Else d H2 (upd H2 d (.dK (dT (insT L2 x)))) := .upd
            have t4 := s4.tups e2 True.intro
            have e4 : (upd H2 d (.dK (dT (insT L2 x)))) d = some (.dK (dT (insT L2 x))) := upd_same
            refine ⟨_, rfl, q1, _, _, _, rfl, rfl, SqT.keeps b1 t4, atI_nat (j := 2) rfl, _, rfl, pe, d, e, ns, insT L2 x, rfl, b2.stay t4, o2, e4, fw2.put o1, hns, fun H3 e3 s3 => ?_⟩
            have t3 := s3.tups e4 True.intro
            refine ⟨_, rfl, q1, _, _, _, rfl, rfl, SqT.keeps (SqT.keeps b1 t4) t3, atI_nat (j := 0) rfl, rfl, _, rfl, ite2 (fun c => absurd c (by decide)) (fun c => ?_)⟩
            exact ⟨_, _, r3, rfl, e3, (fw2.put o1).all (namesE_in o2), (s2.trans s4).trans s3, (b3.stay t4).stay t3, o3, by rw [← eq, ← insA_append]; rfl⟩
          | lap x m b r3 =>
            obtain ⟨q2, t2, pm, pb, pt2, qb, e1, b1, bm, c1, c2, bb, b3⟩ := st
            obtain ⟨z1, z2⟩ := List.cons.inj e1
            subst z1 z2
            obtain ⟨o1, o2, n1, _, o4, o3⟩ := ok2
            cases n with
            | zero => exact absurd n1 (by decide)
            | succ n =>
              refine ⟨_, rfl, q1, _, _, _, rfl, rfl, b1, atI_nat (j := 0) rfl, rfl, _, rfl, ite2 (fun c => absurd c (by decide)) (fun c => ?_)⟩
              refine ⟨_, rfl, _, rfl, q1, _, _, _, rfl, rfl, b1, atI_nat (j := 1) rfl, d, _, rfl, DPut.k (k := .inr x) e2 len2, ?_⟩
              rw [dT_put]
              have s4 : Else d H2 (upd H2 d (.dK (dT (insT L2 x)))) := .upd
              have t4 := s4.tups e2 True.intro
              have e4 : (upd H2 d (.dK (dT (insT L2 x)))) d = some (.dK (dT (insT L2 x))) := upd_same
              refine ⟨_, rfl, q1, _, _, _, rfl, rfl, SqT.keeps b1 t4, atI_nat (j := 2) rfl, _, rfl, pm, d, m, ns, insT L2 x, rfl, bm.stay t4, o2, e4, fw2.put o1, hns, fun H3 e3 s3 => ?_⟩
              have t3 := s3.tups e4 True.intro
              have t43 := t4.trans t3
              refine ⟨_, rfl, q1, _, _, _, rfl, rfl, SqT.keeps b1 t43, atI_nat (j := 0) rfl, rfl, _, rfl, ite2 (fun c => ?_) (fun c => absurd (by decide) c)⟩
              have fw3 := (fw2.put o1).all (namesE_in o2)
              refine ⟨_, rfl, q1, _, _, _, rfl, rfl, SqT.keeps b1 t43, atI_nat (j := 3) rfl, _, rfl, pb, d, b, ns, _, rfl, ⟨pt2, qb, SqT.keeps c1 t43, SqT.keeps c2 t43, bb.stay t43⟩, o4, e3, fw3, hns, fun H5 e5 s5 => ?_⟩
              have t5 := s5.tups e3 True.intro
              exact ⟨_, _, r3, rfl, e5, fw3.all (namesR_in o4), ((s2.trans s4).trans s3).trans s5, (b3.stay t43).stay t5, o3, by rw [← eq, ← insA_append, ← insA_append]; rfl⟩
      · rintro σ H2 ⟨v2, L2, r2, rfl, e2, fw2, s2, st, ok2, eq⟩
        rw [List.length_map, List.drop_length] at st
        have z : r2 = .nil := by
          cases r2 with
          | nil => rfl
          | set x e r => obtain ⟨_, _, _, z, _⟩ := st; cases z
          | say e r => obtain ⟨_, _, _, z, _⟩ := st; cases z
          | lap x m b r => obtain ⟨_, _, _, _, _, _, z, _⟩ := st; cases z
        rw [z] at eq
        exact q H2 (by rw [← eq]; exact e2) s2
def spNamesOf (K : PySem.W.Frag) : Sp := fun vs H Q _ => ∃ (p : Addr) (r : Rw) (ns : List Str), vs = [.ref p] ∧ RwAt K H p r ∧ RwOk ns r 3 ∧ ns.length < 64 ∧ ∀ (l : List Str) (q : Addr) (H' : Hp), l.Pairwise slt → (∀ x, x ∈ l ↔ x ∈ namesR r) → H' q = some (.lst (l.map V.str)) → Same H H' → H q = none → Q (.ref q) H'
theorem ok_names_of {f : Addr} {fd : FuncData} (T : Txt K mg C) (F : DefAt K mg "names_of" "names_of" s_names_of ["program"] f fd) : FnOk P w K mg base CX0 11 f fd ["program"] (spNamesOf K) := by
  obtain ⟨f1, fd1, D_find_in_row⟩ := T.d_find_in_row
  have G_find_in_row : FnOk P w K mg base CX0 10 f1 fd1 ["row", "found"] (spFindR K 4) := ok_find_in_row T D_find_in_row 4
  refine F.F.ok sc_names_of (fun vs H Q E h => ?_) (fun cdv A outer s H vs Q E hr h => ?_)
  · obtain ⟨p, r, ns, rfl, _⟩ := h
    rfl
  · obtain ⟨p, r, ns, rfl, rat, ok, hns, q⟩ := h
    refine ⟨_, (pss_cons (ps_set (i := 1) sc_names_of.nd rfl (.inl rfl) pe_dnewK)
      (pss_cons (ps_expr (pe_call G_find_in_row (hr.mono (by decide)) (by rfl) D_find_in_row.g D_find_in_row.F.kp D_find_in_row.b .nil pass0 (pa_cons (pv 0) (pa_cons (pv 1) pa_nil))))
      (pss_one (ps_ret (pe_callB (cr_sortedDS rfl) (by rfl) T.m_sorted (by decide +kernel) (pa_cons (pv 1) pa_nil)))))), ?_⟩
    intro d nd
    have s0 : Same H (upd H d (.dK [])) := same_upd nd
    have fw0 : Few ns [] := ⟨List.nodup_nil, (fun _ h => nomatch h)⟩
    refine ⟨_, rfl, _, rfl, p, d, r, ns, [], rfl, rat.stay (TupsStay.same s0), ok, upd_same, fw0, by omega, fun H1 e1 s1 => ?_⟩
    have fw1 := fw0.all (namesR_in ok)
    have lf := fw1.len
    refine ⟨_, rfl, d, dT (insA [] (namesR r)), insA [] (namesR r), rfl, e1, by rw [dT, List.map_map]; rfl, fw1.nd, by omega, fun l' p' pm so np => ?_⟩
    have s2 : Same H H1 := Else.fresh nd s0 s1
    refine q l' p' _ so (fun x => ?_) upd_same (s2.trans (same_upd np)) (s2.free np)
    rw [pm.mem_iff, insA_mem]
    simp
/-- two rising lists of the same texts are one -/
theorem rising_eq : ∀ {l m : List Str}, l.Pairwise slt → m.Pairwise slt → (∀ x, x ∈ l ↔ x ∈ m) → l = m
  | [], [], _, _, _ => rfl
  | [], y :: m, _, _, h => absurd ((h y).mpr (by simp)) (by simp)
  | x :: l, [], _, _, h => absurd ((h x).mp (by simp)) (by simp)
  | x :: l, y :: m, hl, hm, h => by
    obtain ⟨a1, a2⟩ := List.pairwise_cons.mp hl
    obtain ⟨b1, b2⟩ := List.pairwise_cons.mp hm
    have e : x = y := by
      rcases List.mem_cons.mp ((h x).mp (by simp)) with z | z
      · exact z
      · rcases List.mem_cons.mp ((h y).mpr (by simp)) with z2 | z2
        · exact z2.symm
        · exact absurd (slt_trans (a1 y z2) (b1 x z)) (slt_irrefl _)
    subst e
    rw [rising_eq a2 b2 fun z => ?_]
    constructor
    · intro hz
      rcases List.mem_cons.mp ((h z).mp (by simp [hz])) with k | k
      · exact absurd (k ▸ a1 z hz) (slt_irrefl _)
      · exact k
    · intro hz
      rcases List.mem_cons.mp ((h z).mpr (by simp [hz])) with k | k
      · exact absurd (k ▸ b1 z hz) (slt_irrefl _)
      · exact k
end
/-! ### bits of values -/
def bE (B : Nat) : Ex → Nat
  | .num _ => B
  | .name _ => B
  | .add a b => max (bE B a) (bE B b) + 1
  | .mul a b => bE B a + bE B b
def MulB (B : Nat) : Ex → Prop
  | .num _ => True
  | .name _ => True
  | .add a b => MulB B a ∧ MulB B b
  | .mul a b => MulB B a ∧ MulB B b ∧ bE B a + bE B b ≤ 1000000
theorem bE_pos {B : Nat} (h : 10 ≤ B) : ∀ t : Ex, 10 ≤ bE B t
  | .num _ => h
  | .name _ => h
  | .add a b => by
    have := bE_pos h a
    show 10 ≤ max (bE B a) (bE B b) + 1
    omega
  | .mul a b => by
    have := bE_pos h a
    show 10 ≤ bE B a + bE B b
    omega
theorem add_bits {x y : Int} {a b : Nat} (hx : x.natAbs < 2 ^ a) (hy : y.natAbs < 2 ^ b) : (x + y).natAbs < 2 ^ (max a b + 1) := by
  have h1 : 2 ^ a ≤ 2 ^ max a b := Nat.pow_le_pow_right (by decide) (by omega)
  have h2 : 2 ^ b ≤ 2 ^ max a b := Nat.pow_le_pow_right (by decide) (by omega)
  rw [Nat.pow_succ]
  omega
theorem val_bits {ns : List Str} {v : Str → Int} {B : Nat} (hB : 10 ≤ B) (hv : ∀ x ∈ ns, (v x).natAbs < 2 ^ B) : ∀ {t : Ex} {d : Nat}, ExOk ns d t → (valE v t).natAbs < 2 ^ bE B t
  | .num n, d, h => by
    have hn := h.of_num
    have : 2 ^ 10 ≤ 2 ^ B := Nat.pow_le_pow_right (by decide) hB
    show n.natAbs < 2 ^ B
    omega
  | .name x, d, h => hv x h.of_name
  | .add a b, 0, h => False.elim h
  | .mul a b, 0, h => False.elim h
  | .add a b, d + 1, ⟨ha, hb⟩ => add_bits (val_bits hB hv ha) (val_bits hB hv hb)
  | .mul a b, d + 1, ⟨ha, hb⟩ => wide_lt (val_bits hB hv ha) (val_bits hB hv hb)
theorem bE_zero {ns : List Str} {B : Nat} : ∀ {t : Ex}, ExOk ns 0 t → bE B t = B
  | .num _, _ => rfl
  | .name _, _ => rfl
  | .add _ _, h => False.elim h
  | .mul _ _, h => False.elim h
theorem bE_one {ns : List Str} {B : Nat} (hB : 1 ≤ B) : ∀ {t : Ex}, ExOk ns 1 t → bE B t ≤ 2 * B
  | .num _, _ => by show B ≤ _; omega
  | .name _, _ => by show B ≤ _; omega
  | .add a b, ⟨ha, hb⟩ => by
    show max (bE B a) (bE B b) + 1 ≤ _
    rw [bE_zero ha, bE_zero hb]
    omega
  | .mul a b, ⟨ha, hb⟩ => by
    show bE B a + bE B b ≤ _
    rw [bE_zero ha, bE_zero hb]
    omega
theorem mulB_zero {ns : List Str} {B : Nat} : ∀ {t : Ex}, ExOk ns 0 t → MulB B t
  | .num _, _ => True.intro
  | .name _, _ => True.intro
  | .add _ _, h => False.elim h
  | .mul _ _, h => False.elim h
theorem mulB_one {ns : List Str} {B : Nat} (hB : 4 * B ≤ 1000000) : ∀ {t : Ex}, ExOk ns 1 t → MulB B t
  | .num _, _ => True.intro
  | .name _, _ => True.intro
  | .add a b, ⟨ha, hb⟩ => ⟨mulB_zero ha, mulB_zero hb⟩
  | .mul a b, ⟨ha, hb⟩ => ⟨mulB_zero ha, mulB_zero hb, by rw [bE_zero ha, bE_zero hb]; omega⟩
theorem mulB_two {ns : List Str} {B : Nat} (h1 : 1 ≤ B) (hB : 4 * B ≤ 1000000) : ∀ {t : Ex}, ExOk ns 2 t → MulB B t
  | .num _, _ => True.intro
  | .name _, _ => True.intro
  | .add a b, ⟨ha, hb⟩ => ⟨mulB_one hB ha, mulB_one hB hb⟩
  | .mul a b, ⟨ha, hb⟩ => ⟨mulB_one hB ha, mulB_one hB hb, by
    have := bE_one h1 ha
    have := bE_one h1 hb
    omega⟩
theorem mulB_set {ns : List Str} {B : Nat} (h1 : 1 ≤ B) (hB : 4 * B ≤ 1000000) {t : Ex} (h : ExS ns t) : MulB B t := by
  rcases h with h | ⟨y, u, rfl, hy, h⟩
  · exact mulB_two h1 hB h
  · exact ⟨True.intro, mulB_two h1 hB h⟩
theorem okSet {ns : List Str} {t : Ex} (h : ExS ns t) : ExOk ns 3 t := by
  rcases h with h | ⟨y, u, rfl, hy, h⟩
  · exact h.up
  · exact ⟨ExOk.name hy _, h⟩
/-! ### runs, told as a function -/
structure Rs where
  v : Str → Int
  told : List Int
  turns : Nat
  ents : List (List Nat × Int × Nat)
def setV (v : Str → Int) (x : Str) (n : Int) : Str → Int := fun y => if y = x then n else v y
def turnsR (body : Rs → Option Rs) (most : Nat) (x : Str) : Nat → Nat → Rs → Option (Rs × Nat)
  | 0, _, _ => none
  | f + 1, c, s => if s.v x = 0 then some (s, c) else if most ≤ s.turns then none else
    match body { s with turns := s.turns + 1, v := setV s.v x (s.v x - 1) } with
    | none => none
    | some s' => turnsR body most x f (c + 1) s'
def doR (most : Nat) : Rw → List Nat → Nat → Rs → Option Rs
  | .nil, _, _, s => some s
  | .set x e r, pl, i, s => doR most r pl (i + 1) { s with v := setV s.v x (valE s.v e) }
  | .say e r, pl, i, s => doR most r pl (i + 1) { s with told := s.told ++ [valE s.v e] }
  | .lap x m b r, pl, i, s =>
    match turnsR (doR most b (pl ++ [i]) 0) most x (most + 1) 0 s with
    | none => none
    | some (s', c) => doR most r pl (i + 1) { s' with ents := s'.ents ++ [(pl ++ [i], valE s.v m, c)] }
/-! ### how great the numbers may be behind so many statements -/
structure Bd (ns : List Str) (n : Nat) (v : Str → Int) : Prop where
  g : ∀ x ∈ gsOf ns, 0 ≤ v x ∧ v x ≤ 2 ^ (2 * n + 22)
  o : ∀ x ∈ osOf ns, 0 ≤ v x ∧ v x ≤ 2 ^ (4 * n + 50)
theorem pow_up {a b : Nat} (h : a ≤ b) : (2 : Int) ^ a ≤ 2 ^ b := by
  have : (2 : Nat) ^ a ≤ 2 ^ b := Nat.pow_le_pow_right (by decide) h
  exact_mod_cast this
theorem Bd.up {ns : List Str} {n m : Nat} {v : Str → Int} (h : Bd ns n v) (l : n ≤ m) : Bd ns m v :=
  ⟨fun x hx => ⟨(h.g x hx).1, Int.le_trans (h.g x hx).2 (pow_up (by omega))⟩, fun x hx => ⟨(h.o x hx).1, Int.le_trans (h.o x hx).2 (pow_up (by omega))⟩⟩
theorem pow_pos1 (a : Nat) : (1 : Int) ≤ 2 ^ a := by
  have : 1 ≤ (2 : Nat) ^ a := Nat.one_le_two_pow
  exact_mod_cast this
theorem ns_cases {ns : List Str} (h7 : ns.length = 7) {x : Str} (hx : x ∈ ns) : x ∈ gsOf ns ∨ x ∈ osOf ns := by
  match ns, h7 with
  | [a, b, c, d, e, f, g], _ =>
    simp [gsOf, osOf] at hx ⊢
    grind
theorem Bd.bits {ns : List Str} {n : Nat} {v : Str → Int} (h : Bd ns n v) (h7 : ns.length = 7) : ∀ x ∈ ns, (v x).natAbs < 2 ^ (4 * n + 51) := fun x hx => by
  have k : ∀ {a : Nat}, a ≤ 4 * n + 50 → 0 ≤ v x → v x ≤ 2 ^ a → (v x).natAbs < 2 ^ (4 * n + 51) := fun {a} l h0 h1 => by
    have h2 : v x ≤ 2 ^ (4 * n + 50) := Int.le_trans h1 (pow_up l)
    have h3 : ((v x).natAbs : Int) ≤ ((2 ^ (4 * n + 50) : Nat) : Int) := by
      rw [Int.natAbs_of_nonneg h0]
      exact_mod_cast h2
    have h4 : (v x).natAbs ≤ 2 ^ (4 * n + 50) := by exact_mod_cast h3
    have h5 : 2 ^ (4 * n + 51) = 2 ^ (4 * n + 50) * 2 := Nat.pow_succ ..
    have h6 : 1 ≤ 2 ^ (4 * n + 50) := Nat.one_le_two_pow
    omega
  rcases ns_cases h7 hx with z | z
  · exact k (by omega) (h.g x z).1 (h.g x z).2
  · exact k (Nat.le_refl _) (h.o x z).1 (h.o x z).2
theorem Bd.set {ns : List Str} {n : Nat} {v : Str → Int} (h : Bd ns n v) {x : Str} {e : Ex} (t : (x ∈ gsOf ns ∧ BndE (gsOf ns) (osOf ns) (fun G _ => 2 * G + 1010) e) ∨ (x ∈ osOf ns ∧ BndE (gsOf ns) (osOf ns) (fun G M => G * G + 4 * M + 1010) e)) (dj : ∀ y, y ∈ gsOf ns → y ∈ osOf ns → False) : Bd ns (n + 1) (setV v x (valE v e)) := by
  have e1 : (2 : Int) ^ (2 * (n + 1) + 22) = 2 ^ (2 * n + 22) * 4 := by
    rw [show 2 * (n + 1) + 22 = (2 * n + 22) + 2 by omega, Int.pow_add]
    rfl
  have e2 : (2 : Int) ^ (4 * (n + 1) + 50) = 2 ^ (4 * n + 50) * 16 := by
    rw [show 4 * (n + 1) + 50 = (4 * n + 50) + 4 by omega, Int.pow_add]
    rfl
  have e3 : (2 : Int) ^ (2 * n + 22) * 2 ^ (2 * n + 22) ≤ 2 ^ (4 * n + 50) := by
    rw [← Int.pow_add]
    exact pow_up (by omega)
  have e4 : (1010 : Int) ≤ 2 ^ (2 * n + 22) := Int.le_trans (show (1010 : Int) ≤ 2 ^ 22 by decide) (pow_up (by omega))
  have e5 : (1010 : Int) ≤ 2 ^ (4 * n + 50) := Int.le_trans (show (1010 : Int) ≤ 2 ^ 50 by decide) (pow_up (by omega))
  refine ⟨fun y hy => ?_, fun y hy => ?_⟩
  · unfold setV
    by_cases z : y = x
    · rw [if_pos z]
      rcases t with ⟨_, b⟩ | ⟨hx, _⟩
      · have q := b v _ _ (pow_pos1 (2 * n + 22)) (Int.le_trans (by decide) (pow_pos1 (4 * n + 50))) h.g h.o
        refine ⟨q.1, Int.le_trans q.2 ?_⟩
        show 2 * (2 : Int) ^ (2 * n + 22) + 1010 ≤ _
        rw [e1]
        omega
      · exact absurd (z ▸ hx) fun k => dj y hy k
    · rw [if_neg z]
      refine ⟨(h.g y hy).1, Int.le_trans (h.g y hy).2 (pow_up (by omega))⟩
  · unfold setV
    by_cases z : y = x
    · rw [if_pos z]
      rcases t with ⟨hx, _⟩ | ⟨_, b⟩
      · exact absurd (z ▸ hx) fun k => dj y k hy
      · have q := b v _ _ (pow_pos1 (2 * n + 22)) (Int.le_trans (by decide) (pow_pos1 (4 * n + 50))) h.g h.o
        refine ⟨q.1, Int.le_trans q.2 ?_⟩
        show (2 : Int) ^ (2 * n + 22) * 2 ^ (2 * n + 22) + 4 * 2 ^ (4 * n + 50) + 1010 ≤ _
        rw [e2]
        omega
    · rw [if_neg z]
      refine ⟨(h.o y hy).1, Int.le_trans (h.o y hy).2 (pow_up (by omega))⟩
theorem Bd.less {ns : List Str} {n : Nat} {v : Str → Int} (h : Bd ns n v) {x : Str} (hx : x ∈ gsOf ns) (nz : v x ≠ 0) (dj : ∀ y, y ∈ gsOf ns → y ∈ osOf ns → False) : Bd ns n (setV v x (v x - 1)) := by
  have hg := h.g x hx
  refine ⟨fun y hy => ?_, fun y hy => ?_⟩
  · unfold setV
    by_cases z : y = x
    · rw [if_pos z]
      omega
    · rw [if_neg z]
      exact h.g y hy
  · unfold setV
    by_cases z : y = x
    · exact absurd (z ▸ hx) fun k => dj y k hy
    · rw [if_neg z]
      exact h.o y hy
theorem gs_os {ns : List Str} (h : ns.Nodup) (h7 : ns.length = 7) : ∀ y, y ∈ gsOf ns → y ∈ osOf ns → False := fun y => by
  match ns, h7 with
  | [a, b, c, d, e, f, g], _ =>
    simp [gsOf, osOf] at h ⊢
    grind
/-! ### enumerate of a tuple -/
section
variable {P : Program} {w : World} {A : Around} {E : Value → Shared → Prop} {s : Shared}
set_option maxHeartbeats 1000000 in
theorem enum_one {v : Value} {o : Obj} {G : Heap → Prop} (B : Begins v o G) :
    Meets (Builtin.«enumerate.__new__» ⟨[.type "enumerate", v], []⟩) (fun _ R s => G s.heap ∧
      R (.ok (.ret (.ref (s.heap.push o).objs.size))) { s with heap := (s.heap.push o).push { cls := .type "enumerate", data := .fields #[.none, .bool false, .ref s.heap.objs.size, rawInt 0, .none, .none] } }) :=
  .of_wp fun prog w A R s h => by
    obtain ⟨hp, g, d, tk, os⟩ := s
    obtain ⟨h1, h⟩ := h
    have sub := sub_enumerate
    have q1 : ∀ {A' : Around} {E : Value → Shared → Prop} {Q : Value → Shared → Prop}, Q (.ref hp.objs.size) ⟨hp.push o, g, d, tk, os⟩ → wpAny (model prog w) A' (pyIter v) Q E ⟨hp, g, d, tk, os⟩ :=
      fun q => B.iter prog w _ _ ⟨hp, g, d, tk, os⟩ _ h1 q
    wp_walk using q1
    refine wpAny_stack_any fun st => wpAny_pure ?_
    split
    · rename_i c _ _ _ _ _
      cases (c == Value.type "enumerate") <;> (wp_walk using q1; exact ⟨_, rfl, h⟩)
    · wp_walk using q1
      exact ⟨_, rfl, h⟩
theorem enum_one_call {v : Value} {o : Obj} {G : Heap → Prop} {Q : Value → Shared → Prop} (B : Begins v o G) (h1 : G s.heap)
    (h : ∀ h', IsEnum h' (s.heap.objs.size + 1) s.heap.objs.size 0 .none → h'.get? s.heap.objs.size = some o →
      (∀ b o, s.heap.get? b = some o → h'.get? b = some o) → Q (.ref (s.heap.objs.size + 1)) { s with heap := h' }) :
    wpAny (model P w) A (call (.type "enumerate") [v]) Q E s := by
  refine callType_new F.called_enumerate (by decide) (F.typeCall_enumerate_1 _) (F.newCall_enumerate_1 _) (fun obj => F.args_object_init_2 obj _) F.entry_enumerate_new (enum_one B) ⟨h1, ?_⟩
  have hz : (s.heap.push o).objs.size = s.heap.objs.size + 1 := Heap.size_push ..
  rw [hz]
  have he := Heap.get?_push_size (s.heap.push o) (o := { cls := .type "enumerate", data := .fields #[.none, .bool false, .ref s.heap.objs.size, rawInt 0, .none, .none] }) rfl
  rw [hz] at he
  exact ⟨⟨_, he, rfl⟩, h _ he (Heap.get?_push_of_some _ (Heap.get?_push_size _ B.free)) fun b o x => Heap.get?_push_of_some _ (Heap.get?_push_of_some _ x)⟩
end
/-- the tuple at a, each item in a new pair -/
def Itet (K : PySem.W.Frag) (a : Addr) : It :=
  ⟨fun i H => ∃ (xs : List V) (x : V), SqT K H a xs ∧ xs[i]? = some x, fun i H v H' => ∃ T x, v = .ref T ∧ H T = none ∧ H' = upd H T (.tup [.int (i : Nat), x]) ∧ ∀ xs, SqT K H a xs → xs[i]? = some x, fun i H => ∃ xs : List V, SqT K H a xs ∧ xs.length ≤ i⟩
theorem turn_enumT {P : Program} {w : World} {K : PySem.W.Frag} {elts : List Expr} {kk : Nat} {tpos : Pos} (a e it : Addr) :
    Turn P w K (.Tuple elts kk tpos) (Itet K a) [e, it] e (fun i h => (∃ old, IsEnum h e it ((i : Nat) : Int) old) ∧ h.IsTupleIter it a i ∧ e ≠ it) where
  mem := by simp
  obj := fun i h st b hb => by
    obtain ⟨⟨old, he⟩, ⟨o, ho, hc, hd⟩, _⟩ := st
    have e' : b = e ∨ b = it := by simpa using hb
    rcases e' with z | z <;> rw [z]
    · exact ⟨_, he, fun v q => nomatch q⟩
    · exact ⟨o, ho, fun v q => by rw [hd] at q; cases q⟩
  keep := fun i h h' st k => let ⟨⟨old, he⟩, hi, hne⟩ := st; ⟨⟨old, k e (by simp) _ he⟩, hi.at fun o q => k it (by simp) o q, hne⟩
  item := by
    intro X hP hw hK hc i pins s σ H E I hf st hg
    subst hP hw hK
    obtain ⟨⟨old, he⟩, hit, hne⟩ := st
    obtain ⟨xs, x, hq, hx⟩ := hg
    obtain ⟨its, rv, p, hz⟩ := I.tuple hq
    obtain ⟨u, hu, ru⟩ := rv.get hx
    have pa : s.heap.IsTuple a its.toArray := p
    have hel : e < s.heap.objs.size := Heap.lt_size he
    have hil : it < s.heap.objs.size := by obtain ⟨_, q, _⟩ := hit; exact Heap.lt_size q
    have lt : i < its.toArray.size := by
      rw [List.size_toArray]
      exact (List.getElem?_eq_some_iff.mp hu).1
    have ne_a : a ≠ it := fun z => by
      obtain ⟨o1, h1, c1, _⟩ := pa
      obtain ⟨o2, h2, c2, _⟩ := hit
      rw [z, h2] at h1
      have e1 : o2 = o1 := Option.some.inj h1
      rw [← e1, c2] at c1
      exact absurd c1 (by decide)
    have ne_e : e ≠ a := fun z => by
      obtain ⟨o1, h1, c1, _⟩ := pa
      rw [← z, show s.heap.get? e = _ from he] at h1
      have e1 := Option.some.inj h1
      rw [← e1] at c1
      have c2 : Value.type "enumerate" = Value.type "tuple" := c1
      injection c2 with c3
      exact absurd c3 (by decide)
    refine wpAny_pyNext_enum_itemD (Draws.tuple (A := X.A.in1) (I.ok.hd hc) it a ne_a its.toArray) he ⟨hit, pa⟩ lt hne (by simp [hne, ne_e]) fun y h' tk hy ho hst hT hsz hk => ?_
    have ey : y = u := by
      have z : its.toArray[i]? = some u := by simpa using hu
      rw [z] at hy
      exact (Option.some.inj hy).symm
    subst ey
    refine ⟨_, rfl, wpAny_letOwnedTupleGo_enum (s := { s with heap := h', toks := tk + 1 }) ho fun h'' he' sb => ?_⟩
    have hT2 : h''.get? s.heap.objs.size = some { cls := .type "tuple", data := .seq #[.int i tk, y] } := (sb.2 _ (Nat.ne_of_gt hel)).trans hT
    have new : ObjOk X.prog X.w (upd H s.heap.objs.size (.tup [.int (i : Nat), x])) h'' s.heap.objs.size (.tup [.int (i : Nat), x]) :=
      ⟨by show 2 ≤ sizeLine; decide, [.int i tk, y], .cons ⟨_, rfl⟩ (.cons ru .nil), ⟨_, hT2, rfl, _, rfl⟩⟩
    have I1 : Inv X pins σ (upd H s.heap.objs.size (.tup [.int (i : Nat), x])) { s with heap := h'', toks := tk + 1 } :=
      I.turnedNew (ch := [e, it]) (fun b ob hb q => (sb.2 b (fun z => hb (by simp [z]))).trans (hk b ob (fun z => hb (by simp [z])) (fun z => hb (by simp [z])) q)) hf (Nat.le_refl _) new
    refine ⟨.ref s.heap.objs.size, _, I1, rfl, ⟨_, x, rfl, I.hok.fresh (Nat.le_refl _), rfl, fun ys hy => by rw [I.tuple_inj hy hq]; exact hx⟩, ⟨⟨y, ?_⟩, hst.1.at fun o q => (sb.2 it (Ne.symm hne)).trans q, hne⟩, fun b hb => ?_⟩
    · have e1 : ((i + 1 : Nat) : Int) = (i : Int) + 1 := by omega
      rw [e1]; exact he'
    · have hb' : b < s.heap.objs.size := by
        have e' : b = e ∨ b = it := by simpa using hb
        rcases e' with z | z <;> rw [z]
        · exact hel
        · exact hil
      rw [upd_ne (Nat.ne_of_lt hb')]
      exact (hf b hb).1
  done := by
    intro X hP hw hK hc i pins s σ H E I hf st hg
    subst hP hw hK
    obtain ⟨⟨old, he⟩, hit, hne⟩ := st
    obtain ⟨xs, hq, hx⟩ := hg
    obtain ⟨its, rv, p, hz⟩ := I.tuple hq
    obtain ⟨f0, f1, f2, f3, f4, f5⟩ := hf it (by simp)
    have hl := rv.length
    have pa : s.heap.IsTuple a its.toArray := p
    have ne_a : a ≠ it := fun z => by
      obtain ⟨o1, h1, c1, _⟩ := pa
      obtain ⟨o2, h2, c2, _⟩ := hit
      rw [z, h2] at h1
      have e1 : o2 = o1 := Option.some.inj h1
      rw [← e1, c2] at c1
      exact absurd c1 (by decide)
    have D0 : Draws X.prog X.w X.A.in1 it [it, a] 0 (fun _ _ => False) (fun _ h => h.IsTupleIter it a i ∧ h.IsTuple a its.toArray) :=
      ⟨fun _ _ st => let ⟨o, ho, _⟩ := st.1; ⟨o, ho⟩, fun _ _ _ st hk => ⟨st.1.at fun o e => hk it (by simp) o e, st.2.at fun o e => hk a (by simp) o e⟩,
        fun i _ _ _ hi _ _ => absurd hi (Nat.not_lt_zero i), fun s Q E st hE => wpAny_nextOf_tuple_end (I.ok.hd hc) st.1 st.2 (by simp; omega) hE⟩
    exact wpAny_pyNext_enum_endD D0 he ⟨hit, pa⟩ fun h' eb => ⟨rfl, I.turned (t' := s.toks) (fun b o hb q => eb b o hb q) f0 f1 f3 f4 f5⟩
  self := fun A i s Q E st h => let ⟨⟨_, he⟩, _⟩ := st; wpAny_pyIter_enum he h
def iEnumT (K : PySem.W.Frag) (ta : TA) : TI := fun σ H R => ta σ H fun vs H1 => ∃ a xs, vs = [.ref a] ∧ SqT K H1 a xs ∧ R (Itet K a) H1
theorem pi_enumT {X : Cx} {e : Expr} {ta : TA} {p pos tpos : Pos} {elts : List Expr} {kk : Nat} (hg : Gl X "enumerate") (hm : X.mg "enumerate" = none) (ha : PA X [e] ta) (hs : starEach [e] X.env = [(false, eval e X.env)] := by rfl) :
    PI X (.Tuple elts kk tpos) (.Call (.Name "enumerate" p) [e] [] pos) (iEnumT X.K ta) := by
  refine ⟨fun pins s σ H R I h => ?_⟩
  refine Call_ (ld_blt I hg hm boot_enumerate (PyProof.Rows.callWith_type1 (thn (ha.run pos pins s σ H _ I h) fun us s1 ⟨vs, H1, I1, r1, q1⟩ => ?_) hs rfl))
  obtain ⟨a, xs, ex, hq, q⟩ := q1
  subst ex
  cases r1 with
  | cons r rr =>
    cases rr
    cases r
    obtain ⟨its, rv, p', hz⟩ := I1.tuple hq
    refine enum_one_call (begins_tuple a its.toArray) p' fun h' he hit hk => wpAny_pyIter_enum he ?_
    have I2 : Inv X pins σ H1 { s1 with heap := h' } := I1.kept (t' := s1.toks) hk
    refine ⟨s1.heap.objs.size + 1, [s1.heap.objs.size + 1, s1.heap.objs.size], _, _, H1, rfl, I2, turn_enumT a (s1.heap.objs.size + 1) s1.heap.objs.size, ⟨⟨.none, he⟩, ⟨_, hit, rfl, rfl⟩, Nat.succ_ne_self _⟩, fun b hb => ?_, q⟩
    have e' : b = s1.heap.objs.size + 1 ∨ b = s1.heap.objs.size := by simpa using hb
    have hle : s1.heap.objs.size ≤ b := by
      rcases e' with z | z <;> rw [z]
      · exact Nat.le_add_right _ _
      · exact Nat.le_refl _
    exact I1.fpOk hle (I1.hok.fresh hle)
theorem for_enumT {K : PySem.W.Frag} {a : Addr} {xs : List V} {g : TG} {tb : TS} {D : Ends} {σ : L2.St} {H : Hp} (Pv : Nat → L2.St → Hp → Prop) (h0 : Pv 0 σ H) (hl : ∀ i σ H, i ≤ xs.length → Pv i σ H → SqT K H a xs)
    (hs : ∀ i x σ H T, xs[i]? = some x → Pv i σ H → H T = none → g (.ref T) σ (upd H T (.tup [.int (i : Nat), x])) fun σ2 H2 => tb { D with nx := Pv (i + 1), ct := Pv (i + 1), bk := D.nx } σ2 H2) (hd : ∀ σ H, Pv xs.length σ H → D.nx σ H) :
    ∃ W : Nat → Nat → L2.St → Hp → Prop, (∃ m, W 0 m σ H) ∧ ∀ i m σ H, W i m σ H →
      ((Itet K a).stop i H ∧ D.nx σ H) ∨ ((Itet K a).go i H ∧ ∃ N : L2.St → Hp → Prop, (∀ σ' H', N σ' H' → ∃ m', m' < m ∧ W (i + 1) m' σ' H') ∧ ∀ x H', (Itet K a).yld i H x H' → g x σ H' fun σ2 H2 => tb { D with nx := N, ct := N, bk := D.nx } σ2 H2) := by
  refine ⟨fun i m σ H => m = xs.length - i ∧ i ≤ xs.length ∧ Pv i σ H, ⟨xs.length, by simp, Nat.zero_le _, h0⟩, ?_⟩
  rintro i m σ H ⟨rfl, hi, p⟩
  have q := hl i σ H hi p
  by_cases hlt : i < xs.length
  · refine .inr ⟨⟨xs, xs[i], q, by simp [hlt]⟩, Pv (i + 1), fun σ' H' p' => ⟨xs.length - (i + 1), by omega, rfl, hlt, p'⟩, fun x H' y => ?_⟩
    obtain ⟨T, z, e, hT, eH, y⟩ := y
    subst e eH
    exact hs i z σ H T (y xs q) p hT
  · have e : i = xs.length := by omega
    subst e
    exact .inl ⟨⟨xs, q, Nat.le_refl _⟩, hd σ H p⟩
/-! ### expressions reckoned, by the program and here -/
theorem valV_some {L : Pr} (hn : (L.map (·.1)).Nodup) {x : Str} (hx : x ∈ L.map (·.1)) : valV (dSI L) (Sum.inr x) = some (.int (expo L x)) := by
  have a := valV_dSI hn x
  cases e : valV (dSI L) (Sum.inr x) with
  | none =>
    exfalso
    clear a hn
    induction L with
    | nil => cases hx
    | cons f r ih =>
      have e2 : valV ((Sum.inr f.1, V.int f.2) :: dSI r) (Sum.inr x) = none := e
      by_cases z : (Sum.inr f.1 : L2.Key) = Sum.inr x
      · rw [valV_pos z] at e2
        cases e2
      · rw [valV_neg z] at e2
        rcases List.mem_cons.mp hx with y | y
        · exact z (by rw [y])
        · exact ih y e2
  | some v =>
    rw [e] at a
    exact congrArg some a
section
variable {P : Program} {w : World} {K : PySem.W.Frag} {mg : Str → Option Value} {base : Heap} {C : Addr}
def spReck (K : PySem.W.Frag) : Nat → Sp
  | 0 => fun _ _ _ _ => False
  | d + 1 => fun vs H Q _ => ∃ (p pd : Addr) (t : Ex) (ns : List Str) (L : Pr) (B : Nat), vs = [.ref p, .ref pd] ∧ ExAt K H p t ∧ ExOk ns d t ∧ H pd = some (.dK (dSI L)) ∧ (L.map (·.1)).Nodup ∧ 10 ≤ B ∧ MulB B t ∧ (∀ x ∈ ns, (expo L x).natAbs < 2 ^ B) ∧ (∀ x ∈ namesE t, x ∈ L.map (·.1)) ∧ Q (.int (valE (expo L) t)) H
theorem ok_reckoned {f : Addr} {fd : FuncData} (T : Txt K mg C) (F : DefAt K mg "_reckoned" "_reckoned" s_reckoned ["expression", "names"] f fd) : ∀ d, FnOk P w K mg base CX0 d f fd ["expression", "names"] (spReck K d)
  | 0 => ⟨fun _ _ _ _ h => False.elim h, fun _ _ _ _ _ _ _ _ _ _ _ _ _ h => False.elim h⟩
  | d + 1 => by
    have G_reckoned := ok_reckoned T F d
    have D_reckoned := F
    refine F.F.ok sc_reckoned (fun vs H Q E h => ?_) (fun cdv A outer s H vs Q E hr h => ?_)
    · obtain ⟨p, pd, t, ns, L, B, rfl, _⟩ := h
      rfl
    · obtain ⟨p, pd, t, ns, L, B, rfl, tr, ok, ed, nL, hB, mb, hv, ky, q⟩ := h
      refine ⟨_, (pss_cons (ps_set (i := 2) sc_reckoned.nd rfl (.inl rfl) (pe_ix ix_tup (pv 0) pe_int (fun _ _ => rfl)))
      (pss_cons (ps_if (pt_cmpR op_eq (pv 2) pe_str (nomark _)) (pss_one (ps_ret (pe_ix ix_tup (pv 0) pe_int (fun _ _ => rfl)))) pss_nil)
      (pss_cons (ps_if (pt_cmpR op_eq (pv 2) pe_str (nomark _)) (pss_one (ps_ret (pe_dget (room1 hr) (pv 1) (pe_ix ix_tup (pv 0) pe_int (fun _ _ => rfl)) (fun _ _ => rfl)))) pss_nil)
      (pss_cons (ps_set (i := 3) sc_reckoned.nd rfl (.inl rfl) (pe_call G_reckoned (hr.mono (by omega)) (by rfl) D_reckoned.g D_reckoned.F.kp D_reckoned.b .nil pass0 (pa_cons (pe_ix ix_tup (pv 0) pe_int (fun _ _ => rfl)) (pa_cons (pv 1) pa_nil))))
      (pss_cons (ps_set (i := 4) sc_reckoned.nd rfl (.inl rfl) (pe_call G_reckoned (hr.mono (by omega)) (by rfl) D_reckoned.g D_reckoned.F.kp D_reckoned.b .nil pass0 (pa_cons (pe_ix ix_tup (pv 0) pe_int (fun _ _ => rfl)) (pa_cons (pv 1) pa_nil))))
      (pss_cons (ps_if (pt_cmpR op_eq (pv 2) pe_str (nomark _)) (pss_one (ps_ret (pe_op op_add (pv 3) (pv 4)))) pss_nil)
      (pss_one (ps_ret (pe_op op_mulW (pv 3) (pv 4)))))))))), ?_⟩
      cases t with
      | num n =>
        refine ⟨_, rfl, p, _, _, _, rfl, rfl, tr, atI_nat (j := 0) rfl, ?_⟩
        refine ⟨_, rfl, rfl, _, rfl, ite2 (fun c => ?_) (fun c => absurd (by decide) c)⟩
        exact ⟨_, rfl, p, _, _, _, rfl, rfl, tr, atI_nat (j := 1) rfl, q⟩
      | name x =>
        refine ⟨_, rfl, p, _, _, _, rfl, rfl, tr, atI_nat (j := 0) rfl, ?_⟩
        refine ⟨_, rfl, rfl, _, rfl, ite2 (fun c => absurd c (by decide)) (fun c => ?_)⟩
        refine ⟨_, rfl, rfl, _, rfl, ite2 (fun c => ?_) (fun c => absurd (by decide) c)⟩
        exact ⟨_, rfl, _, rfl, p, _, _, _, rfl, rfl, tr, atI_nat (j := 1) rfl, pd, _, rfl, by have z := DGet.k (k := .inr x) ed; rw [valV_some nL (ky x (by simp [namesE]))] at z; exact z, q⟩
      | add a b =>
        cases d with
        | zero => exact False.elim ok
        | succ d =>
          obtain ⟨pa, pb, tp, ta, tb⟩ := tr
          obtain ⟨oa, ob⟩ := ok
          obtain ⟨ma, mb⟩ := mb
          refine ⟨_, rfl, p, _, _, _, rfl, rfl, tp, atI_nat (j := 0) rfl, ?_⟩
          refine ⟨_, rfl, rfl, _, rfl, ite2 (fun c => absurd c (by decide)) (fun c => ?_)⟩
          refine ⟨_, rfl, rfl, _, rfl, ite2 (fun c => absurd c (by decide)) (fun c => ?_)⟩
          refine ⟨_, rfl, p, _, _, _, rfl, rfl, tp, atI_nat (j := 1) rfl, _, rfl, pa, pd, a, ns, L, B, rfl, ta, oa, ed, nL, hB, ma, hv, (fun x hx => ky x (List.mem_append_left _ hx)), ?_⟩
          refine ⟨_, rfl, p, _, _, _, rfl, rfl, tp, atI_nat (j := 2) rfl, _, rfl, pb, pd, b, ns, L, B, rfl, tb, ob, ed, nL, hB, mb, hv, (fun x hx => ky x (List.mem_append_right _ hx)), ?_⟩
          refine ⟨_, rfl, rfl, _, rfl, ite2 (fun c => ?_) (fun c => absurd (by decide) c)⟩
          exact ⟨_, rfl, _, rfl, _, _, rfl, rfl, q⟩
      | mul a b =>
        cases d with
        | zero => exact False.elim ok
        | succ d =>
          obtain ⟨pa, pb, tp, ta, tb⟩ := tr
          obtain ⟨oa, ob⟩ := ok
          obtain ⟨ma, mb, ml⟩ := mb
          refine ⟨_, rfl, p, _, _, _, rfl, rfl, tp, atI_nat (j := 0) rfl, ?_⟩
          refine ⟨_, rfl, rfl, _, rfl, ite2 (fun c => absurd c (by decide)) (fun c => ?_)⟩
          refine ⟨_, rfl, rfl, _, rfl, ite2 (fun c => absurd c (by decide)) (fun c => ?_)⟩
          refine ⟨_, rfl, p, _, _, _, rfl, rfl, tp, atI_nat (j := 1) rfl, _, rfl, pa, pd, a, ns, L, B, rfl, ta, oa, ed, nL, hB, ma, hv, (fun x hx => ky x (List.mem_append_left _ hx)), ?_⟩
          refine ⟨_, rfl, p, _, _, _, rfl, rfl, tp, atI_nat (j := 2) rfl, _, rfl, pb, pd, b, ns, L, B, rfl, tb, ob, ed, nL, hB, mb, hv, (fun x hx => ky x (List.mem_append_right _ hx)), ?_⟩
          refine ⟨_, rfl, rfl, _, rfl, ite2 (fun c => absurd c (by decide)) (fun c => ?_)⟩
          exact ⟨_, rfl, _, rfl, _, _, rfl, rfl, mulOk (val_bits hB hv oa) (val_bits hB hv ob) (by have := bE_pos hB a; omega) (by have := bE_pos hB b; omega) ml, q⟩
end
/-! ### a run of the program's -/
def runF (nd : Addr) (most : Int) (td : Addr) (turns : Int) (ed : Addr) : List (Str × V) := [("names", .ref nd), ("most", .int most), ("told", .ref td), ("turns", .int turns), ("entries", .ref ed)]
def placeV (pl : List Nat) : List V := pl.map fun (n : Nat) => V.int (n : Int)
def EntAt (K : PySem.W.Frag) (H : Hp) (e : Addr) (x : List Nat × Int × Nat) : Prop := ∃ pa : Addr, SqT K H e [.ref pa, .int x.2.1, .int (x.2.2 : Int)] ∧ SqT K H pa (placeV x.1)
theorem EntAt.stay {K : PySem.W.Frag} {H H' : Hp} {e : Addr} {x : List Nat × Int × Nat} (h : EntAt K H e x) (s : TupsStay H H') : EntAt K H' e x := let ⟨pa, a, b⟩ := h; ⟨pa, SqT.keeps a s, SqT.keeps b s⟩
/-- a dict of numbers that tells the names of ks -/
structure NmAt (H : Hp) (nd : Addr) (ks : List Str) (L : Pr) (v : Str → Int) : Prop where
  at_ : H nd = some (.dK (dSI L))
  ks : L.map (·.1) = ks
  vv : ∀ x, expo L x = v x
structure RunSt (K : PySem.W.Frag) (C : Addr) (H : Hp) (p nd td ed : Addr) (ks : List Str) (most : Nat) (s : Rs) : Prop where
  ob : ∃ dx, H p = some (.ins C dx (runF nd (most : Int) td (s.turns : Int) ed))
  nm : ∃ L, NmAt H nd ks L s.v
  tl : H td = some (.lst (s.told.map V.int))
  en : ∃ es, H ed = some (.lst (es.map V.ref)) ∧ Paired (EntAt K H) es s.ents
  ne : td ≠ ed
/-- all that was tracked is as it was, but for these -/
def Kp (S : List Addr) (H H' : Hp) : Prop := ∀ b o, H b = some o → b ∉ S → H' b = some o
theorem Kp.refl (S : List Addr) (H : Hp) : Kp S H H := fun _ _ e _ => e
theorem Kp.trans {S : List Addr} {H H1 H2 : Hp} (a : Kp S H H1) (b : Kp S H1 H2) : Kp S H H2 := fun x o e n => b x o (a x o e n) n
theorem Kp.same {S : List Addr} {H H1 H2 : Hp} (a : Kp S H H1) (b : Same H1 H2) : Kp S H H2 := fun x o e n => b x o (a x o e n)
theorem Same.kp {S : List Addr} {H H1 : Hp} (a : Same H H1) : Kp S H H1 := fun x o e _ => a x o e
theorem Kp.upd {S : List Addr} {H : Hp} {d : Addr} {o : HO} (h : d ∈ S) : Kp S H (upd H d o) := fun b u e n => by
  rw [upd_ne (fun z => n (by rw [z]; exact h))]
  exact e
theorem Kp.else {S : List Addr} {H H1 : Hp} {d : Addr} (a : Else d H H1) (h : d ∈ S) : Kp S H H1 := fun x o e n => a x o e fun z => n (z ▸ h)
theorem RunSt.kinds {K : PySem.W.Frag} {C : Addr} {H : Hp} {p nd td ed : Addr} {ks : List Str} {most : Nat} {s : Rs} (h : RunSt K C H p nd td ed ks most s) : p ≠ nd ∧ p ≠ td ∧ p ≠ ed ∧ nd ≠ td ∧ nd ≠ ed := by
  obtain ⟨dx, e1⟩ := h.ob
  obtain ⟨L, e2⟩ := h.nm
  obtain ⟨es, e3, _⟩ := h.en
  exact ⟨ne_of e1 e2.at_ (by intro z; cases z), ne_of e1 h.tl (by intro z; cases z), ne_of e1 e3 (by intro z; cases z), ne_of e2.at_ h.tl (by intro z; cases z), ne_of e2.at_ e3 (by intro z; cases z)⟩
theorem RunSt.tups {K : PySem.W.Frag} {C : Addr} {H H' : Hp} {p nd td ed : Addr} {ks : List Str} {most : Nat} {s : Rs} (h : RunSt K C H p nd td ed ks most s) (k : Kp [p, nd, td, ed] H H') : TupsStay H H' := fun b xs q => by
  obtain ⟨dx, e1⟩ := h.ob
  obtain ⟨L, e2⟩ := h.nm
  obtain ⟨es, e3, _⟩ := h.en
  have no : ∀ {u : HO}, H b = some u → (∀ C dx fs, u ≠ .ins C dx fs) → (∀ kvs, u ≠ .dK kvs) → (∀ l, u ≠ .lst l) → b ∉ [p, nd, td, ed] := fun {u} e n1 n2 n3 hb => by
    simp only [List.mem_cons, List.not_mem_nil, or_false] at hb
    rcases hb with z | z | z | z
    · rw [z, e1] at e
      exact n1 _ _ _ (Option.some.inj e).symm
    · rw [z, e2.at_] at e
      exact n2 _ (Option.some.inj e).symm
    · rw [z, h.tl] at e
      exact n3 _ (Option.some.inj e).symm
    · rw [z, e3] at e
      exact n3 _ (Option.some.inj e).symm
  rcases q with q | ⟨ob, q⟩
  · exact .inl (k _ _ q (no q (fun _ _ _ z => by cases z) (fun _ z => by cases z) (fun _ z => by cases z)))
  · exact .inr ⟨ob, k _ _ q (no q (fun _ _ _ z => by cases z) (fun _ z => by cases z) (fun _ z => by cases z))⟩
theorem RunSt.same {K : PySem.W.Frag} {C : Addr} {H H' : Hp} {p nd td ed : Addr} {ks : List Str} {most : Nat} {s : Rs} (h : RunSt K C H p nd td ed ks most s) (u : Same H H') : RunSt K C H' p nd td ed ks most s :=
  ⟨let ⟨dx, e⟩ := h.ob; ⟨dx, u _ _ e⟩, let ⟨L, a, b, c⟩ := h.nm; ⟨L, u _ _ a, b, c⟩, u _ _ h.tl, let ⟨es, a, b⟩ := h.en; ⟨es, u _ _ a, Paired.mapP b fun _ _ x => x.stay (TupsStay.same u)⟩, h.ne⟩
theorem putS_map {L : Pr} {x : Str} {v : Int} (hx : x ∈ L.map (·.1)) : (putS L x v).map (·.1) = L.map (·.1) := by
  unfold putS
  have a : (L.any fun e => decide (e.1 = x)) = true := by
    obtain ⟨e, he, z⟩ := List.mem_map.mp hx
    exact List.any_eq_true.mpr ⟨e, he, decide_eq_true z⟩
  rw [if_pos a, List.map_map]
  refine List.map_congr_left fun e _ => ?_
  show (if e.1 = x then (e.1, v) else e).1 = e.1
  by_cases z : e.1 = x
  · rw [if_pos z]
  · rw [if_neg z]
theorem expo_set {L : Pr} (hn : (L.map (·.1)).Nodup) (x : Str) (t : Int) (y : Str) : expo (putS L x t) y = if y = x then t else expo L y := by
  have a := expo_put hn x (t - expo L x) y
  have e : expo L x + (t - expo L x) = t := by omega
  rw [e] at a
  rw [a]
  by_cases z : y = x
  · rw [if_pos z, if_pos z.symm, z]
    omega
  · rw [if_neg z, if_neg fun q => z q.symm]
    omega
theorem NmAt.set {H H' : Hp} {nd : Addr} {ks : List Str} {L : Pr} {v : Str → Int} (h : NmAt H nd ks L v) (nk : ks.Nodup) {x : Str} (hx : x ∈ ks) {n : Int} (e : H' nd = some (.dK (dSI (putS L x n)))) : NmAt H' nd ks (putS L x n) (setV v x n) :=
  ⟨e, by rw [putS_map (by rw [h.ks]; exact hx), h.ks], fun y => by
    rw [expo_set (by rw [h.ks]; exact nk), h.vv y]
    rfl⟩
theorem Paired.snoc {α β : Type} {G : α → β → Prop} {a : α} {b : β} (h : G a b) : ∀ {l₁ : List α} {l₂ : List β}, Paired G l₁ l₂ → Paired G (l₁ ++ [a]) (l₂ ++ [b])
  | _, _, .nil => .cons h .nil
  | _, _, .cons r t => .cons r (Paired.snoc h t)
/-- how far it has come: n statements done, R still open -/
structure Pt (ns : List Str) (ofs most n R : Nat) (s : Rs) : Prop where
  bd : Bd ns n s.v
  tl : s.told.length ≤ n
  el : s.ents.length ≤ n
  pot : n + R ≤ ofs + 8 * s.turns
  tm : s.turns ≤ most
structure NsOk (ns : List Str) : Prop where
  len : ns.length = 7
  nd : ns.Nodup
theorem NsOk.dj {ns : List Str} (h : NsOk ns) : ∀ y, y ∈ gsOf ns → y ∈ osOf ns → False := gs_os h.nd h.len
theorem Pt.set {ns : List Str} {ofs most n R : Nat} {s : Rs} (h : Pt ns ofs most n (R + 1) s) (k : NsOk ns) {x : Str} {e : Ex} (t : (x ∈ gsOf ns ∧ BndE (gsOf ns) (osOf ns) (fun G _ => 2 * G + 1010) e) ∨ (x ∈ osOf ns ∧ BndE (gsOf ns) (osOf ns) (fun G M => G * G + 4 * M + 1010) e)) : Pt ns ofs most (n + 1) R { s with v := setV s.v x (valE s.v e) } :=
  ⟨h.bd.set t k.dj, by have := h.tl; show s.told.length ≤ n + 1; omega, by have := h.el; show s.ents.length ≤ n + 1; omega, by have := h.pot; show n + 1 + R ≤ ofs + 8 * s.turns; omega, h.tm⟩
theorem Pt.say {ns : List Str} {ofs most n R : Nat} {s : Rs} (h : Pt ns ofs most n (R + 1) s) (z : Int) : Pt ns ofs most (n + 1) R { s with told := s.told ++ [z] } :=
  ⟨h.bd.up (by omega), by have := h.tl; show (s.told ++ [z]).length ≤ n + 1; rw [List.length_append, List.length_singleton]; omega, by have := h.el; show s.ents.length ≤ n + 1; omega, by have := h.pot; show n + 1 + R ≤ ofs + 8 * s.turns; omega, h.tm⟩
theorem Pt.ent {ns : List Str} {ofs most n R : Nat} {s : Rs} (h : Pt ns ofs most n (R + 1) s) (z : List Nat × Int × Nat) : Pt ns ofs most (n + 1) R { s with ents := s.ents ++ [z] } :=
  ⟨h.bd.up (by omega), by have := h.tl; show s.told.length ≤ n + 1; omega, by have := h.el; show (s.ents ++ [z]).length ≤ n + 1; rw [List.length_append, List.length_singleton]; omega, by have := h.pot; show n + 1 + R ≤ ofs + 8 * s.turns; omega, h.tm⟩
theorem Pt.turn {ns : List Str} {ofs most n R : Nat} {s : Rs} (h : Pt ns ofs most n R s) (k : NsOk ns) {x : Str} (hx : x ∈ gsOf ns) (nz : s.v x ≠ 0) (lt : s.turns < most) : Pt ns ofs most n (R + 8) { s with turns := s.turns + 1, v := setV s.v x (s.v x - 1) } :=
  ⟨h.bd.less hx nz k.dj, h.tl, h.el, by have := h.pot; show n + (R + 8) ≤ ofs + 8 * (s.turns + 1); omega, lt⟩
theorem Pt.less {ns : List Str} {ofs most n R R' : Nat} {s : Rs} (h : Pt ns ofs most n R s) (l : R' ≤ R) : Pt ns ofs most n R' s := ⟨h.bd, h.tl, h.el, by have := h.pot; omega, h.tm⟩
theorem turns_pt {ns : List Str} {ofs most : Nat} (k : NsOk ns) {body : Rs → Option Rs} (hb : ∀ n R s s', Pt ns ofs most n (R + 8) s → body s = some s' → (∃ n', Pt ns ofs most n' R s') ∧ s.turns ≤ s'.turns) {x : Str} (hx : x ∈ gsOf ns) :
    ∀ f c n R s s' c', Pt ns ofs most n R s → turnsR body most x f c s = some (s', c') → (∃ n', Pt ns ofs most n' R s') ∧ s.turns ≤ s'.turns
  | 0, _, _, _, _, _, _, _, h => nomatch h
  | f + 1, c, n, R, s, s', c', p, h => by
    unfold turnsR at h
    by_cases z : s.v x = 0
    · rw [if_pos z] at h
      injection h with h
      injection h with h1 h2
      subst h1
      exact ⟨⟨n, p⟩, Nat.le_refl _⟩
    · rw [if_neg z] at h
      by_cases q : most ≤ s.turns
      · rw [if_pos q] at h
        cases h
      · rw [if_neg q] at h
        have p2 := p.turn k hx z (by omega)
        cases e : body { s with turns := s.turns + 1, v := setV s.v x (s.v x - 1) } with
        | none =>
          rw [e] at h
          cases h
        | some s2 =>
          rw [e] at h
          obtain ⟨⟨n2, p3⟩, m2⟩ := hb _ _ _ _ p2 e
          obtain ⟨p4, m4⟩ := turns_pt k hb hx f (c + 1) n2 R s2 s' c' p3 h
          have m2 : s.turns + 1 ≤ s2.turns := m2
          exact ⟨p4, by omega⟩
theorem doR_pt {ns : List Str} {ofs most : Nat} (k : NsOk ns) : ∀ (r : Rw) {d : Nat}, RwOk ns r d → RwT ns r → ∀ pl i n R s s', Pt ns ofs most n (R + lenR r) s → doR most r pl i s = some s' → (∃ n', Pt ns ofs most n' R s') ∧ s.turns ≤ s'.turns
  | .nil, _, _, _, _, _, n, R, s, s', p, h => by
    injection h with h
    subst h
    exact ⟨⟨n, p⟩, Nat.le_refl _⟩
  | .set x e r, d, ⟨_, _, o⟩, ⟨t1, _, t⟩, pl, i, n, R, s, s', p, h => doR_pt k r o t pl (i + 1) (n + 1) R { s with v := setV s.v x (valE s.v e) } s' ((show Pt ns ofs most n (R + lenR r + 1) s from p).set k t1) h
  | .say e r, d, ⟨_, o⟩, ⟨_, t⟩, pl, i, n, R, s, s', p, h => doR_pt k r o t pl (i + 1) (n + 1) R { s with told := s.told ++ [valE s.v e] } s' ((show Pt ns ofs most n (R + lenR r + 1) s from p).say _) h
  | .lap x m b r, d, ⟨_, _, _, l8, ob, o⟩, ⟨t1, _, tb, t⟩, pl, i, n, R, s, s', p, h => by
    unfold doR at h
    cases e : turnsR (doR most b (pl ++ [i]) 0) most x (most + 1) 0 s with
    | none =>
      rw [e] at h
      cases h
    | some sc =>
      obtain ⟨s2, c⟩ := sc
      rw [e] at h
      obtain ⟨⟨n2, p2⟩, m2⟩ := turns_pt k (fun n R s s' p h => doR_pt k b ob tb _ _ n R s s' (p.less (by omega)) h) t1 _ _ n (R + lenR r + 1) s s2 c p e
      obtain ⟨p3, m3⟩ := doR_pt k r o t pl (i + 1) (n2 + 1) R _ s' (p2.ent _) h
      exact ⟨p3, Nat.le_trans m2 m3⟩
/-! ### a run with more or fewer turns told as a most -/
theorem turnsR_more {body body' : Rs → Option Rs} {most most' : Nat} {x : Str} (hb : ∀ s s', body s = some s' → s.turns ≤ s'.turns ∧ (s'.turns ≤ most' → body' s = some s')) :
    ∀ f c s s' c', turnsR body most x f c s = some (s', c') → s.turns ≤ s'.turns ∧ (s'.turns ≤ most' → ∀ f', s'.turns < f' + s.turns → turnsR body' most' x f' c s = some (s', c'))
  | 0, _, _, _, _, h => nomatch h
  | f + 1, c, s, s', c', h => by
    unfold turnsR at h
    by_cases z : s.v x = 0
    · rw [if_pos z] at h
      injection h with h
      injection h with h1 h2
      subst h1
      subst h2
      refine ⟨Nat.le_refl _, fun l f' hf => ?_⟩
      cases f' with
      | zero => omega
      | succ g =>
        unfold turnsR
        rw [if_pos z]
    · rw [if_neg z] at h
      by_cases q : most ≤ s.turns
      · rw [if_pos q] at h
        cases h
      · rw [if_neg q] at h
        cases e : body { s with turns := s.turns + 1, v := setV s.v x (s.v x - 1) } with
        | none =>
          rw [e] at h
          cases h
        | some s2 =>
          rw [e] at h
          obtain ⟨m1, b1⟩ := hb _ _ e
          obtain ⟨m2, b2⟩ := turnsR_more hb f (c + 1) s2 s' c' h
          have m1 : s.turns + 1 ≤ s2.turns := m1
          refine ⟨by omega, fun l f' hf => ?_⟩
          cases f' with
          | zero => omega
          | succ g =>
            unfold turnsR
            rw [if_neg z, if_neg (by omega), b1 (by omega)]
            exact b2 l g (by omega)
theorem doR_more {most most' : Nat} : ∀ (r : Rw) pl i s s', doR most r pl i s = some s' → s.turns ≤ s'.turns ∧ (s'.turns ≤ most' → doR most' r pl i s = some s')
  | .nil, _, _, s, s', h => by
    injection h with h
    subst h
    exact ⟨Nat.le_refl _, fun _ => rfl⟩
  | .set x e r, pl, i, s, s', h => doR_more r pl (i + 1) { s with v := setV s.v x (valE s.v e) } s' h
  | .say e r, pl, i, s, s', h => doR_more r pl (i + 1) { s with told := s.told ++ [valE s.v e] } s' h
  | .lap x m b r, pl, i, s, s', h => by
    unfold doR at h
    cases e : turnsR (doR most b (pl ++ [i]) 0) most x (most + 1) 0 s with
    | none =>
      rw [e] at h
      cases h
    | some sc =>
      obtain ⟨s2, c⟩ := sc
      rw [e] at h
      obtain ⟨m1, b1⟩ := turnsR_more (most' := most') (body' := doR most' b (pl ++ [i]) 0) (fun s s' h => doR_more b (pl ++ [i]) 0 s s' h) _ _ _ _ _ e
      obtain ⟨m2, b2⟩ := doR_more r pl (i + 1) _ s' h
      have m2 : s2.turns ≤ s'.turns := m2
      refine ⟨by omega, fun l => ?_⟩
      unfold doR
      rw [b1 (by omega) (most' + 1) (by omega)]
      exact b2 l
theorem doR_few {most most' : Nat} {r : Rw} {pl : List Nat} {i : Nat} {s s' : Rs} (h : doR most r pl i s = some s') (l : most' < s'.turns) (g : ∀ s'', doR most' r pl i s = some s'' → s''.turns ≤ most') (lm : s'.turns ≤ most) : doR most' r pl i s = none := by
  cases e : doR most' r pl i s with
  | none => rfl
  | some s'' =>
    have a := g _ e
    have b := (doR_more (most' := most) r pl i s s'' e).2 (by omega)
    rw [h] at b
    injection b with b
    subst b
    omega
theorem doR_lap {most : Nat} {x : Str} {m : Ex} {b r : Rw} {pl : List Nat} {i : Nat} {s s' : Rs} {c : Nat} (e : turnsR (doR most b (pl ++ [i]) 0) most x (most + 1) 0 s = some (s', c)) : doR most (.lap x m b r) pl i s = doR most r pl (i + 1) { s' with ents := s'.ents ++ [(pl ++ [i], valE s.v m, c)] } := by
  rw [doR, e]
theorem doR_lap0 {most : Nat} {x : Str} {m : Ex} {b r : Rw} {pl : List Nat} {i : Nat} {s : Rs} (e : turnsR (doR most b (pl ++ [i]) 0) most x (most + 1) 0 s = none) : doR most (.lap x m b r) pl i s = none := by
  rw [doR, e]
/-! ### what the program's runner does with a row and with a lap -/
section
variable {P : Program} {w : World} {K : PySem.W.Frag} {mg : Str → Option Value} {base : Heap} {C : Addr}
structure Din (K : PySem.W.Frag) (C : Addr) (H : Hp) (p nd td ed place : Addr) (ks ns : List Str) (ofs most n R : Nat) (s : Rs) (pl : List Nat) : Prop where
  st : RunSt K C H p nd td ed ks most s
  pt : Pt ns ofs most n R s
  ok : NsOk ns
  kn : ks.Nodup
  le : ofs + 8 * most ≤ 49000
  kl : ks.length ≤ 1000
  pa : SqT K H place (placeV pl)
theorem Din.same {H H' : Hp} {p nd td ed place : Addr} {ks ns : List Str} {ofs most n R : Nat} {s : Rs} {pl : List Nat} (h : Din K C H p nd td ed place ks ns ofs most n R s pl) (u : Same H H') : Din K C H' p nd td ed place ks ns ofs most n R s pl :=
  ⟨h.st.same u, h.pt, h.ok, h.kn, h.le, h.kl, SqT.keeps h.pa (TupsStay.same u)⟩
theorem Din.go {H H' : Hp} {p nd td ed place : Addr} {ks ns : List Str} {ofs most n R n' R' : Nat} {s s' : Rs} {pl : List Nat} (h : Din K C H p nd td ed place ks ns ofs most n R s pl) (u : Kp [p, nd, td, ed] H H') (st : RunSt K C H' p nd td ed ks most s') (pt : Pt ns ofs most n' R' s') : Din K C H' p nd td ed place ks ns ofs most n' R' s' pl :=
  ⟨st, pt, h.ok, h.kn, h.le, h.kl, SqT.keeps h.pa (h.st.tups u)⟩
theorem Din.bits {H : Hp} {p nd td ed place : Addr} {ks ns : List Str} {ofs most n R : Nat} {s : Rs} {pl : List Nat} (h : Din K C H p nd td ed place ks ns ofs most n R s pl) : 10 ≤ 4 * n + 51 ∧ 4 * (4 * n + 51) ≤ 1000000 := by
  have a := h.pt.pot
  have b := h.pt.tm
  have c := h.le
  omega
theorem Din.small {H : Hp} {p nd td ed place : Addr} {ks ns : List Str} {ofs most n R : Nat} {s : Rs} {pl : List Nat} (h : Din K C H p nd td ed place ks ns ofs most n R s pl) : s.told.length < 100000 ∧ s.ents.length < 100000 := by
  have a := h.pt.pot
  have b := h.pt.tm
  have c := h.le
  have d := h.pt.tl
  have e := h.pt.el
  omega
/-- the dict of the names, and what is got and put there -/
theorem RunSt.nmd {H : Hp} {p nd td ed : Addr} {ks : List Str} {most : Nat} {s : Rs} (h : RunSt K C H p nd td ed ks most s) (kn : ks.Nodup) : ∃ L : Pr, H nd = some (.dK (dSI L)) ∧ (L.map (·.1)).Nodup ∧ L.map (·.1) = ks ∧ (∀ x, expo L x = s.v x) := by
  obtain ⟨L, a, b, c⟩ := h.nm
  exact ⟨L, a, by rw [b]; exact kn, b, c⟩
theorem RunSt.set {H H' : Hp} {p nd td ed : Addr} {ks : List Str} {most : Nat} {s : Rs} (h : RunSt K C H p nd td ed ks most s) (kn : ks.Nodup) {L : Pr} (el : L.map (·.1) = ks) (ev : ∀ x, expo L x = s.v x) {x : Str} (hx : x ∈ ks) (n : Int) (e : H' nd = some (.dK (dSI (putS L x n)))) (u : Else nd H H') : RunSt K C H' p nd td ed ks most { s with v := setV s.v x n } := by
  obtain ⟨k1, k2, k3, k4, k5⟩ := h.kinds
  obtain ⟨dx, e1⟩ := h.ob
  obtain ⟨L0, e2, _, _⟩ := h.nm
  obtain ⟨es, e3, e4⟩ := h.en
  have tt : TupsStay H H' := fun b xs q => by
    have no : b ≠ nd := fun z => by
      subst z
      rcases q with q | ⟨ob, q⟩ <;> (rw [e2] at q; cases q)
    rcases q with q | ⟨ob, q⟩
    · exact .inl (u _ _ q no)
    · exact .inr ⟨ob, u _ _ q no⟩
  refine ⟨⟨dx, u _ _ e1 k1⟩, ⟨putS L x n, e, by rw [putS_map (by rw [el]; exact hx), el], fun y => ?_⟩, u _ _ h.tl (fun z => k4 z.symm), ⟨es, u _ _ e3 (fun z => k5 z.symm), Paired.mapP e4 fun _ _ z => z.stay tt⟩, h.ne⟩
  rw [expo_set (by rw [el]; exact kn), ev y]
  rfl
theorem RunSt.say {H : Hp} {p nd td ed : Addr} {ks : List Str} {most : Nat} {s : Rs} (h : RunSt K C H p nd td ed ks most s) (n : Int) : RunSt K C (upd H td (.lst (s.told.map V.int ++ [.int n]))) p nd td ed ks most { s with told := s.told ++ [n] } := by
  obtain ⟨k1, k2, k3, k4, k5⟩ := h.kinds
  obtain ⟨dx, e1⟩ := h.ob
  obtain ⟨L0, e2, l1, l2⟩ := h.nm
  obtain ⟨es, e3, e4⟩ := h.en
  have tt : TupsStay H (upd H td (.lst (s.told.map V.int ++ [.int n]))) := h.tups (Kp.upd (by simp))
  refine ⟨⟨dx, by rw [upd_ne k2]; exact e1⟩, ⟨L0, by rw [upd_ne k4]; exact e2, l1, l2⟩, by rw [upd_same, List.map_append]; rfl, ⟨es, by rw [upd_ne h.ne.symm]; exact e3, Paired.mapP e4 fun _ _ z => z.stay tt⟩, h.ne⟩
theorem RunSt.ent {H : Hp} {p nd td ed ea : Addr} {ks : List Str} {most : Nat} {s : Rs} (h : RunSt K C H p nd td ed ks most s) {x : List Nat × Int × Nat} (hx : EntAt K H ea x) {es : List Addr} (e : H ed = some (.lst (es.map V.ref))) (pe : Paired (EntAt K H) es s.ents) : RunSt K C (upd H ed (.lst (es.map V.ref ++ [.ref ea]))) p nd td ed ks most { s with ents := s.ents ++ [x] } := by
  obtain ⟨k1, k2, k3, k4, k5⟩ := h.kinds
  obtain ⟨dx, e1⟩ := h.ob
  obtain ⟨L0, e2, l1, l2⟩ := h.nm
  have tt : TupsStay H (upd H ed (.lst (es.map V.ref ++ [.ref ea]))) := h.tups (Kp.upd (by simp))
  refine ⟨⟨dx, by rw [upd_ne k3]; exact e1⟩, ⟨L0, by rw [upd_ne k5]; exact e2, l1, l2⟩, by rw [upd_ne h.ne]; exact h.tl, ⟨es ++ [ea], by rw [upd_same, List.map_append]; rfl, Paired.snoc (hx.stay tt) (Paired.mapP pe fun _ _ z => z.stay tt)⟩, h.ne⟩
theorem RunSt.turn {H : Hp} {p nd td ed dx : Addr} {ks : List Str} {most : Nat} {s : Rs} (h : RunSt K C H p nd td ed ks most s) : RunSt K C (upd H p (.ins C dx (runF nd (most : Int) td ((s.turns : Int) + 1) ed))) p nd td ed ks most { s with turns := s.turns + 1 } := by
  obtain ⟨k1, k2, k3, k4, k5⟩ := h.kinds
  obtain ⟨L0, e2, l1, l2⟩ := h.nm
  obtain ⟨es, e3, e4⟩ := h.en
  have tt : TupsStay H (upd H p (.ins C dx (runF nd (most : Int) td ((s.turns : Int) + 1) ed))) := h.tups (Kp.upd (by simp))
  exact ⟨⟨dx, upd_same⟩, ⟨L0, by rw [upd_ne k1.symm]; exact e2, l1, l2⟩, by rw [upd_ne k2.symm]; exact h.tl, ⟨es, by rw [upd_ne k3.symm]; exact e3, Paired.mapP e4 fun _ _ z => z.stay tt⟩, h.ne⟩
def spDoRow (K : PySem.W.Frag) (C D : Addr) (n : Nat) : Sp := fun vs H Q E => ∃ (p row place nd td ed : Addr) (ks ns : List Str) (ofs most m R : Nat) (s : Rs) (pl : List Nat) (rw_ : Rw), vs = [.ref p, .ref row, .ref place] ∧ Din K C H p nd td ed place ks ns ofs most m (R + lenR rw_) s pl ∧ pl.length + n ≤ 20 ∧
  RwAt K H row rw_ ∧ RwOk ns rw_ n ∧ RwT ns rw_ ∧ lenR rw_ ≤ 12 ∧ (∀ x ∈ namesR rw_, x ∈ ks) ∧
  (∀ s' H', doR most rw_ pl 0 s = some s' → RunSt K C H' p nd td ed ks most s' → Kp [p, nd, td, ed] H H' → Q .non H') ∧ (doR most rw_ pl 0 s = none → ∀ H', Kp [p, nd, td, ed] H H' → E (.ref D) none H')
def spDoLap (K : PySem.W.Frag) (C D : Addr) (n : Nat) : Sp := fun vs H Q E => ∃ (p lap place nd td ed pm pb : Addr) (ks ns : List Str) (ofs most m R : Nat) (s : Rs) (pl : List Nat) (x : Str) (me : Ex) (b : Rw), vs = [.ref p, .ref lap, .ref place] ∧ Din K C H p nd td ed place ks ns ofs most m (R + 1) s pl ∧ pl.length + n ≤ 20 ∧
  SqT K H lap [.str "lap", .str x, .ref pm, .ref pb] ∧ ExAt K H pm me ∧ RwAt K H pb b ∧ x ∈ gsOf ns ∧ ExOk ns 2 me ∧ RwOk ns b n ∧ RwT ns b ∧ lenR b ≤ 8 ∧ x ∈ ks ∧ (∀ y ∈ namesE me, y ∈ ks) ∧ (∀ y ∈ namesR b, y ∈ ks) ∧
  (∀ s' c H', turnsR (doR most b pl 0) most x (most + 1) 0 s = some (s', c) → RunSt K C H' p nd td ed ks most { s' with ents := s'.ents ++ [(pl, valE s.v me, c)] } → Kp [p, nd, td, ed] H H' → Q .non H') ∧
  (turnsR (doR most b pl 0) most x (most + 1) 0 s = none → ∀ H', Kp [p, nd, td, ed] H H' → E (.ref D) none H')
theorem ok_do_row {Lp D : Addr} (X : ExTxt K mg Lp D) {f f2 : Addr} {fd fd2 : FuncData} (T : Txt K mg C) (F : DefAt K mg "_do_row" "_do_row" s_do_row ["run", "row", "place"] f fd) (D_do_lap : DefAt K mg "_do_lap" "_do_lap" s_do_lap ["run", "lap", "place"] f2 fd2) {n k : Nat} (hk : 5 ≤ k)
    (G_do_lap : FnOk P w K mg base (L2.CX P w) k f2 fd2 ["run", "lap", "place"] (fun vs H Q E => 1 ≤ n ∧ spDoLap K C D (n - 1) vs H Q E)) : FnOk P w K mg base (L2.CX P w) (k + 1) f fd ["run", "row", "place"] (spDoRow K C D n) := by
  obtain ⟨f1, fd1, D_reckoned⟩ := T.d_reckoned
  have G_reckoned : FnOk P w K mg base CX0 4 f1 fd1 ["expression", "names"] (spReck K 4) := ok_reckoned T D_reckoned 4
  refine F.F.okX sc_do_row (fun vs H Q E h => ?_) (fun cdv A outer z H vs Q E hr h => ?_)
  · obtain ⟨p, row, place, nd, td, ed, ks, ns, ofs, most, m, R, s, pl, rw_, rfl, _⟩ := h
    rfl
  · obtain ⟨p, row, place, nd, td, ed, ks, ns, ofs, most, m, R, s, pl, rw_, rfl, I, hpl, ar, ok, tm, l12, ky, q, qe⟩ := h
    refine ⟨_, (pss_one (ps_for (passes_of rfl) rfl (pi_enumT (by rfl) T.m_enumerate (pa_cons (pe_ix ix_tup (pv 1) pe_int (fun _ _ => rfl)) pa_nil)) (pg_tup (by rfl) (pgs_cons (pg_name (i := 3) sc_do_row.nd rfl (.inl rfl)) (pgs_cons (pg_name (i := 4) sc_do_row.nd rfl (.inl rfl)) pgs_nil))) (pss_one (ps_if (pt_cmpR op_eq (pe_ix ix_tup (pv 4) pe_int (fun _ _ => rfl)) pe_str (nomark _)) (pss_one (ps_dput (room1 hr) (pe_fld (pv 0) rfl) (pe_ix ix_tup (pv 4) pe_int (fun _ _ => rfl)) (pe_call G_reckoned (hr.mono (by omega)) (by rfl) D_reckoned.g D_reckoned.F.kp D_reckoned.b .nil pass0 (pa_cons (pe_ix ix_tup (pv 4) pe_int (fun _ _ => rfl)) (pa_cons (pe_fld (pv 0) rfl) pa_nil))) rfl)) (pss_one (ps_if (pt_cmpR op_eq (pe_ix ix_tup (pv 4) pe_int (fun _ _ => rfl)) pe_str (nomark _)) (pss_one (ps_expr (pe_bm PySem.F.plainAttrs_list PySem.F.slot_list_append PySem.F.type_list_append mt_append (pe_fld (pv 0) rfl) (pa_cons (pe_call G_reckoned (hr.mono (by omega)) (by rfl) D_reckoned.g D_reckoned.F.kp D_reckoned.b .nil pass0 (pa_cons (pe_ix ix_tup (pv 4) pe_int (fun _ _ => rfl)) (pa_cons (pe_fld (pv 0) rfl) pa_nil))) pa_nil)))) (pss_one (ps_expr (pe_callS G_do_lap (hr.mono (by omega)) (by rfl) D_do_lap.g D_do_lap.F.kp D_do_lap.b (fun σ => passAt (takes_of rfl rfl rfl rfl) σ) (pa_cons (pv 0) (pa_cons (pv 4) (pa_cons (pe_op op_catA (pv 2) (pe_tup (pa_cons (pv 3) pa_nil))) pa_nil)))))))))))), ?_⟩
    obtain ⟨pt, qs, a1, a2, a3⟩ := ar
    have tt0 : ∀ {H2 : Hp}, Kp [p, nd, td, ed] H H2 → TupsStay H H2 := fun u => I.st.tups u
    refine ⟨_, rfl, row, _, _, _, rfl, rfl, a1, atI_nat (j := 1) rfl, pt, qs.map V.ref, rfl, a2, for_enumT (K := K) (a := pt) (xs := qs.map V.ref) (fun i σ H2 => ∃ (v3 v4 : Option V) (m2 : Nat) (s2 : Rs) (r2 : Rw), σ = [some (.ref p), some (.ref row), some (.ref place), v3, v4] ∧ Din K C H2 p nd td ed place ks ns ofs most m2 (R + lenR r2) s2 pl ∧ Kp [p, nd, td, ed] H H2 ∧ StsAt K H2 r2 (qs.drop i) ∧ RwOk ns r2 n ∧ RwT ns r2 ∧ (∀ x ∈ namesR r2, x ∈ ks) ∧ doR most rw_ pl 0 s = doR most r2 pl i s2)
      ⟨none, none, m, s, rw_, rfl, I, Kp.refl _ _, a3, ok, tm, ky, rfl⟩ (fun i σ H2 _ h2 => ?_) (fun i x σ H2 t hx h2 nt => ?_) (fun σ H2 h2 => ?_)⟩
    · obtain ⟨v3, v4, m2, s2, r2, _, _, u2, _⟩ := h2
      exact SqT.keeps a2 (tt0 u2)
    · obtain ⟨v3, v4, m2, s2, r2, rfl, I2, u2, st2, ok2, tm2, ky2, eq2⟩ := h2
      obtain ⟨y, hy, rfl⟩ : ∃ y, qs[i]? = some y ∧ x = V.ref y := by
        rw [List.getElem?_map] at hx
        cases e : qs[i]? with
        | none =>
          rw [e] at hx
          cases hx
        | some y =>
          rw [e] at hx
          exact ⟨y, rfl, (Option.some.inj hx).symm⟩
      have ed2 : qs.drop i = y :: qs.drop (i + 1) := by
        obtain ⟨l, e⟩ := List.getElem?_eq_some_iff.mp hy
        rw [← e]
        exact List.drop_eq_getElem_cons l
      rw [ed2] at st2
      have ut : Same H2 (upd H2 t (.tup [.int (i : Nat), .ref y])) := same_upd nt
      have I3 := I2.same ut
      have u3 : Kp [p, nd, td, ed] H (upd H2 t (.tup [.int (i : Nat), .ref y])) := u2.same ut
      have st3 := st2.stay (TupsStay.same ut)
      refine ⟨t, _, rfl, SqT.of upd_same, rfl, _, _, rfl, _, _, rfl, rfl, ?_⟩
      cases r2 with
      | nil =>
        exact absurd st3 (by intro z; cases z)
      | set x e r3 =>
        obtain ⟨y', t', pe, e0, h1, h2, h3⟩ := st3
        obtain ⟨rfl, rfl⟩ : y = y' ∧ qs.drop (i + 1) = t' := by cases e0; exact ⟨rfl, rfl⟩
        obtain ⟨o1, o2, o3⟩ := ok2
        obtain ⟨g1, g2, g3⟩ := tm2
        obtain ⟨dx, eob⟩ := I3.st.ob
        obtain ⟨L, eL, nL, kL, vL⟩ := I3.st.nmd I3.kn
        have vE : expo L = s2.v := funext vL
        have bt := I3.bits
        refine ⟨_, rfl, y, _, _, _, rfl, rfl, h1, atI_nat (j := 0) rfl, rfl, _, rfl, ite2 (fun c => ?_) (fun c => absurd (by decide) c)⟩
        refine ⟨_, rfl, y, _, _, _, rfl, rfl, h1, atI_nat (j := 2) rfl, _, rfl, p, C, dx, _, _, rfl, eob, T.cl_Run, T.n_Run_names, rfl, ?_⟩
        refine ⟨pe, nd, e, ns, L, 4 * m2 + 51, rfl, h2, okSet g2, eL, nL, bt.1, mulB_set (by omega) bt.2 g2, (fun z hz => by rw [vL]; exact I3.pt.bd.bits I3.ok.len z hz), (fun z hz => by rw [kL]; exact ky2 z (List.mem_cons_of_mem _ (List.mem_append_left _ hz))), ?_⟩
        rw [vE]
        refine ⟨_, rfl, p, C, dx, _, _, rfl, eob, T.cl_Run, T.n_Run_names, rfl, _, rfl, y, _, _, _, rfl, rfl, h1, atI_nat (j := 1) rfl, nd, _, rfl, DPut.k (k := .inr x) eL (by rw [dSI_len, ← List.length_map (f := (·.1)), kL, sizeLine_eq]; have := I3.kl; omega), ?_⟩
        have hx : x ∈ ks := ky2 x List.mem_cons_self
        have el : Else nd (upd H2 t (.tup [.int (i : Nat), .ref y])) (upd (upd H2 t (.tup [.int (i : Nat), .ref y])) nd (.dK (dSI (putS L x (valE s2.v e))))) := fun b o z nb => by
          rw [upd_ne nb]
          exact z
        have S4 := I3.st.set I3.kn kL vL hx (valE s2.v e) upd_same el
        have u4 : Kp [p, nd, td, ed] (upd H2 t (.tup [.int (i : Nat), .ref y])) (upd (upd H2 t (.tup [.int (i : Nat), .ref y])) nd (.dK (dSI (putS L x (valE s2.v e))))) := Kp.upd (by simp)
        rw [dSI_put]
        exact ⟨_, _, m2 + 1, { s2 with v := setV s2.v x (valE s2.v e) }, r3, rfl, I3.go u4 S4 ((show Pt ns ofs most m2 (R + lenR r3 + 1) s2 from I3.pt).set I3.ok g1), u3.trans u4, h3.stay (I3.st.tups u4), o3, g3, fun z hz => ky2 z (List.mem_cons_of_mem _ (List.mem_append_right _ hz)), eq2⟩
      | say e r3 =>
        obtain ⟨y', t', pe, e0, h1, h2, h3⟩ := st3
        obtain ⟨rfl, rfl⟩ : y = y' ∧ qs.drop (i + 1) = t' := by cases e0; exact ⟨rfl, rfl⟩
        obtain ⟨o2, o3⟩ := ok2
        obtain ⟨g2, g3⟩ := tm2
        obtain ⟨dx, eob⟩ := I3.st.ob
        obtain ⟨L, eL, nL, kL, vL⟩ := I3.st.nmd I3.kn
        have vE : expo L = s2.v := funext vL
        have bt := I3.bits
        refine ⟨_, rfl, y, _, _, _, rfl, rfl, h1, atI_nat (j := 0) rfl, rfl, _, rfl, ite2 (fun c => absurd c (by decide)) (fun c => ?_)⟩
        refine ⟨_, rfl, y, _, _, _, rfl, rfl, h1, atI_nat (j := 0) rfl, rfl, _, rfl, ite2 (fun c => ?_) (fun c => absurd (by decide) c)⟩
        refine ⟨_, rfl, p, C, dx, _, _, rfl, eob, T.cl_Run, T.n_Run_told, rfl, .inl ⟨rfl, _, SqL.of I3.st.tl⟩, ?_⟩
        refine ⟨_, rfl, y, _, _, _, rfl, rfl, h1, atI_nat (j := 1) rfl, _, rfl, p, C, dx, _, _, rfl, eob, T.cl_Run, T.n_Run_names, rfl, ?_⟩
        refine ⟨pe, nd, e, ns, L, 4 * m2 + 51, rfl, h2, g2.up, eL, nL, bt.1, mulB_two (by omega) bt.2 g2, (fun z hz => by rw [vL]; exact I3.pt.bd.bits I3.ok.len z hz), (fun z hz => by rw [kL]; exact ky2 z (List.mem_append_left _ hz)), ?_⟩
        rw [vE]
        refine ⟨td, _, _, rfl, rfl, I3.st.tl, by rw [List.length_map, sizeLine_eq]; have := I3.small; omega, ?_⟩
        have S4 := I3.st.say (valE s2.v e)
        have u4 : Kp [p, nd, td, ed] (upd H2 t (.tup [.int (i : Nat), .ref y])) (upd (upd H2 t (.tup [.int (i : Nat), .ref y])) td (.lst (s2.told.map V.int ++ [.int (valE s2.v e)]))) := Kp.upd (by simp)
        exact ⟨_, _, m2 + 1, { s2 with told := s2.told ++ [valE s2.v e] }, r3, rfl, I3.go u4 S4 ((show Pt ns ofs most m2 (R + lenR r3 + 1) s2 from I3.pt).say _), u3.trans u4, h3.stay (I3.st.tups u4), o3, g3, fun z hz => ky2 z (List.mem_append_right _ hz), eq2⟩
      | lap x me b r3 =>
        obtain ⟨y', t', pm, pb, pt2, qb, e0, h1, h2, h3, h4, h5, h6⟩ := st3
        obtain ⟨rfl, rfl⟩ : y = y' ∧ qs.drop (i + 1) = t' := by cases e0; exact ⟨rfl, rfl⟩
        obtain ⟨o1, o2, o3, o4, o5, o6⟩ := ok2
        obtain ⟨g1, g2, g3, g4⟩ := tm2
        refine ⟨_, rfl, y, _, _, _, rfl, rfl, h1, atI_nat (j := 0) rfl, rfl, _, rfl, ite2 (fun c => absurd c (by decide)) (fun c => ?_)⟩
        refine ⟨_, rfl, y, _, _, _, rfl, rfl, h1, atI_nat (j := 0) rfl, rfl, _, rfl, ite2 (fun c => absurd c (by decide)) (fun c => ?_)⟩
        refine ⟨_, rfl, _, rfl, _, rfl, _, rfl, (by show 1 ≤ sizeLine; decide), fun t5 n5 => ?_⟩
        have key : ∀ (pl2 : Addr) (H6 : Hp) (Q' : VK) (E' : XK), Same (upd H2 t (.tup [.int (i : Nat), .ref y])) H6 → SqT K H6 pl2 (placeV (pl ++ [i])) →
            (∀ (m4 : Nat) (s4 : Rs) (H' : Hp), Din K C H' p nd td ed place ks ns ofs most m4 (R + lenR r3) s4 pl → Kp [p, nd, td, ed] H H' → StsAt K H' r3 (qs.drop (i + 1)) → doR most rw_ pl 0 s = doR most r3 pl (i + 1) s4 → Q' .non H') →
            (doR most rw_ pl 0 s = none → ∀ H', Kp [p, nd, td, ed] H H' → E' (.ref D) none H') →
            1 ≤ n ∧ spDoLap K C D (n - 1) [.ref p, .ref y, .ref pl2] H6 Q' E' := fun pl2 H6 Q' E' u6 pa6 hQ hE => by
          have I6 := I3.same u6
          have tu := TupsStay.same u6
          have pt6 : Pt ns ofs most m2 (R + lenR r3 + 1) s2 := I6.pt
          refine ⟨o3, p, y, pl2, nd, td, ed, pm, pb, ks, ns, ofs, most, m2, R + lenR r3, s2, pl ++ [i], x, me, b, rfl, ⟨I6.st, pt6, I6.ok, I6.kn, I6.le, I6.kl, pa6⟩, ?_, SqT.keeps h1 tu, h2.stay tu, ⟨pt2, qb, SqT.keeps h3 tu, SqT.keeps h4 tu, h5.stay tu⟩, g1, g2, o5, g3, o4, ky2 x List.mem_cons_self, fun z hz => ky2 z (List.mem_cons_of_mem _ (List.mem_append_left _ hz)), fun z hz => ky2 z (List.mem_cons_of_mem _ (List.mem_append_right _ (List.mem_append_left _ hz))), fun s' c H' e1 S1 u7 => ?_, fun e1 H' u7 => ?_⟩
          · rw [List.length_append, List.length_singleton]
            omega
          · obtain ⟨⟨n2, p2⟩, _⟩ := turns_pt I6.ok (fun n R s s' p h => doR_pt I6.ok b o5 g3 _ _ n R s s' (p.less (by omega)) h) g1 _ _ m2 (R + lenR r3 + 1) s2 s' c pt6 e1
            refine hQ (n2 + 1) _ H' (I6.go u7 S1 (p2.ent _)) ((u3.same u6).trans u7) ((h6.stay tu).stay (I6.st.tups u7)) (eq2.trans (doR_lap e1))
          · exact hE (eq2.trans (doR_lap0 e1)) H' ((u3.same u6).trans u7)
        have u5 : Same (upd H2 t (.tup [.int (i : Nat), .ref y])) (upd (upd H2 t (.tup [.int (i : Nat), .ref y])) t5 (.tup [.int (i : Nat)])) := same_upd n5
        have p5 : SqT K (upd (upd H2 t (.tup [.int (i : Nat), .ref y])) t5 (.tup [.int (i : Nat)])) place (placeV pl) := SqT.keeps I3.pa (TupsStay.same u5)
        have pv : placeV (pl ++ [i]) = placeV pl ++ [.int (i : Nat)] := List.map_append
        refine ⟨place, t5, placeV pl, [.int (i : Nat)], rfl, rfl, p5, SqT.of upd_same, by rw [sizeLine_eq]; unfold placeV; rw [List.length_map, List.length_singleton]; omega, fun e => ?_, fun _ e => (nomatch e), fun _ _ p6 n6 => ?_⟩
        · refine key t5 _ _ _ u5 (by rw [pv, e]; exact SqT.of upd_same) (fun m4 s4 H' a b c d => ⟨_, _, m4, s4, r3, rfl, a, b, c, o6, g4, fun z hz => ky2 z (List.mem_cons_of_mem _ (List.mem_append_right _ (List.mem_append_right _ hz))), d⟩) (fun e H' u => qe e H' u)
        · refine key p6 _ _ _ (u5.trans (same_upd n6)) (by rw [pv]; exact SqT.of upd_same) (fun m4 s4 H' a b c d => ⟨_, _, m4, s4, r3, rfl, a, b, c, o6, g4, fun z hz => ky2 z (List.mem_cons_of_mem _ (List.mem_append_right _ (List.mem_append_right _ hz))), d⟩) (fun e H' u => qe e H' u)
    · obtain ⟨v3, v4, m2, s2, r2, rfl, I2, u2, st2, ok2, tm2, ky2, eq2⟩ := h2
      rw [List.length_map, List.drop_length] at st2
      have e0 : r2 = .nil := by
        cases r2 with
        | nil => rfl
        | set x e r => obtain ⟨_, _, _, z, _⟩ := st2; cases z
        | say e r => obtain ⟨_, _, _, z, _⟩ := st2; cases z
        | lap x m b r => obtain ⟨_, _, _, _, _, _, z, _⟩ := st2; cases z
      subst e0
      exact q s2 H2 eq2 I2.st u2
theorem ok_do_lap {Lp D : Addr} (X : ExTxt K mg Lp D) {f f2 : Addr} {fd fd2 : FuncData} (T : Txt K mg C) (F : DefAt K mg "_do_lap" "_do_lap" s_do_lap ["run", "lap", "place"] f fd) (D_do_row : DefAt K mg "_do_row" "_do_row" s_do_row ["run", "row", "place"] f2 fd2) {n k : Nat} (hk : 5 ≤ k)
    (G_do_row : FnOk P w K mg base (L2.CX P w) k f2 fd2 ["run", "row", "place"] (spDoRow K C D n)) : FnOk P w K mg base (L2.CX P w) (k + 1) f fd ["run", "lap", "place"] (spDoLap K C D n) := by
  obtain ⟨f1, fd1, D_reckoned⟩ := T.d_reckoned
  have G_reckoned : FnOk P w K mg base CX0 4 f1 fd1 ["expression", "names"] (spReck K 4) := ok_reckoned T D_reckoned 4
  refine F.F.okX sc_do_lap (fun vs H Q E h => ?_) (fun cdv A outer z H vs Q E hr h => ?_)
  · obtain ⟨p, lap, place, nd, td, ed, pm, pb, ks, ns, ofs, most, m, R, s, pl, x, me, b, rfl, _⟩ := h
    rfl
  · obtain ⟨p, lap, place, nd, td, ed, pm, pb, ks, ns, ofs, most, m, R, s, pl, x, me, b, rfl, I, hpl, h1, h2, h3, g1, g2, ok, tm, l8, kx, km, kb, q, qe⟩ := h
    refine ⟨_, (pss_cons (ps_set (i := 3) sc_do_lap.nd rfl (.inl rfl) (pe_ix ix_tup (pv 1) pe_int (fun _ _ => rfl)))
      (pss_cons (ps_set (i := 4) sc_do_lap.nd rfl (.inl rfl) (pe_call G_reckoned (hr.mono (by omega)) (by rfl) D_reckoned.g D_reckoned.F.kp D_reckoned.b .nil pass0 (pa_cons (pe_ix ix_tup (pv 1) pe_int (fun _ _ => rfl)) (pa_cons (pe_fld (pv 0) rfl) pa_nil))))
      (pss_cons (ps_set (i := 5) sc_do_lap.nd rfl (.inl rfl) pe_int)
      (pss_cons (ps_while (passes_of rfl) (pt_cmpR op_ne (pe_dget (room1 hr) (pe_fld (pv 0) rfl) (pv 3) (fun _ _ => rfl)) pe_int (nomark _)) (pss_cons (ps_if (pt_cmpR op_ge (pe_fld (pv 0) rfl) (pe_fld (pv 0) rfl) (nomark _)) (pss_one (ps_raise rfl (takes_of rfl rfl rfl rfl) (pmk_own PySem.F.excBase_ValueError X.xD X.gD X.kD (raises_own X.bD X.tD) rfl))) pss_nil) (pss_cons (ps_fldaug (pv 0) pe_int in_add) (pss_cons (ps_aug (i := 5) sc_do_lap.nd rfl (.inl rfl) pe_int ip_add) (pss_cons (ps_daug (room1 hr) (pe_fld (pv 0) rfl) (pv 3) pe_int in_sub (fun _ _ _ => rfl)) (pss_one (ps_expr (pe_callS G_do_row (hr.mono (by omega)) (by rfl) D_do_row.g D_do_row.F.kp D_do_row.b (fun σ => passAt (takes_of rfl rfl rfl rfl) σ) (pa_cons (pv 0) (pa_cons (pe_ix ix_tup (pv 1) pe_int (fun _ _ => rfl)) (pa_cons (pv 2) pa_nil)))))))))))
      (pss_one (ps_expr (pe_bm PySem.F.plainAttrs_list PySem.F.slot_list_append PySem.F.type_list_append mt_append (pe_fld (pv 0) rfl) (pa_cons (pe_tup (pa_cons (pv 2) (pa_cons (pv 4) (pa_cons (pv 5) pa_nil)))) pa_nil)))))))), ?_⟩
    have I0 := I
    have tt0 : ∀ {H2 : Hp}, Kp [p, nd, td, ed] H H2 → TupsStay H H2 := fun u => I0.st.tups u
    obtain ⟨dx, eob⟩ := I.st.ob
    obtain ⟨L, eL, nL, kL, vL⟩ := I.st.nmd I.kn
    have vE : expo L = s.v := funext vL
    have bt := I.bits
    refine ⟨_, rfl, lap, _, _, _, rfl, rfl, h1, atI_nat (j := 1) rfl, ?_⟩
    refine ⟨_, rfl, lap, _, _, _, rfl, rfl, h1, atI_nat (j := 2) rfl, _, rfl, p, C, dx, _, _, rfl, eob, T.cl_Run, T.n_Run_names, rfl, ?_⟩
    refine ⟨pm, nd, me, ns, L, 4 * m + 51, rfl, h2, g2.up, eL, nL, bt.1, mulB_two (by omega) bt.2 g2, (fun z hz => by rw [vL]; exact I.pt.bd.bits I.ok.len z hz), (fun z hz => by rw [kL]; exact km z hz), ?_⟩
    rw [vE]
    clear L eL nL kL vL vE dx eob bt
    refine ⟨fun f2 σ H2 => ∃ (c m2 : Nat) (s2 : Rs), σ = [some (.ref p), some (.ref lap), some (.ref place), some (.str x), some (.int (valE s.v me)), some (.int (c : Int))] ∧ Din K C H2 p nd td ed place ks ns ofs most m2 (R + 1) s2 pl ∧ Kp [p, nd, td, ed] H H2 ∧ most + 1 ≤ f2 + s2.turns ∧ turnsR (doR most b pl 0) most x (most + 1) 0 s = turnsR (doR most b pl 0) most x f2 c s2, ⟨most + 1, 0, m, s, rfl, I, Kp.refl _ _, by omega, rfl⟩, ?_⟩
    rintro f2 σ H2 ⟨c, m2, s2, rfl, I2, u2, lf, eq2⟩
    obtain ⟨dx, eob⟩ := I2.st.ob
    obtain ⟨L, eL, nL, kL, vL⟩ := I2.st.nmd I2.kn
    have vE : expo L = s2.v := funext vL
    have tm2 := I2.pt.tm
    have dg : DGet H2 nd (.str x) (some (.int (s2.v x))) := by
      have z := DGet.k (k := .inr x) eL
      rw [valV_some nL (by rw [kL]; exact kx), vL] at z
      exact z
    refine ⟨_, rfl, p, C, dx, _, _, rfl, eob, T.cl_Run, T.n_Run_names, rfl, _, rfl, nd, _, rfl, dg, ?_⟩
    refine ⟨rfl, _, rfl, ite2 (fun c0 => ?_) (fun c0 => ?_)⟩
    · have nz : s2.v x ≠ 0 := fun e => by
        rw [e] at c0
        exact absurd c0 (by decide)
      obtain ⟨g, rfl⟩ : ∃ g, f2 = g + 1 := ⟨f2 - 1, by omega⟩
      refine ⟨fun σ H2 => ∃ (c m2 : Nat) (s2 : Rs), σ = [some (.ref p), some (.ref lap), some (.ref place), some (.str x), some (.int (valE s.v me)), some (.int (c : Int))] ∧ Din K C H2 p nd td ed place ks ns ofs most m2 (R + 1) s2 pl ∧ Kp [p, nd, td, ed] H H2 ∧ most + 1 ≤ g + s2.turns ∧ turnsR (doR most b pl 0) most x (most + 1) 0 s = turnsR (doR most b pl 0) most x g c s2, fun σ' H' h => ⟨g, Nat.lt_succ_self g, h⟩, ?_⟩
      refine ⟨_, rfl, p, C, dx, _, _, rfl, eob, T.cl_Run, T.n_Run_turns, rfl, _, rfl, p, C, dx, _, _, rfl, eob, T.cl_Run, T.n_Run_most, rfl, _, _, rfl, rfl, _, rfl, ite2 (fun c1 => ?_) (fun c1 => ?_)⟩
      · have c1 : most ≤ s2.turns := by have := of_decide_eq_true c1; omega
        refine qe ?_ H2 u2
        rw [eq2, turnsR, if_neg nz, if_pos c1]
      · have c1 : ¬ most ≤ s2.turns := fun l => c1 (decide_eq_true (by omega))
        have l1 : s2.turns < most := by omega
        refine ⟨_, rfl, p, C, dx, _, _, rfl, eob, T.cl_Run, T.n_Run_turns, rfl, _, _, rfl, rfl, dx, _, eob, (by show 5 < 1000; decide), ?_⟩
        have S3 := I2.st.turn (dx := dx)
        have u3 : Kp [p, nd, td, ed] H2 (upd H2 p (.ins C dx (runF nd (most : Int) td ((s2.turns : Int) + 1) ed))) := Kp.upd (by simp)
        have ef : putF "turns" (.int ((s2.turns : Int) + 1)) (runF nd (most : Int) td (s2.turns : Int) ed) = runF nd (most : Int) td ((s2.turns : Int) + 1) ed := rfl
        rw [ef]
        generalize hH3 : upd H2 p (.ins C dx (runF nd (most : Int) td ((s2.turns : Int) + 1) ed)) = H3 at S3 u3 ⊢
        obtain ⟨dx3, eob3⟩ := S3.ob
        obtain ⟨L3, eL3, nL3, kL3, vL3⟩ := S3.nmd I2.kn
        have dg3 : DGet H3 nd (.str x) (some (.int (s2.v x))) := by
          have z := DGet.k (k := .inr x) eL3
          rw [valV_some nL3 (by rw [kL3]; exact kx), vL3] at z
          exact z
        refine ⟨_, rfl, _, _, rfl, rfl, ?_⟩
        refine ⟨_, rfl, p, C, dx3, _, _, rfl, eob3, T.cl_Run, T.n_Run_names, rfl, _, rfl, nd, _, rfl, dg3, _, _, rfl, rfl, _, DPut.k (k := .inr x) eL3 (by rw [dSI_len, ← List.length_map (f := (·.1)), kL3, sizeLine_eq]; have := I2.kl; omega), ?_⟩
        rw [dSI_put]
        have el : Else nd H3 (upd H3 nd (.dK (dSI (putS L3 x (s2.v x - 1))))) := fun b o z nb => by
          rw [upd_ne nb]
          exact z
        have S4 := S3.set I2.kn kL3 vL3 kx (s2.v x - 1) upd_same el
        have u4 : Kp [p, nd, td, ed] H3 (upd H3 nd (.dK (dSI (putS L3 x (s2.v x - 1))))) := Kp.upd (by simp)
        generalize hH4 : upd H3 nd (.dK (dSI (putS L3 x (s2.v x - 1)))) = H4 at S4 u4 ⊢
        have u24 := u3.trans u4
        have I4 := I2.go (n' := m2) (R' := R + 1 + 8) u24 S4 (I2.pt.turn I2.ok g1 nz l1)
        have t4 := tt0 (u2.trans u24)
        have p4 : Pt ns ofs most m2 (R + 1 + lenR b) { s2 with turns := s2.turns + 1, v := setV s2.v x (s2.v x - 1) } := I4.pt.less (by omega)
        refine ⟨_, rfl, _, rfl, lap, _, _, _, rfl, rfl, SqT.keeps h1 t4, atI_nat (j := 3) rfl, _, rfl, ?_⟩
        refine ⟨p, pb, place, nd, td, ed, ks, ns, ofs, most, m2, R + 1, { s2 with turns := s2.turns + 1, v := setV s2.v x (s2.v x - 1) }, pl, b, rfl, ⟨I4.st, p4, I4.ok, I4.kn, I4.le, I4.kl, I4.pa⟩, hpl, h3.stay t4, ok, tm, by omega, kb, fun s' H' e1 S5 u5 => ?_, fun e1 H' u5 => ?_⟩
        · obtain ⟨⟨n5, p5⟩, mm⟩ := doR_pt I2.ok b ok tm pl 0 m2 (R + 1) _ s' p4 e1
          have mm : s2.turns + 1 ≤ s'.turns := mm
          refine ⟨c + 1, n5, s', rfl, I4.go u5 S5 p5, (u2.trans u24).trans u5, by omega, ?_⟩
          rw [eq2, turnsR, if_neg nz, if_neg c1, e1]
        · refine qe ?_ H' ((u2.trans u24).trans u5)
          rw [eq2, turnsR, if_neg nz, if_neg c1, e1]
    · have z0 : s2.v x = 0 := Classical.byContradiction fun nz => c0 (by
        have : decide (V.int (s2.v x) = V.int 0) = false := decide_eq_false fun e => nz (by injection e)
        rw [this]
        rfl)
      have e1 : turnsR (doR most b pl 0) most x (most + 1) 0 s = some (s2, c) := by
        obtain ⟨g, rfl⟩ : ∃ g, f2 = g + 1 := ⟨f2 - 1, by omega⟩
        rw [eq2, turnsR, if_pos z0]
      obtain ⟨es, e3, e4⟩ := I2.st.en
      refine ⟨_, rfl, p, C, dx, _, _, rfl, eob, T.cl_Run, T.n_Run_entries, rfl, .inl ⟨rfl, _, SqL.of e3⟩, ?_⟩
      refine ⟨_, rfl, _, rfl, _, rfl, (by show 3 ≤ sizeLine; decide), fun t6 n6 => ?_⟩
      have u6 : Same H2 (upd H2 t6 (.tup [.ref place, .int (valE s.v me), .int (c : Int)])) := same_upd n6
      have I6 := I2.same u6
      have ea : EntAt K (upd H2 t6 (.tup [.ref place, .int (valE s.v me), .int (c : Int)])) t6 (pl, valE s.v me, c) := ⟨place, SqT.of upd_same, I6.pa⟩
      have e6 := u6 _ _ e3
      have e7 : Paired (EntAt K (upd H2 t6 (.tup [.ref place, .int (valE s.v me), .int (c : Int)]))) es s2.ents := Paired.mapP e4 fun _ _ z => z.stay (TupsStay.same u6)
      have S7 := I6.st.ent ea e6 e7
      have lene : es.length = s2.ents.length := by
        have : ∀ {l1 : List Addr} {l2 : List (List Nat × Int × Nat)}, Paired (EntAt K H2) l1 l2 → l1.length = l2.length := fun h => by
          induction h with
          | nil => rfl
          | cons _ _ ih => rw [List.length_cons, List.length_cons, ih]
        exact this e4
      refine ⟨ed, _, _, rfl, rfl, e6, by rw [List.length_map, lene, sizeLine_eq]; have := I2.small; omega, ?_⟩
      exact q s2 c _ e1 S7 ((u2.same u6).trans (Kp.upd (by simp)))
end
section
variable {P : Program} {w : World} {K : PySem.W.Frag} {mg : Str → Option Value} {base : Heap} {C : Addr}
theorem fn_drop {CX : CXT} {k : Nat} {f : Addr} {fd : FuncData} {ps : List Str} {sp : Sp} {A : Prop} (F : FnOk P w K mg base CX k f fd ps sp) : FnOk P w K mg base CX k f fd ps (fun vs H Q E => A ∧ sp vs H Q E) :=
  ⟨fun vs H Q E q => F.len vs H Q E q.2, fun A outer s H args us vs Q E hr he hb hv hs => F.run A outer s H args us vs Q E hr he hb hv hs.2⟩
theorem rows_all {f f0 : Addr} {fd fd0 : FuncData} (T : Txt K mg C) (D_law_row : DefAt K mg "_law_row" "_law_row" s_law_row ["_law_h", "_law_names_here", "_law_depth", "_law_odd"] f fd) (D_law_lap : DefAt K mg "_law_lap" "_law_lap" s_law_lap ["_law_h", "_law_names_here", "_law_depth", "_law_odd"] f0 fd0) : ∀ n, FnOk P w K mg base CX0 (2 * n + 6) f fd ["_law_h", "_law_names_here", "_law_depth", "_law_odd"] (spRow K n)
  | 0 => ok_law_row T D_law_row D_law_lap ⟨fun _ _ _ _ h => absurd h.1 (by decide), fun _ _ _ _ _ _ _ _ _ _ _ _ _ h => absurd h.1 (by decide)⟩
  | n + 1 => ok_law_row T D_law_row D_law_lap (fn_drop (ok_law_lap T D_law_lap D_law_row (rows_all T D_law_row D_law_lap 0) (rows_all T D_law_row D_law_lap n)))
/-- numbers of names of ns, from nought up to a million -/
structure PointOk (ns : List Str) (L : Pr) : Prop where
  nd : (L.map (·.1)).Nodup
  of : ∀ e ∈ L, e.1 ∈ ns
  le : ∀ e ∈ L, 0 ≤ e.2 ∧ e.2 ≤ 1000000
theorem PointOk.nil (ns : List Str) : PointOk ns [] := ⟨List.nodup_nil, (fun _ h => nomatch h), (fun _ h => nomatch h)⟩
theorem PointOk.put {ns : List Str} {L : Pr} (h : PointOk ns L) {x : Str} {v : Int} (hx : x ∈ ns) (hv : 0 ≤ v ∧ v ≤ 1000000) : PointOk ns (putS L x v) := by
  refine ⟨putS_nodup x v h.nd, fun e he => ?_, fun e he => ?_⟩
  · rcases putS_keys L x v e he with z | z
    · rw [z]; exact hx
    · exact h.of e z
  · rcases putS_keys L x v e he with z | z
    · rw [z]; exact hv
    · exact h.le e z
theorem PointOk.len {ns : List Str} {L : Pr} (h : PointOk ns L) : L.length ≤ ns.length := by
  have z := nodup_len (m := ns) h.nd fun y hy => by
    obtain ⟨e, he, ee⟩ := List.mem_map.mp hy
    rw [← ee]
    exact h.of e he
  rw [List.length_map] at z
  exact z
def spInputs (K : PySem.W.Frag) : Sp := fun vs H Q _ => ∃ (h c l : Addr) (s k : Int) (cs : List Int) (ns : List Str), vs = [.ref h, .ref l] ∧ HAt H h c s k cs ∧ H l = some (.lst (ns.map V.str)) ∧ l ≠ h ∧ l ≠ c ∧ ns.length = 7 ∧
  ∀ (s' k' : Int) (cs' : List Int) (d : Addr) (L : Pr) (H' : Hp), HAt H' h c s' k' cs' → But h c H H' → H d = none → H' d = some (.dK (dSI L)) → PointOk ns L → Q (.ref d) H'
theorem ok_law_inputs {f : Addr} {fd : FuncData} (T : Txt K mg C) (F : DefAt K mg "_law_inputs" "_law_inputs" s_law_inputs ["_law_h", "_law_names_here"] f fd) : FnOk P w K mg base CX0 2 f fd ["_law_h", "_law_names_here"] (spInputs K) := by
  obtain ⟨f1, fd1, D_law_next⟩ := T.d_law_next
  have G_law_next : FnOk P w K mg base CX0 1 f1 fd1 ["_law_h", "_law_many"] spNext := ok_law_next T D_law_next
  refine F.F.ok sc_law_inputs (fun vs H Q E h => ?_) (fun cdv A outer s H vs Q E hr h => ?_)
  · obtain ⟨h, c, l, s, k, cs, ns, rfl, _⟩ := h
    rfl
  · obtain ⟨h, c, l, z, k, cs, ns, rfl, A1, el, nlh, nlc, h7, q⟩ := h
    refine ⟨_, (pss_cons (ps_set (i := 2) sc_law_inputs.nd rfl (.inl rfl) pe_dnewK)
      (pss_cons (ps_for PassesOwn.never rfl (pi_range1 rfl T.m_range (pa_cons pe_int pa_nil)) (pg_name (i := 3) sc_law_inputs.nd rfl (.inl rfl)) (pss_one (ps_if (pt_cmpR op_gt (pe_call G_law_next (hr.mono (by decide)) (by rfl) D_law_next.g D_law_next.F.kp D_law_next.b .nil pass0 (pa_cons (pv 0) (pa_cons pe_int pa_nil))) pe_int (nomark _)) (pss_cons (ps_set (i := 4) sc_law_inputs.nd rfl (.inl rfl) (pe_ifExp (pt_cmpR op_in_seq (pv 3) (pe_tup (pa_cons pe_int (pa_cons pe_int (pa_cons pe_int (pa_cons pe_int pa_nil))))) (by rfl)) pe_int pe_int)) (pss_one (ps_dput (room1 hr) (pv 2) (pe_ix ix_list (pv 1) (pv 3) (fun _ _ => rfl)) (pe_call G_law_next (hr.mono (by decide)) (by rfl) D_law_next.g D_law_next.F.kp D_law_next.b .nil pass0 (pa_cons (pv 0) (pa_cons (pv 4) pa_nil))) rfl))) pss_nil)))
      (pss_one (ps_ret (pv 2))))), ?_⟩
    intro d nd
    have dh : d ≠ h := (ne_of_none A1.h nd).symm
    have dc : d ≠ c := (ne_of_none A1.c nd).symm
    have dl : d ≠ l := (ne_of_none el nd).symm
    have s0 : Same H (upd H d (.dK [])) := same_upd nd
    refine ⟨7, rfl, by decide, by decide, for_range (lo := 0) (n := 7) (fun i σ H2 => ∃ (v3 v4 : Option V) (s k : Int) (cs : List Int) (L : Pr), σ = [some (.ref h), some (.ref l), some (.ref d), v3, v4] ∧ HAt H2 h c s k cs ∧ But h c H H2 ∧ H2 d = some (.dK (dSI L)) ∧ PointOk ns L) ⟨none, none, _, _, _, [], rfl, A1.same s0, Same.but s0, upd_same, .nil ns⟩ ?_ ?_⟩
    · rintro i σ H2 hi ⟨v3, v4, s2, k2, cs2, L, rfl, A2, B2, e2, ok⟩
      refine ⟨_, rfl, h, c, _, _, 5, _, rfl, by decide, by decide, A2, fun s3 k3 cs3 b H3 b0 b4 A3 B3 => ⟨_, _, rfl, rfl, _, rfl, ite2 (fun e => ?_) (fun e => ?_)⟩⟩
      · refine ⟨_, rfl, (by show 4 ≤ sizeLine; decide), fun t nt => ?_⟩
        have st : Same H3 (upd H3 t (.tup [.int 0, .int 1, .int 2, .int 6])) := same_upd nt
        have e3 := st _ _ (B3 _ _ e2 dh dc)
        have el3 := st _ _ (B3 _ _ (B2 _ _ el nlh nlc) nlh nlc)
        have A4 := A3.same st
        have B4 := (B2.trans B3).same st
        have lenL := ok.len
        obtain ⟨y, hy, aty⟩ := at_name h7 (i := 0 + (i : Int)) (by omega) (by omega)
        refine ⟨t, _, rfl, .inr (SqT.of upd_same), rfl, rfl, _, rfl, ite2 (fun e => ?_) (fun e => ?_)⟩
        · refine ⟨_, rfl, _, rfl, h, c, _, _, 5, _, rfl, by decide, by decide, A4, fun s5 k5 cs5 g H5 g0 g1 A5 B5 => ?_⟩
          refine ⟨_, rfl, _, rfl, _, rfl, l, _, _, _, rfl, rfl, SqL.of (B5 _ _ el3 nlh nlc), aty, d, _, rfl, DPut.k (k := .inr y) (B5 _ _ e3 dh dc) (by rw [dSI_len, sizeLine_eq]; omega), ?_⟩
          exact ⟨_, _, _, _, _, putS L y g, rfl, A5.set dh dc, (B4.trans B5).upd nd, by rw [← dSI_put]; exact upd_same, ok.put hy (by omega)⟩
        · refine ⟨_, rfl, _, rfl, h, c, _, _, 1000000, _, rfl, by decide, by decide, A4, fun s5 k5 cs5 g H5 g0 g1 A5 B5 => ?_⟩
          refine ⟨_, rfl, _, rfl, _, rfl, l, _, _, _, rfl, rfl, SqL.of (B5 _ _ el3 nlh nlc), aty, d, _, rfl, DPut.k (k := .inr y) (B5 _ _ e3 dh dc) (by rw [dSI_len, sizeLine_eq]; omega), ?_⟩
          exact ⟨_, _, _, _, _, putS L y g, rfl, A5.set dh dc, (B4.trans B5).upd nd, by rw [← dSI_put]; exact upd_same, ok.put hy (by omega)⟩
      · exact ⟨_, _, _, _, _, L, rfl, A3, B2.trans B3, B3 _ _ e2 dh dc, ok⟩
    · rintro σ H2 ⟨v3, v4, s2, k2, cs2, L, rfl, A2, B2, e2, ok⟩
      exact ⟨_, rfl, q _ _ _ d L H2 A2 B2 nd e2 ok⟩
end
/-! ### a dict comprehension over the entries of a plain dict -/
theorem dc_itemsP {d : Addr} {o : Obj} {kvs : List (L2.Key × V)} {g : TG} {tt : TT} {tk tv : TE} {vs : List Nat} {σ : L2.St} {H1 : Hp} {D : Addr} {Qd : Hp → Prop} (Pv : Nat → Hp → Prop) (h0 : Pv 0 (upd H1 D (.dK []))) (hl : ∀ i H, i ≤ kvs.length → Pv i H → H d = some (.frz o (.dK kvs)))
    (hs : ∀ i k v H T, kvs[i]? = some (k, v) → Pv i H → H T = none → g (.ref T) (wipe σ vs) (upd H T (.tup [kV k, v])) fun σ2 H2 => wipe σ2 vs = wipe σ vs ∧ tt σ2 H2 fun b H3 =>
      if b = true then tk σ2 H3 fun y H4 => tv σ2 H4 fun z H5 => ∃ kvs k, y = kV k ∧ H5 D = some (.dK kvs) ∧ kvs.length < sizeLine ∧ Pv (i + 1) (upd H5 D (.dK (putK kvs k z))) else Pv (i + 1) H3) (hd : ∀ H, Pv kvs.length H → Qd H) :
    ∃ W : Nat → Nat → Hp → Prop, (∃ m, W 0 m (upd H1 D (.dK []))) ∧ ∀ i m H, W i m H →
      ((Iti d o kvs).stop i H ∧ Qd H) ∨ ((Iti d o kvs).go i H ∧ ∃ Nx : Hp → Prop, (∀ H', Nx H' → ∃ m', m' < m ∧ W (i + 1) m' H') ∧ ∀ x H', (Iti d o kvs).yld i H x H' → g x (wipe σ vs) H' fun σ2 H2 => wipe σ2 vs = wipe σ vs ∧ tt σ2 H2 fun b H3 =>
        if b = true then tk σ2 H3 fun y H4 => tv σ2 H4 fun z H5 => ∃ kvs k, y = kV k ∧ H5 D = some (.dK kvs) ∧ kvs.length < sizeLine ∧ Nx (upd H5 D (.dK (putK kvs k z))) else Nx H3) := by
  refine ⟨fun i m H => m = kvs.length - i ∧ i ≤ kvs.length ∧ Pv i H, ⟨kvs.length, by simp, Nat.zero_le _, h0⟩, ?_⟩
  rintro i m H ⟨rfl, hi, p⟩
  have F := hl i H hi p
  by_cases lt : i < kvs.length
  · refine .inr ⟨⟨F, lt⟩, Pv (i + 1), fun H' p' => ⟨kvs.length - (i + 1), by omega, rfl, lt, p'⟩, fun x H' ⟨T, k, v, hL, ex, nT, eH⟩ => ?_⟩
    subst ex
    subst eH
    exact hs i k v _ T hL p nT
  · have e : i = kvs.length := by omega
    subst e
    exact .inl ⟨⟨F, Nat.le_refl _⟩, hd H p⟩
theorem dSI_take_put {L : Pr} (hn : (L.map (·.1)).Nodup) {i : Nat} {k : L2.Key} {v : V} (h : (dSI L)[i]? = some (k, v)) : putK (dSI (L.take i)) k v = dSI (L.take (i + 1)) := by
  unfold dSI at h
  rw [List.getElem?_map] at h
  cases e : L[i]? with
  | none =>
    rw [e] at h
    cases h
  | some x =>
    rw [e] at h
    injection h with h
    injection h with h1 h2
    subst h1
    subst h2
    have hl := (List.getElem?_eq_some_iff.mp e).1
    have no : ¬ ((L.take i).any fun f => decide (f.1 = x.1)) = true := fun z => by
      obtain ⟨f, hf, ee⟩ := List.any_eq_true.mp z
      have ee := of_decide_eq_true ee
      obtain ⟨j, hj⟩ := List.mem_iff_getElem?.mp hf
      have lj : j < i := by
        have := (List.getElem?_eq_some_iff.mp hj).1
        rw [List.length_take] at this
        omega
      rw [List.getElem?_take, if_pos lj] at hj
      have a : (L.map (·.1))[j]? = some x.1 := by rw [List.getElem?_map, hj, ← ee]; rfl
      have b : (L.map (·.1))[i]? = some x.1 := by rw [List.getElem?_map, e]; rfl
      have := nd_ix hn a b
      omega
    rw [dSI_put]
    unfold putS
    rw [if_neg no, List.take_add_one, e]
    rfl
/-! ### Run, ran -/
section
variable {P : Program} {w : World} {K : PySem.W.Frag} {mg : Str → Option Value} {base : Heap} {C : Addr}
def spRunInit (K : PySem.W.Frag) (C : Addr) : Sp := fun vs H Q _ => ∃ (p dx d : Addr) (L : Pr) (most : Int), vs = [.ref p, .ref d, .int most] ∧ H p = some (.ins C dx []) ∧ H d = some (.dK (dSI L)) ∧ (L.map (·.1)).Nodup ∧ L.length < 1000 ∧
  ∀ (H' : Hp) (nd td ed : Addr), H' p = some (.ins C dx (runF nd most td 0 ed)) → H' nd = some (.dK (dSI L)) → H' td = some (.lst []) → H' ed = some (.lst []) → td ≠ ed → nd ≠ d → H nd = none → H td = none → H ed = none → (∀ b o, H b = some o → b ≠ p → H' b = some o) → Q .non H'
theorem ok_Run_init {f : Addr} {fd : FuncData} (T : Txt K mg C) (F : Fun K "__init__" "Run.__init__" s_Run_init f fd) : FnOk P w K mg base CX0 1 f fd ["self", "names", "most"] (spRunInit K C) := by
  refine F.ok sc_Run_init (fun vs H Q E h => ?_) (fun cdv A outer s H vs Q E hr h => ?_)
  · obtain ⟨p, dx, d, L, most, rfl, _⟩ := h
    rfl
  · obtain ⟨p, dx, d, L, most, rfl, ep, ed, nL, lL, q⟩ := h
    refine ⟨_, (pss_cons (ps_fld (pv 0) (pe_lock (pe_dc (own := [("name", 3), ("number", 4)]) (g := gTup K 2 (gCons (gName 3) (gCons (gName 4) gNil))) (tt := tYes) rfl sc_Run_init.nd (pi_items (pv 1)) (blkOk_by (own := [("name", 3), ("number", 4)]) (N := ["self", "names", "most", "name", "number"]) (sc := defScope s_Run_init) (by decide +kernel)) (fun _ _ _ _ _ => pg_tup (by rfl) (pgs_cons (pg_name (i := 3) sc_Run_init.nd rfl (.inl rfl)) (pgs_cons (pg_name (i := 4) sc_Run_init.nd rfl (.inl rfl)) pgs_nil))) (fun _ _ _ _ _ => pts_nil) (fun _ _ _ _ _ => pv 3) (fun _ _ _ _ _ => pv 4))) rfl)
      (pss_cons (ps_fld (pv 0) (pv 2) rfl)
      (pss_cons (ps_fld (pv 0) (pe_lst pa_nil) rfl)
      (pss_cons (ps_fld (pv 0) pe_int rfl)
      (pss_one (ps_fld (pv 0) (pe_lst pa_nil) rfl)))))), ?_⟩
    refine ⟨d, _, ed, True.intro, fun od => ?_⟩
    have npd : p ≠ d := ne_of ep ed (by intro z; cases z)
    refine ⟨_, rfl, d, od, dSI L, rfl, upd_same, fun D nD => dc_itemsP (fun i H2 => H2 D = some (.dK (dSI (L.take i))) ∧ Same (upd H d (.frz od (.dK (dSI L)))) H2) ⟨by rw [List.take_zero]; exact upd_same, same_upd nD⟩ (fun i H2 _ h => h.2 _ _ upd_same) ?_ ?_⟩
    · rintro i k v H2 t hL ⟨n2, s2⟩ nt
      have i1 : i < L.length := by
        have := (List.getElem?_eq_some_iff.mp hL).1
        rwa [dSI_len] at this
      refine ⟨t, _, rfl, SqT.of upd_same, rfl, _, _, rfl, _, _, rfl, rfl, rfl, _, rfl, _, rfl, dSI (L.take i), k, rfl, same_upd nt _ _ n2, ?_, ?_, fun b o e => ?_⟩
      · rw [dSI_len, List.length_take, sizeLine_eq]
        omega
      · rw [dSI_take_put nL hL]
        exact upd_same
      · have nb : b ≠ D := ne_of_none e nD
        rw [upd_ne nb]
        exact same_upd nt _ _ (s2 _ _ e)
    · rintro H2 ⟨n2, s2⟩
      rw [dSI_len, List.take_length] at n2
      have ed2 : H2 d = some (.frz od (.dK (dSI L))) := s2 _ _ upd_same
      have hp2 : H2 p = some (.ins C dx []) := s2 _ _ (by rw [upd_ne npd]; exact ep)
      have nDd : D ≠ d := (ne_of_none upd_same nD).symm
      have nDp : D ≠ p := (ne_of_none (by rw [upd_ne npd]; exact ep) nD).symm
      refine ⟨ed2, _, rfl, p, C, dx, [], rfl, (by rw [upd_ne npd]; exact hp2), T.cl_Run, T.n_Run_names, (by show 0 < 1000; decide), ?_⟩
      generalize hA : upd H2 d (.dK (dSI L)) = HA
      have eA : ∀ b o, H b = some o → HA b = some o := fun b o e => by
        subst hA
        by_cases z : b = d
        · rw [z, upd_same, ← ed, ← z]
          exact e
        · rw [upd_ne z]
          exact s2 _ _ (by rw [upd_ne z]; exact e)
      have eD : HA D = some (.dK (dSI L)) := by
        rw [← hA, upd_ne nDd]
        exact n2
      have nDH : H D = none := by
        have := nD
        rwa [upd_ne nDd] at this
      have npD := nDp.symm
      refine ⟨_, rfl, _, rfl, p, C, dx, _, rfl, upd_same, T.cl_Run, T.n_Run_most, (by show 1 < 1000; decide), ?_⟩
      refine ⟨(by show 0 ≤ sizeLine; decide), fun td ntd => ?_⟩
      have tp : td ≠ p := fun z => by rw [z, upd_same] at ntd; cases ntd
      have tA : HA td = none := by rwa [upd_ne tp, upd_ne tp] at ntd
      have tD : td ≠ D := (ne_of_none eD tA).symm
      refine ⟨_, rfl, p, C, dx, _, rfl, by rw [upd_ne tp.symm]; exact upd_same, T.cl_Run, T.n_Run_told, (by show 2 < 1000; decide), ?_⟩
      refine ⟨_, rfl, p, C, dx, _, rfl, upd_same, T.cl_Run, T.n_Run_turns, (by show 3 < 1000; decide), ?_⟩
      refine ⟨(by show 0 ≤ sizeLine; decide), fun ed2 ned => ?_⟩
      have ep2 : ed2 ≠ p := fun z => by rw [z, upd_same] at ned; cases ned
      have et : ed2 ≠ td := fun z => by rw [z, upd_ne tp, upd_ne tp, upd_same] at ned; cases ned
      have eA2 : HA ed2 = none := by rwa [upd_ne ep2, upd_ne ep2, upd_ne et, upd_ne ep2, upd_ne ep2] at ned
      have eD2 : ed2 ≠ D := (ne_of_none eD eA2).symm
      refine ⟨_, rfl, p, C, dx, _, rfl, by rw [upd_ne ep2.symm]; exact upd_same, T.cl_Run, T.n_Run_entries, (by show 4 < 1000; decide), ?_⟩
      have un : ∀ {b : Addr}, HA b = none → H b = none := fun {b} z => by
        cases e : H b with
        | none => rfl
        | some o =>
          rw [eA _ _ e] at z
          cases z
      refine q _ D td ed2 upd_same ?_ ?_ ?_ et.symm nDd nDH (un tA) (un eA2) fun b o e nb => ?_
      · rw [upd_ne nDp, upd_ne eD2.symm, upd_ne nDp, upd_ne nDp, upd_ne tD.symm, upd_ne nDp, upd_ne nDp]
        exact eD
      · rw [upd_ne tp, upd_ne et.symm, upd_ne tp, upd_ne tp, upd_same]
      · rw [upd_ne ep2, upd_same]
      · have n1 : b ≠ td := ne_of_none e (un tA)
        have n2 : b ≠ ed2 := ne_of_none e (un eA2)
        rw [upd_ne nb, upd_ne n2, upd_ne nb, upd_ne nb, upd_ne n1, upd_ne nb, upd_ne nb]
        exact eA _ _ e
theorem fn_never {CX : CXT} {k : Nat} {f : Addr} {fd : FuncData} {ps : List Str} {sp : Sp} (no : ∀ vs H Q E, ¬ sp vs H Q E) : FnOk P w K mg base CX k f fd ps sp :=
  ⟨fun vs H Q E q => absurd q (no vs H Q E), fun A outer s H args us vs Q E hr he hb hv hs => absurd hs (no vs H Q E)⟩
theorem do_all {Lp D : Addr} (X : ExTxt K mg Lp D) {f f2 : Addr} {fd fd2 : FuncData} (T : Txt K mg C) (Fr : DefAt K mg "_do_row" "_do_row" s_do_row ["run", "row", "place"] f fd) (Fl : DefAt K mg "_do_lap" "_do_lap" s_do_lap ["run", "lap", "place"] f2 fd2) : ∀ n, FnOk P w K mg base (L2.CX P w) (2 * n + 6) f fd ["run", "row", "place"] (spDoRow K C D n)
  | 0 => ok_do_row X T Fr Fl (k := 5) (by decide) (fn_never fun _ _ _ _ h => absurd h.1 (by decide))
  | n + 1 => ok_do_row X T Fr Fl (k := 2 * n + 7) (by omega) (fn_drop (ok_do_lap X T Fl Fr (k := 2 * n + 6) (by omega) (do_all X T Fr Fl n)))
/-- names that aren't there are put in with nought -/
def zeroS (L : Pr) : List Str → Pr
  | [] => L
  | x :: r => zeroS (if x ∈ L.map (·.1) then L else L ++ [(x, 0)]) r
theorem zeroS_app (L : Pr) : ∀ (a b : List Str), zeroS L (a ++ b) = zeroS (zeroS L a) b := fun a => by
  induction a generalizing L with
  | nil => exact fun b => rfl
  | cons x r ih => exact fun b => ih _ b
theorem expo_app0 (L : Pr) (x y : Str) : expo (L ++ [(x, 0)]) y = expo L y := by
  rw [expo_append]
  have : expo [(x, 0)] y = 0 := by
    show (if x = y then (0 : Int) else 0) + 0 = 0
    split <;> rfl
  omega
theorem zeroS_ok : ∀ (xs : List Str) (L : Pr), (L.map (·.1)).Nodup → ((zeroS L xs).map (·.1)).Nodup ∧ (∀ y, y ∈ (zeroS L xs).map (·.1) ↔ y ∈ L.map (·.1) ∨ y ∈ xs) ∧ ∀ y, expo (zeroS L xs) y = expo L y
  | [], L, h => ⟨h, fun y => by simp [zeroS], fun y => rfl⟩
  | x :: r, L, h => by
    unfold zeroS
    by_cases z : x ∈ L.map (·.1)
    · rw [if_pos z]
      obtain ⟨a, b, c⟩ := zeroS_ok r L h
      refine ⟨a, fun y => ?_, c⟩
      rw [b y, List.mem_cons]
      constructor
      · rintro (k | k)
        · exact .inl k
        · exact .inr (.inr k)
      · rintro (k | k | k)
        · exact .inl k
        · exact .inl (k ▸ z)
        · exact .inr k
    · rw [if_neg z]
      have h2 : ((L ++ [((x, 0) : Str × Int)]).map (·.1)).Nodup := by
        rw [List.map_append, List.nodup_append]
        refine ⟨h, by simp, fun a ha b hb e => ?_⟩
        have : b = x := by simpa using hb
        exact z (by rw [← this, ← e]; exact ha)
      obtain ⟨a, b, c⟩ := zeroS_ok r (L ++ [(x, 0)]) h2
      refine ⟨a, fun y => ?_, fun y => by rw [c y, expo_app0]⟩
      rw [b y, List.map_append, List.mem_append, List.mem_cons]
      simp [or_assoc]
theorem zeroS_len {xs : List Str} {L : Pr} : (zeroS L xs).length ≤ L.length + xs.length := by
  induction xs generalizing L with
  | nil => exact Nat.le_refl _
  | cons x r ih =>
    unfold zeroS
    by_cases z : x ∈ L.map (·.1)
    · rw [if_pos z]
      have := @ih L
      rw [List.length_cons]
      omega
    · rw [if_neg z]
      have := @ih (L ++ [(x, 0)])
      rw [List.length_append, List.length_singleton] at this
      rw [List.length_cons]
      omega
theorem valV_dSI_none {L : Pr} {x : Str} : valV (dSI L) (Sum.inr x) = none ↔ x ∉ L.map (·.1) := by
  induction L with
  | nil => simp [dSI, valV]
  | cons f r ih =>
    have e2 : dSI (f :: r) = (Sum.inr f.1, V.int f.2) :: dSI r := rfl
    rw [e2, List.map_cons, List.mem_cons]
    by_cases z : (Sum.inr f.1 : L2.Key) = Sum.inr x
    · rw [valV_pos z]
      have : x = f.1 := by injection z with z; exact z.symm
      simp [this]
    · rw [valV_neg z, ih]
      have : ¬ x = f.1 := fun e => z (by rw [e])
      simp [this]
/-- the numbers at the beginning -/
def s0R (L : Pr) : Rs := { v := expo L, told := [], turns := 0, ents := [] }
theorem expo_range {L : Pr} (h : ∀ e ∈ L, 0 ≤ e.2 ∧ e.2 ≤ 1000000) (hn : (L.map (·.1)).Nodup) (x : Str) : 0 ≤ expo L x ∧ expo L x ≤ 1000000 := by
  by_cases hk : x ∈ L.map (·.1)
  case neg =>
    rw [expo_zero fun e he z => hk (by rw [← z]; exact List.mem_map_of_mem he)]
    omega
  case pos =>
    induction L with
    | nil => cases hk
    | cons f r ih =>
      have hr : ∀ e ∈ r, 0 ≤ e.2 ∧ e.2 ≤ 1000000 := fun e he => h e (List.mem_cons_of_mem _ he)
      rw [List.map_cons, List.nodup_cons] at hn
      by_cases z : f.1 = x
      · have n0 : expo r x = 0 := expo_zero fun e he k => hn.1 (by rw [z, ← k]; exact List.mem_map_of_mem he)
        have ef : expo (f :: r) x = f.2 + expo r x := by
          show (if f.1 = x then f.2 else 0) + expo r x = _
          rw [if_pos z]
        rw [ef, n0]
        have := h f List.mem_cons_self
        omega
      · have ef : expo (f :: r) x = 0 + expo r x := by
          show (if f.1 = x then f.2 else 0) + expo r x = _
          rw [if_neg z]
        rw [ef]
        rw [List.map_cons, List.mem_cons] at hk
        have := ih hr hn.2 (hk.resolve_left fun k => z k.symm)
        omega
theorem Pt.zero {ns : List Str} {L : Pr} (h : PointOk ns L) {ofs most R : Nat} (hR : R ≤ ofs) : Pt ns ofs most 0 R (s0R L) := by
  have r := fun x => expo_range h.le h.nd x
  refine ⟨⟨fun x _ => ⟨(r x).1, Int.le_trans (r x).2 (by decide)⟩, fun x _ => ⟨(r x).1, Int.le_trans (r x).2 (by decide)⟩⟩, Nat.le_refl _, Nat.le_refl _, ?_, Nat.zero_le _⟩
  show 0 + R ≤ ofs + 8 * 0
  omega
structure St0 (ns : List Str) (ofs most n R : Nat) (L : Pr) : Prop where
  nd : (L.map (·.1)).Nodup
  of : ∀ e ∈ L, e.1 ∈ ns
  pt : Pt ns ofs most n R (s0R L)
theorem St0.len {ns : List Str} {ofs most n R : Nat} {L : Pr} (h : St0 ns ofs most n R L) : L.length ≤ ns.length := by
  have z := nodup_len (m := ns) h.nd fun y hy => by
    obtain ⟨e, he, ee⟩ := List.mem_map.mp hy
    rw [← ee]
    exact h.of e he
  rw [List.length_map] at z
  exact z
def spRan (K : PySem.W.Frag) (D : Addr) : Sp := fun vs H Q E => ∃ (pr d : Addr) (L : Pr) (ns : List Str) (ofs most n0 : Nat) (r : Rw), vs = [.ref pr, .ref d, .int (most : Int)] ∧ RwAt K H pr r ∧ RwOk ns r 3 ∧ RwT ns r ∧ lenR r ≤ 12 ∧ NsOk ns ∧ H d = some (.dK (dSI L)) ∧ St0 ns ofs most n0 (lenR r) L ∧ ofs + 8 * most ≤ 49000 ∧
  (∀ (s' : Rs) (H' : Hp) (q nd td ed : Addr) (L' : Pr) (es : List Addr), doR most r [] 0 (s0R L) = some s' → SqT K H' q [.ref td, .ref nd, .int (s'.turns : Int), .ref ed] → H' nd = some (.dK (dSI L')) → (L'.map (·.1)).Nodup → (∀ x, x ∈ L'.map (·.1) ↔ x ∈ L.map (·.1) ∨ x ∈ namesR r) → (∀ x, expo L' x = s'.v x) →
    H' td = some (.lst (s'.told.map V.int)) → H' ed = some (.lst (es.map V.ref)) → Paired (EntAt K H') es s'.ents → td ≠ ed → (∃ n', Pt ns ofs most n' 0 s') → H nd = none → H td = none → H ed = none → Same H H' → Q (.ref q) H') ∧
  (doR most r [] 0 (s0R L) = none → ∀ H', Same H H' → E (.ref D) none H')
theorem ok_ran {Lp D : Addr} (X : ExTxt K mg Lp D) {f : Addr} {fd : FuncData} (T : Txt K mg C) (F : DefAt K mg "ran" "ran" s_ran ["program", "names", "most"] f fd) : FnOk P w K mg base (L2.CX P w) 13 f fd ["program", "names", "most"] (spRan K D) := by
  obtain ⟨f1, fd1, D_do_row⟩ := T.d_do_row
  obtain ⟨f2, fd2, D_do_lap⟩ := T.d_do_lap
  obtain ⟨f3, fd3, D_names_of⟩ := T.d_names_of
  obtain ⟨fi, fdi, M_Run, F_Run_init, b_Run_init⟩ := T.mk_Run
  have G_do_row : FnOk P w K mg base (L2.CX P w) 12 f1 fd1 ["run", "row", "place"] (spDoRow K C D 3) := do_all X T D_do_row D_do_lap 3
  have G_names_of : FnOk P w K mg base CX0 11 f3 fd3 ["program"] (spNamesOf K) := ok_names_of T D_names_of
  have G_Run_init : FnOk P w K mg base CX0 1 fi fdi ["self", "names", "most"] (spRunInit K C) := ok_Run_init T F_Run_init
  refine F.F.okX sc_ran (fun vs H Q E h => ?_) (fun cdv A outer z H vs Q E hr h => ?_)
  · obtain ⟨pr, d, L, ns, ofs, most, n0, r, rfl, _⟩ := h
    rfl
  · obtain ⟨pr, d, L, ns, ofs, most, n0, r, rfl, ar, ok, tm, l12, no, ed, po, lm, q, qe⟩ := h
    refine ⟨_, (pss_cons (ps_set (i := 3) sc_ran.nd rfl (.inl rfl) (pe_make M_Run G_Run_init (hr.mono (by decide)) (by rfl) T.g_Run b_Run_init .nil pass0 (pa_cons (pv 1) (pa_cons (pv 2) pa_nil))))
      (pss_cons (ps_for (passes_of rfl) rfl (pi_list (pe_call G_names_of (hr.mono (by decide)) (by rfl) D_names_of.g D_names_of.F.kp D_names_of.b .nil pass0 (pa_cons (pv 0) pa_nil))) (pg_name (i := 4) sc_ran.nd rfl (.inl rfl)) (pss_one (ps_expr (pe_dsetd (pe_fld (pv 3) rfl) (pv 4) pe_int ⟨rfl, rfl, rfl, rfl⟩))))
      (pss_cons (ps_expr (pe_callS G_do_row (hr.mono (by decide)) (by rfl) D_do_row.g D_do_row.F.kp D_do_row.b (fun σ => passAt (takes_of rfl rfl rfl rfl) σ) (pa_cons (pv 3) (pa_cons (pv 0) (pa_cons (pe_tup pa_nil) pa_nil)))))
      (pss_one (ps_ret (pe_tup (pa_cons (pe_fld (pv 3) rfl) (pa_cons (pe_fld (pv 3) rfl) (pa_cons (pe_fld (pv 3) rfl) (pa_cons (pe_fld (pv 3) rfl) pa_nil)))))))))), ?_⟩
    have lL : L.length < 1000 := by
      have := po.len
      rw [no.len] at this
      omega
    refine ⟨_, rfl, _, rfl, fun p dx np ndx nn => ?_⟩
    have sp : Same H (upd (upd H dx (.own p)) p (.ins C dx [])) := (same_upd ndx).trans (same_upd (by rw [upd_ne nn.symm]; exact np))
    refine ⟨p, dx, d, L, most, rfl, upd_same, sp _ _ ed, po.nd, lL, fun H1 nd td ed1 e1 e2 e3 e4 n1 n2 n3 n4 n5 s1 => ⟨rfl, ?_⟩⟩
    have s01 : Same H H1 := fun b o e => s1 b o (sp _ _ e) (ne_of_none e np)
    have t1 := TupsStay.same s01
    refine ⟨_, rfl, pr, r, ns, rfl, ar.stay t1, ok, (by rw [no.len]; decide), fun l q0 H2 srt mem eq2 s2 nq => ?_⟩
    have ndp : nd ≠ p := ne_of e2 e1 (by intro z; cases z)
    have ndq : nd ≠ q0 := ne_of_none e2 nq
    have no_nd : ∀ {b : Addr} {o : HO}, H b = some o → b ≠ nd := fun {b o} e z => by have e := sp _ _ e; rw [z, n3] at e; cases e
    have hnd : l.Nodup := List.Pairwise.imp (fun {a b} (h : slt a b) (e : a = b) => by subst e; exact slt_irrefl a h) srt
    have ll : l.length ≤ 7 := by
      have := nodup_len (m := ns) hnd fun x hx => namesR_in ok x ((mem x).mp hx)
      rw [no.len] at this
      exact this
    refine ⟨q0, rfl, ⟨_, SqL.of eq2⟩, for_list (K := K) (a := q0) (xs := l.map V.str) (fun i σ H3 => ∃ v4 : Option V, σ = [some (.ref pr), some (.ref d), some (.int (most : Int)), some (.ref p), v4] ∧ H3 nd = some (.dK (dSI (zeroS L (l.take i)))) ∧ Else nd H2 H3)
      ⟨none, rfl, by rw [List.take_zero]; exact s2 _ _ e2, fun b o e _ => e⟩ (fun i σ H3 _ ⟨_, _, _, el⟩ => SqL.of (el _ _ eq2 ndq.symm)) (fun i x σ H3 hx ⟨v4, hs, e5, el⟩ => ?_) (fun σ H3 ⟨v4, hs, e5, el⟩ => ?_)⟩
    · subst hs
      obtain ⟨y, hy, rfl⟩ : ∃ y, l[i]? = some y ∧ x = V.str y := by
        rw [List.getElem?_map] at hx
        cases e : l[i]? with
        | none =>
          rw [e] at hx
          cases hx
        | some y =>
          rw [e] at hx
          exact ⟨y, rfl, (Option.some.inj hx).symm⟩
      have ep3 : H3 p = some (.ins C dx (runF nd (most : Int) td 0 ed1)) := el _ _ (s2 _ _ e1) ndp.symm
      have zl := zeroS_len (xs := l.take i) (L := L)
      have tl : l.take (i + 1) = l.take i ++ [y] := by rw [List.take_add_one, hy]; rfl
      have zn := (zeroS_ok (l.take i) L po.nd)
      have zs : zeroS L (l.take (i + 1)) = if y ∈ (zeroS L (l.take i)).map (·.1) then zeroS L (l.take i) else zeroS L (l.take i) ++ [(y, 0)] := by
        rw [tl, zeroS_app]
        rfl
      have step : ∀ H4, H4 nd = some (.dK (dSI (zeroS L (l.take (i + 1))))) → Else nd H2 H4 → ∃ v4 : Option V, [some (.ref pr), some (.ref d), some (.int (most : Int)), some (.ref p), some (.str y)] = [some (.ref pr), some (.ref d), some (.int (most : Int)), some (.ref p), v4] ∧ H4 nd = some (.dK (dSI (zeroS L (l.take (i + 1))))) ∧ Else nd H2 H4 := fun H4 a b => ⟨_, rfl, a, b⟩
      refine ⟨_, rfl, p, C, dx, _, _, rfl, ep3, T.cl_Run, T.n_Run_names, rfl, nd, rfl, .inl ⟨_, .inl e5⟩, _, rfl, dSI (zeroS L (l.take i)), .inr y, e5, rfl, ?_, fun v hv => ?_, fun hv => ?_⟩
      · rw [dSI_len, sizeLine_eq]
        rw [List.length_take] at zl
        omega
      · refine step H3 ?_ el
        rw [zs, if_pos (Classical.byContradiction fun n => by rw [valV_dSI_none.mpr n] at hv; cases hv)]
        exact e5
      · refine step _ ?_ fun b o e nb => by rw [upd_ne nb]; exact el _ _ e nb
        have no := valV_dSI_none.mp hv
        rw [zs, if_neg no, upd_same, dSI_put]
        unfold putS
        rw [if_neg fun z => no (by
          obtain ⟨f, hf, e⟩ := List.any_eq_true.mp z
          exact List.mem_map.mpr ⟨f, hf, of_decide_eq_true e⟩)]
    · subst hs
      rw [List.length_map, List.take_length] at e5
      obtain ⟨zn, zk, zv⟩ := zeroS_ok l L po.nd
      have sH : ∀ b o, H b = some o → H3 b = some o := fun b o e => el _ _ (s2 _ _ (s01 _ _ e)) (no_nd e)
      have un : ∀ {b : Addr}, (upd (upd H dx (.own p)) p (.ins C dx [])) b = none → H b = none := fun {b} z => by
        cases e : H b with
        | none => rfl
        | some o =>
          have := sp _ _ e
          rw [z] at this
          cases this
      have ep3 : H3 p = some (.ins C dx (runF nd (most : Int) td 0 ed1)) := el _ _ (s2 _ _ e1) ndp.symm
      have ndt : td ≠ nd := ne_of e3 e2 (by intro z; cases z)
      have nde : ed1 ≠ nd := ne_of e4 e2 (by intro z; cases z)
      have st3 : RunSt K C H3 p nd td ed1 ((zeroS L l).map (·.1)) most (s0R L) :=
        ⟨⟨dx, ep3⟩, ⟨zeroS L l, e5, rfl, zv⟩, el _ _ (s2 _ _ e3) ndt, ⟨[], el _ _ (s2 _ _ e4) nde, .nil⟩, n1⟩
      have t3 := TupsStay.same (show Same H H3 from sH)
      refine ⟨_, rfl, _, rfl, (by show 0 ≤ sizeLine; decide), fun pa npa => ?_⟩
      have s3 : Same H3 (upd H3 pa (.tup [])) := same_upd npa
      have I : Din K C (upd H3 pa (.tup [])) p nd td ed1 pa ((zeroS L l).map (·.1)) ns ofs most n0 (0 + lenR r) (s0R L) [] :=
        ⟨st3.same s3, by rw [Nat.zero_add]; exact po.pt, no, zn, lm, by rw [List.length_map]; have := zeroS_len (xs := l) (L := L); have h2 := po.len; rw [no.len] at h2; omega, SqT.of upd_same⟩
      have kp0 : ∀ {H' : Hp}, Kp [p, nd, td, ed1] (upd H3 pa (.tup [])) H' → Same H H' := fun {H'} u b o e => by
        refine u b o (s3 _ _ (sH _ _ e)) ?_
        simp only [List.mem_cons, List.not_mem_nil, or_false]
        rintro (k | k | k | k)
        · exact ne_of_none e np k
        · exact no_nd e k
        · exact ne_of_none e (un n4) k
        · exact ne_of_none e (un n5) k
      refine ⟨p, pr, pa, nd, td, ed1, (zeroS L l).map (·.1), ns, ofs, most, n0, 0, s0R L, [], r, rfl, I, by decide, (ar.stay t3).stay (TupsStay.same s3), ok, tm, l12, fun x hx => (zk x).mpr (.inr ((mem x).mpr hx)), fun s' H' e6 S6 u6 => ?_, fun e6 H' u6 => qe e6 H' (kp0 u6)⟩
      obtain ⟨dx6, ep6⟩ := S6.ob
      obtain ⟨L6, eL6, nL6, kL6, vL6⟩ := S6.nmd zn
      obtain ⟨es, e7, e8⟩ := S6.en
      refine ⟨_, rfl, p, C, dx6, _, _, rfl, ep6, T.cl_Run, T.n_Run_told, rfl, _, rfl, p, C, dx6, _, _, rfl, ep6, T.cl_Run, T.n_Run_names, rfl, _, rfl, p, C, dx6, _, _, rfl, ep6, T.cl_Run, T.n_Run_turns, rfl, _, rfl, p, C, dx6, _, _, rfl, ep6, T.cl_Run, T.n_Run_entries, rfl, (by show 4 ≤ sizeLine; decide), fun qa nqa => ?_⟩
      have s6 : Same H' (upd H' qa (.tup [.ref td, .ref nd, .int (s'.turns : Int), .ref ed1])) := same_upd nqa
      exact q s' _ qa nd td ed1 L6 es e6 (SqT.of upd_same) (s6 _ _ eL6) nL6 (fun x => by rw [kL6, zk x, mem x]) vL6 (s6 _ _ S6.tl) (s6 _ _ e7) (Paired.mapP e8 fun _ _ z => z.stay (TupsStay.same s6)) n1 (doR_pt no r ok tm [] 0 n0 0 (s0R L) s' I.pt e6).1 (un n3) (un n4) (un n5) ((kp0 u6).trans s6)
end
/-! ### a run behind another one -/
def bumpP (k : Nat) : List Nat → List Nat
  | [] => []
  | a :: r => (a + k) :: r
def shE (k : Nat) (x : List Nat × Int × Nat) : List Nat × Int × Nat := (bumpP k x.1, x.2)
def preR (T : List Int) (c : Nat) (E : List (List Nat × Int × Nat)) (k : Nat) (s : Rs) : Rs := { v := s.v, told := T ++ s.told, turns := c + s.turns, ents := E ++ s.ents.map (shE k) }
theorem turnsR_pre {T : List Int} {c : Nat} {E : List (List Nat × Int × Nat)} {k : Nat} {body body' : Rs → Option Rs} {most most' : Nat} {x : Str} (hb : ∀ s s', body s = some s' → s.turns ≤ s'.turns ∧ (c + s'.turns ≤ most' → body' (preR T c E k s) = some (preR T c E k s'))) :
    ∀ f n s s' n', turnsR body most x f n s = some (s', n') → s.turns ≤ s'.turns ∧ (c + s'.turns ≤ most' → ∀ f', s'.turns < f' + s.turns → turnsR body' most' x f' n (preR T c E k s) = some (preR T c E k s', n'))
  | 0, _, _, _, _, h => nomatch h
  | f + 1, n, s, s', n', h => by
    unfold turnsR at h
    by_cases z : s.v x = 0
    · rw [if_pos z] at h
      injection h with h
      injection h with h1 h2
      subst h1
      subst h2
      refine ⟨Nat.le_refl _, fun l f' hf => ?_⟩
      cases f' with
      | zero => omega
      | succ g =>
        unfold turnsR
        rw [if_pos (show (preR T c E k s).v x = 0 from z)]
    · rw [if_neg z] at h
      by_cases q : most ≤ s.turns
      · rw [if_pos q] at h
        cases h
      · rw [if_neg q] at h
        cases e : body { s with turns := s.turns + 1, v := setV s.v x (s.v x - 1) } with
        | none =>
          rw [e] at h
          cases h
        | some s2 =>
          rw [e] at h
          obtain ⟨m1, b1⟩ := hb _ _ e
          obtain ⟨m2, b2⟩ := turnsR_pre hb f (n + 1) s2 s' n' h
          have m1 : s.turns + 1 ≤ s2.turns := m1
          refine ⟨by omega, fun l f' hf => ?_⟩
          cases f' with
          | zero => omega
          | succ g =>
            unfold turnsR
            rw [if_neg (show ¬ (preR T c E k s).v x = 0 from z), if_neg (show ¬ most' ≤ (preR T c E k s).turns from (by omega : ¬ most' ≤ c + s.turns))]
            have b3 := b1 (by omega)
            have e3 : ({ preR T c E k s with turns := (preR T c E k s).turns + 1, v := setV (preR T c E k s).v x ((preR T c E k s).v x - 1) } : Rs) = preR T c E k { s with turns := s.turns + 1, v := setV s.v x (s.v x - 1) } := by
              unfold preR
              simp only [Nat.add_assoc]
            rw [e3, b3]
            exact b2 l g (by omega)
theorem bumpP_app {k : Nat} {pl : List Nat} (h : pl ≠ []) (i : Nat) : bumpP k (pl ++ [i]) = bumpP k pl ++ [i] := by
  cases pl with
  | nil => exact absurd rfl h
  | cons a r => rfl
theorem preR_ent (T : List Int) (c : Nat) (E : List (List Nat × Int × Nat)) (k : Nat) (s : Rs) (x : List Nat × Int × Nat) : preR T c E k { s with ents := s.ents ++ [x] } = { preR T c E k s with ents := (preR T c E k s).ents ++ [shE k x] } := by
  unfold preR
  simp only [List.map_append, List.map_cons, List.map_nil, List.append_assoc]
theorem preR_say (T : List Int) (c : Nat) (E : List (List Nat × Int × Nat)) (k : Nat) (s : Rs) (x : Int) : preR T c E k { s with told := s.told ++ [x] } = { preR T c E k s with told := (preR T c E k s).told ++ [x] } := by
  unfold preR
  simp only [List.append_assoc]
theorem doR_pre {T : List Int} {c : Nat} {E : List (List Nat × Int × Nat)} {k most most' : Nat} : ∀ (r : Rw) pl i s s', doR most r pl i s = some s' → s.turns ≤ s'.turns ∧ (c + s'.turns ≤ most' → (pl ≠ [] → doR most' r (bumpP k pl) i (preR T c E k s) = some (preR T c E k s')) ∧ (pl = [] → doR most' r [] (i + k) (preR T c E k s) = some (preR T c E k s')))
  | .nil, _, _, s, s', h => by
    injection h with h
    subst h
    exact ⟨Nat.le_refl _, fun _ => ⟨fun _ => rfl, fun _ => rfl⟩⟩
  | .set x e r, pl, i, s, s', h => by
    obtain ⟨a, b⟩ := doR_pre r pl (i + 1) { s with v := setV s.v x (valE s.v e) } s' h
    refine ⟨a, fun l => ⟨fun n => (b l).1 n, fun n => ?_⟩⟩
    have := (b l).2 n
    rw [show i + 1 + k = i + k + 1 by omega] at this
    exact this
  | .say e r, pl, i, s, s', h => by
    obtain ⟨a, b⟩ := doR_pre r pl (i + 1) { s with told := s.told ++ [valE s.v e] } s' h
    refine ⟨a, fun l => ⟨fun n => ?_, fun n => ?_⟩⟩
    · have := (b l).1 n
      rw [preR_say] at this
      exact this
    · have := (b l).2 n
      rw [show i + 1 + k = i + k + 1 by omega, preR_say] at this
      exact this
  | .lap x m b r, pl, i, s, s', h => by
    unfold doR at h
    cases e : turnsR (doR most b (pl ++ [i]) 0) most x (most + 1) 0 s with
    | none =>
      rw [e] at h
      cases h
    | some sc =>
      obtain ⟨s2, n⟩ := sc
      rw [e] at h
      have hb : ∀ s s', doR most b (pl ++ [i]) 0 s = some s' → s.turns ≤ s'.turns ∧ (c + s'.turns ≤ most' → doR most' b (bumpP k (pl ++ [i])) 0 (preR T c E k s) = some (preR T c E k s')) := fun s s' h => by
        obtain ⟨a, b⟩ := doR_pre b (pl ++ [i]) 0 s s' h
        exact ⟨a, fun l => (b l).1 (by simp)⟩
      obtain ⟨m1, b1⟩ := turnsR_pre (most' := most') (body' := doR most' b (bumpP k (pl ++ [i])) 0) hb _ _ _ _ _ e
      obtain ⟨m2, b2⟩ := doR_pre r pl (i + 1) _ s' h
      have m2 : s2.turns ≤ s'.turns := m2
      refine ⟨by omega, fun l => ⟨fun n2 => ?_, fun n2 => ?_⟩⟩
      · have e1 := b1 (by omega) (most' + 1) (by omega)
        rw [bumpP_app n2] at e1
        rw [doR_lap e1]
        have := (b2 l).1 n2
        rw [preR_ent] at this
        unfold shE at this
        rw [bumpP_app n2] at this
        exact this
      · have e1 := b1 (by omega) (most' + 1) (by omega)
        subst n2
        have e2 : bumpP k ([] ++ [i]) = [] ++ [i + k] := rfl
        rw [e2] at e1
        rw [doR_lap e1]
        have := (b2 l).2 rfl
        rw [preR_ent, show i + 1 + k = i + k + 1 by omega] at this
        exact this
theorem doR_app {most : Nat} (b : Rw) : ∀ (a : Rw) pl i s s', doR most a pl i s = some s' → doR most (appR a b) pl i s = doR most b pl (i + lenR a) s'
  | .nil, _, _, s, s', h => by
    injection h with h
    subst h
    rfl
  | .set x e r, pl, i, s, s', h => by
    have := doR_app b r pl (i + 1) _ s' h
    show doR most (appR r b) pl (i + 1) _ = doR most b pl (i + (lenR r + 1)) s'
    rw [this, show i + 1 + lenR r = i + (lenR r + 1) by omega]
  | .say e r, pl, i, s, s', h => by
    have := doR_app b r pl (i + 1) _ s' h
    show doR most (appR r b) pl (i + 1) _ = doR most b pl (i + (lenR r + 1)) s'
    rw [this, show i + 1 + lenR r = i + (lenR r + 1) by omega]
  | .lap x m c r, pl, i, s, s', h => by
    unfold doR at h
    cases e : turnsR (doR most c (pl ++ [i]) 0) most x (most + 1) 0 s with
    | none =>
      rw [e] at h
      cases h
    | some sc =>
      obtain ⟨s2, n⟩ := sc
      rw [e] at h
      have := doR_app b r pl (i + 1) _ s' h
      show doR most (.lap x m c (appR r b)) pl i s = doR most b pl (i + (lenR r + 1)) s'
      rw [doR_lap e, this, show i + 1 + lenR r = i + (lenR r + 1) by omega]
/-- two rows one behind another -/
theorem doR_two {m1 m2 m3 : Nat} {a b : Rw} {L L1 : Pr} {s1 s2 : Rs} (h1 : doR m1 a [] 0 (s0R L) = some s1) (hv : ∀ x, expo L1 x = s1.v x) (h2 : doR m2 b [] 0 (s0R L1) = some s2) (l : s1.turns + s2.turns ≤ m3) :
    doR m3 (appR a b) [] 0 (s0R L) = some (preR s1.told s1.turns s1.ents (lenR a) s2) := by
  have e1 := (doR_more (most' := m3) a [] 0 _ s1 h1).2 (by omega)
  rw [doR_app b a [] 0 _ s1 e1]
  have e2 := ((doR_pre (T := s1.told) (c := s1.turns) (E := s1.ents) (k := lenR a) (most' := m3) b [] 0 _ s2 h2).2 (by omega)).2 rfl
  have e3 : preR s1.told s1.turns s1.ents (lenR a) (s0R L1) = s1 := by
    unfold preR s0R
    have : expo L1 = s1.v := funext hv
    simp only [this, List.append_nil, Nat.add_zero, List.map_nil]
  rw [e3] at e2
  exact e2
/-! ### entries: their places, their turns -/
def sumE (xs : List (List Nat × Int × Nat)) : Nat := (xs.map fun x => x.2.2).sum
theorem sumE_app (a b : List (List Nat × Int × Nat)) : sumE (a ++ b) = sumE a + sumE b := by
  unfold sumE
  rw [List.map_append, List.sum_append]
def PlNe (xs : List (List Nat × Int × Nat)) : Prop := ∀ x ∈ xs, x.1 ≠ []
theorem turnsR_sum {body : Rs → Option Rs} {most : Nat} {x : Str} (hb : ∀ s s', body s = some s' → sumE s'.ents + s.turns = sumE s.ents + s'.turns ∧ (PlNe s.ents → PlNe s'.ents)) :
    ∀ f n s s' n', turnsR body most x f n s = some (s', n') → sumE s'.ents + n' + s.turns = sumE s.ents + n + s'.turns ∧ (PlNe s.ents → PlNe s'.ents)
  | 0, _, _, _, _, h => nomatch h
  | f + 1, n, s, s', n', h => by
    unfold turnsR at h
    by_cases z : s.v x = 0
    · rw [if_pos z] at h
      injection h with h
      injection h with h1 h2
      subst h1
      subst h2
      exact ⟨rfl, id⟩
    · rw [if_neg z] at h
      by_cases q : most ≤ s.turns
      · rw [if_pos q] at h
        cases h
      · rw [if_neg q] at h
        cases e : body { s with turns := s.turns + 1, v := setV s.v x (s.v x - 1) } with
        | none =>
          rw [e] at h
          cases h
        | some s2 =>
          rw [e] at h
          obtain ⟨m1, b1⟩ := hb _ _ e
          obtain ⟨m2, b2⟩ := turnsR_sum hb f (n + 1) s2 s' n' h
          have m1 : sumE s2.ents + (s.turns + 1) = sumE s.ents + s2.turns := m1
          exact ⟨by omega, fun p => b2 (b1 p)⟩
theorem doR_sum {most : Nat} : ∀ (r : Rw) pl i s s', doR most r pl i s = some s' → sumE s'.ents + s.turns = sumE s.ents + s'.turns ∧ (PlNe s.ents → PlNe s'.ents)
  | .nil, _, _, s, s', h => by
    injection h with h
    subst h
    exact ⟨rfl, id⟩
  | .set x e r, pl, i, s, s', h => doR_sum r pl (i + 1) { s with v := setV s.v x (valE s.v e) } s' h
  | .say e r, pl, i, s, s', h => doR_sum r pl (i + 1) { s with told := s.told ++ [valE s.v e] } s' h
  | .lap x m b r, pl, i, s, s', h => by
    unfold doR at h
    cases e : turnsR (doR most b (pl ++ [i]) 0) most x (most + 1) 0 s with
    | none =>
      rw [e] at h
      cases h
    | some sc =>
      obtain ⟨s2, c⟩ := sc
      rw [e] at h
      obtain ⟨m1, b1⟩ := turnsR_sum (fun s s' h => doR_sum b (pl ++ [i]) 0 s s' h) _ _ _ _ _ e
      obtain ⟨m2, b2⟩ := doR_sum r pl (i + 1) _ s' h
      have m2 : sumE s'.ents + s2.turns = sumE (s2.ents ++ [(pl ++ [i], valE s.v m, c)]) + s'.turns := m2
      rw [sumE_app] at m2
      have e1 : sumE [(pl ++ [i], valE s.v m, c)] = c := by simp [sumE]
      rw [e1] at m2
      refine ⟨by omega, fun p => b2 fun y hy => ?_⟩
      rcases List.mem_append.mp hy with z | z
      · exact b1 p y z
      · have : y = (pl ++ [i], valE s.v m, c) := by simpa using z
        rw [this]
        simp
theorem namesR_app (b : Rw) (x : Str) : ∀ a : Rw, x ∈ namesR (appR a b) ↔ x ∈ namesR a ∨ x ∈ namesR b
  | .nil => by simp [appR, namesR]
  | .set y e r => by
    show x ∈ y :: (namesE e ++ namesR (appR r b)) ↔ x ∈ y :: (namesE e ++ namesR r) ∨ _
    simp only [List.mem_cons, List.mem_append, namesR_app b x r, or_assoc]
  | .say e r => by
    show x ∈ namesE e ++ namesR (appR r b) ↔ x ∈ namesE e ++ namesR r ∨ _
    simp only [List.mem_append, namesR_app b x r, or_assoc]
  | .lap y m c r => by
    show x ∈ y :: (namesE m ++ (namesR c ++ namesR (appR r b))) ↔ x ∈ y :: (namesE m ++ (namesR c ++ namesR r)) ∨ _
    simp only [List.mem_cons, List.mem_append, namesR_app b x r, or_assoc]
def PlB (B : Nat) (xs : List (List Nat × Int × Nat)) : Prop := ∀ x ∈ xs, x.1.length ≤ B
theorem turnsR_inv {I : List (List Nat × Int × Nat) → Prop} {body : Rs → Option Rs} {most : Nat} {x : Str} (hb : ∀ s s', body s = some s' → I s.ents → I s'.ents) :
    ∀ f n s s' n', turnsR body most x f n s = some (s', n') → I s.ents → I s'.ents
  | 0, _, _, _, _, h, _ => nomatch h
  | f + 1, n, s, s', n', h, hi => by
    unfold turnsR at h
    by_cases z : s.v x = 0
    · rw [if_pos z] at h
      injection h with h
      injection h with h1 h2
      subst h1
      exact hi
    · rw [if_neg z] at h
      by_cases q : most ≤ s.turns
      · rw [if_pos q] at h
        cases h
      · rw [if_neg q] at h
        cases e : body { s with turns := s.turns + 1, v := setV s.v x (s.v x - 1) } with
        | none =>
          rw [e] at h
          cases h
        | some s2 =>
          rw [e] at h
          exact turnsR_inv hb f (n + 1) s2 s' n' h (hb _ _ e hi)
theorem doR_plb {ns : List Str} {B most : Nat} : ∀ (r : Rw) {d : Nat}, RwOk ns r d → ∀ pl i s s', pl.length + d ≤ B → doR most r pl i s = some s' → PlB B s.ents → PlB B s'.ents
  | .nil, _, _, _, _, s, s', _, h, hi => by
    injection h with h
    subst h
    exact hi
  | .set x e r, d, ⟨_, _, o⟩, pl, i, s, s', l, h, hi => doR_plb r o pl (i + 1) { s with v := setV s.v x (valE s.v e) } s' l h hi
  | .say e r, d, ⟨_, o⟩, pl, i, s, s', l, h, hi => doR_plb r o pl (i + 1) { s with told := s.told ++ [valE s.v e] } s' l h hi
  | .lap x m b r, d, ⟨_, _, l1, _, ob, o⟩, pl, i, s, s', l, h, hi => by
    unfold doR at h
    cases e : turnsR (doR most b (pl ++ [i]) 0) most x (most + 1) 0 s with
    | none =>
      rw [e] at h
      cases h
    | some sc =>
      obtain ⟨s2, c⟩ := sc
      rw [e] at h
      have lp : (pl ++ [i]).length + (d - 1) ≤ B := by
        rw [List.length_append, List.length_singleton]
        omega
      have h2 := turnsR_inv (I := PlB B) (fun s s' h hi => doR_plb b ob (pl ++ [i]) 0 s s' lp h hi) _ _ _ _ _ e hi
      refine doR_plb r o pl (i + 1) _ s' l h fun y hy => ?_
      rcases List.mem_append.mp hy with z | z
      · exact h2 y z
      · have : y = (pl ++ [i], valE s.v m, c) := by simpa using z
        rw [this]
        show (pl ++ [i]).length ≤ B
        omega
/-! ### tuples of data and of dicts compared -/
open SeqAt in
theorem tupNe_all {prog : Program} {w : World} {t u : Addr} {vs ws : Array Value} {k m : Nat} {d1 d2 : Option Addr} {o1 o2 : Array (Option Value)} (hz : vs.size = ws.size) :
    MeetsIn prog w (Builtin.«tuple.__ne__» ⟨[.ref t, .ref u], []⟩)
      (fun A R st => st.heap.get? t = some { cls := .type "tuple", dict := d1, data := .seq vs k, slots := o1 } ∧ st.heap.get? u = some { cls := .type "tuple", dict := d2, data := .seq ws m, slots := o2 } ∧
        (∀ j (a : j < vs.size) (b : j < ws.size), PySem.SeqAt.EqIn prog w A.in1 st vs[j] ws[j] true) ∧ R (.ok (.ret (.bool false))) st) :=
  .of_wp fun A R st q => by
    obtain ⟨hp, gg, dd, tt, oo⟩ := st
    obtain ⟨q1, q2, q3, q4⟩ := q
    have sub := AutoSeq1.sub_tuple_tuple
    have lz : (vs.toList.zip ws.toList).length = vs.size := by simp [hz]
    wp_walk using AutoSeq1.wpAny_loadPart' q1, AutoSeq1.wpAny_loadPart' q2, wpAny_forIn_list _ (fun more acc s2 => acc.1 = none ∧ s2 = ⟨hp, gg, dd, tt, oo⟩ ∧ ∃ i, more = (vs.toList.zip ws.toList).drop i) _
    case turn =>
      rintro ⟨y, x⟩ more acc s2 ⟨ha, rfl, i, hi⟩
      have li : i < (vs.toList.zip ws.toList).length := by
        by_cases c : i < (vs.toList.zip ws.toList).length
        · exact c
        · rw [List.drop_of_length_le (by omega)] at hi
          cases hi
      have l1 : i < vs.size := by omega
      have l2 : i < ws.size := by omega
      rw [List.drop_eq_getElem_cons li] at hi
      injection hi with hi1 hi2
      obtain rfl : y = vs[i] := by simpa using congrArg Prod.fst hi1
      obtain rfl : x = ws[i] := by simpa using congrArg Prod.snd hi1
      refine wpAny_bind (q3 i l1 l2 _ _ ?_)
      wp_walk
      exact ⟨rfl, rfl, i + 1, hi2⟩
    case fin =>
      rintro ⟨acc, rest⟩ s2 ⟨ha, rfl, i, hi⟩
      simp only at ha
      subst ha
      wp_walk
      exact ⟨_, rfl, by simpa [Builtin.Tuple.tupleCompareSizes, bne, hz] using q4⟩
    case h => exact ⟨rfl, rfl, 0, rfl⟩
/-- two things that are the same: data, or dicts of flat things -/
def SameV (K : PySem.W.Frag) (H : Hp) (x y : V) : Prop := (∃ d, Dp K H x d ∧ Dp K H y d ∧ SeqAt.shaped d = true) ∨ (∃ (a b : Addr) (ks ls : List (L2.Key × V)), x = .ref a ∧ y = .ref b ∧ H a = some (.dK ks) ∧ H b = some (.dK ls) ∧ ks.length = ls.length ∧ ∀ p ∈ ks, valV ls p.1 = some p.2 ∧ flatB p.2 = true)
theorem SameV.eqIn {X : Cx} {pins : List (Addr × Obj)} {σ : L2.St} {H : Hp} {s : Shared} (I : Inv X pins σ H s) {A : Around} (hu : A.units + 64 < cLine) {x y : V} {v u : Value} (h : SameV X.K H x y) (rx : RelV x v) (ry : RelV y u) : PySem.SeqAt.EqIn X.prog X.w A s v u true := by
  rcases h with ⟨d, hx, hy, sh⟩ | ⟨a, b, ks, ls, rfl, rfl, ea, eb, hl, hp⟩
  · obtain ⟨as, ra⟩ := Dp.reads I d x v hx rx
    obtain ⟨bs, rb⟩ := Dp.reads I d y u hy ry
    have cl := SeqAt.canLay_of_shaped sh
    have z := SeqAt.eqAt_reads d d A s v u as bs ra rb cl cl (SeqAt.room_of_shaped sh hu)
    rw [SeqAt.eqv_refl d cl] at z
    exact z.inModel X.prog X.w
  · obtain rfl : v = Value.ref a := rx
    obtain rfl : u = Value.ref b := ry
    by_cases e : a = b
    · subst e
      exact (SeqAt.EqAt.same _).inModel X.prog X.w
    · obtain ⟨_, ya, va, ra, da⟩ := (show ObjOk X.prog X.w H s.heap a (.dK ks) from I.hok a _ ea)
      obtain ⟨_, yb, vb, rb, db⟩ := (show ObjOk X.prog X.w H s.heap b (.dK ls) from I.hok b _ eb)
      have hl2 : va.length = vb.length := by rw [← ra.length, ← rb.length]; exact hl
      exact PySem.SeqAt.EqIn.of_refs e fun E Q hq => PySem.W.keq_eq (knd := mixKind X.prog X.w) (r := true) ya yb da db (by omega) (fun _ => hits_all rb ra hp) (by simpa [hl2] using hq)
theorem paired_len {α β : Type} {G : α → β → Prop} {l1 : List α} {l2 : List β} (h : Paired G l1 l2) : l1.length = l2.length := by
  induction h with
  | nil => rfl
  | cons _ _ ih => rw [List.length_cons, List.length_cons, ih]
theorem same_at {K : PySem.W.Frag} {H : Hp} {xs ys : List V} (hp : Paired (SameV K H) xs ys) : ∀ ia ib : List Value, Vals xs ia → Vals ys ib → ∀ j (l1 : j < ia.length) (l2 : j < ib.length), ∃ x y, SameV K H x y ∧ RelV x ia[j] ∧ RelV y ib[j] := by
  induction hp with
  | nil =>
    intro ia ib r1 r2 j l1 l2
    cases r1
    exact absurd l1 (Nat.not_lt_zero j)
  | cons hxy _ ih =>
    intro ia ib r1 r2 j l1 l2
    cases r1 with
    | cons a1 b1 =>
      cases r2 with
      | cons a2 b2 =>
        cases j with
        | zero => exact ⟨_, _, hxy, a1, a2⟩
        | succ j => exact ih _ _ b1 b2 j (by simpa using l1) (by simpa using l2)
def rNeS (K : PySem.W.Frag) : R2 := fun x y H Q => ∃ (a b : Addr) (xs ys : List V), x = .ref a ∧ y = .ref b ∧ SqT K H a xs ∧ SqT K H b ys ∧ Paired (SameV K H) xs ys ∧ Q (.bl false) H
theorem op_neS {X : Cx} (hu : X.A.units + 66 < cLine) : OpR X (compareOp .NotEq) (rNeS X.K) := by
  intro pins s σ H x y v u Q I rx ry h
  obtain ⟨a, b, xs, ys, rfl, rfl, ha, hb, hp, q⟩ := h
  cases rx
  cases ry
  obtain ⟨ia, ra, pa, _⟩ := I.tuple ha
  obtain ⟨ib, rb, pb, _⟩ := I.tuple hb
  have lp : xs.length = ys.length := paired_len hp
  have hz : ia.toArray.size = ib.toArray.size := by
    rw [List.size_toArray, List.size_toArray, ← ra.length, ← rb.length]
    exact lp
  obtain ⟨⟨c1, d1, e1, f1⟩, g1, h1, n1, i1⟩ := id pa
  obtain ⟨⟨c2, d2, e2, f2⟩, g2, h2, n2, i2⟩ := id pb
  simp only at h1 i1 h2 i2
  subst h1 i1 h2 i2
  have dif : (Value.bool false) ≠ Value.notImplemented := fun z => nomatch z
  exact wpAny_richCompare_same_room (T := "tuple") (op := .NotEq) ⟨_, g1, rfl⟩ ⟨_, g2, rfl⟩ F.slot_tuple_ne
    (call_meetsIn F.slot_tuple_ne ⟨_, g1, rfl⟩ F.entry_tuple_ne (F.args_tuple_ne_2 _ _) (tupNe_all hz)
      ⟨g1, g2, fun j l1 l2 => by
        obtain ⟨x, y, sv, q1, q2⟩ := same_at hp ia ib ra rb j (by simpa using l1) (by simpa using l2)
        exact sv.eqIn I (by show X.A.units + 1 + 64 < cLine; omega) (by simpa using q1) (by simpa using q2), dif, ⟨.bl false, H, I, rfl, q⟩⟩) (by omega)
theorem exm_two {K : PySem.W.Frag} {S L : Addr} (h1 : PySem.W.subIn K (.ref L) (.type "BaseException") = some true) (h2 : PySem.W.hasDictIn K L = true) (h3 : PySem.W.typeIn K (.ref L) = some (.type "type")) (h4 : PySem.W.subIn K (.ref S) (.ref L) = some true) :
    PySem.W.exmOne K (.ref S) (.ref L) = some true := by
  have h2' : (PySem.W.clsIn K L).isSome = true := by
    unfold PySem.W.hasDictIn at h2
    cases e : PySem.W.clsIn K L with
    | none =>
      rw [e] at h2
      cases h2
    | some _ => rfl
  have e1 : (PySem.W.subIn K (.ref L) (.type "BaseException") == some true) = true := by rw [h1] <;> rfl
  have e2 : ((PySem.W.clsIn K L).isSome && PySem.W.typeIn K (.ref L) == some (.type "type")) = true := by
    rw [h2', h3] <;> rfl
  show (if (PySem.W.subIn K (.ref L) (.type "BaseException") == some true) = true then (if ((PySem.W.clsIn K L).isSome && PySem.W.typeIn K (.ref L) == some (.type "type")) = true then PySem.W.subIn K (.ref S) (.ref L) else none) else none) = some true
  rw [if_pos e1, if_pos e2]
  exact h4
section
variable {P : Program} {w : World} {K : PySem.W.Frag} {mg : Str → Option Value} {base : Heap} {C : Addr}
/-- what a run tells, at q -/
structure TellsAt (K : PySem.W.Frag) (H : Hp) (q nd td ed : Addr) (L' : Pr) (ks0 : List Str) (r : Rw) (s' : Rs) : Prop where
  q : SqT K H q [.ref td, .ref nd, .int (s'.turns : Int), .ref ed]
  nm : H nd = some (.dK (dSI L'))
  nd : (L'.map (·.1)).Nodup
  ky : ∀ x, x ∈ L'.map (·.1) ↔ x ∈ ks0 ∨ x ∈ namesR r
  vv : ∀ x, expo L' x = s'.v x
  tl : H td = some (.lst (s'.told.map V.int))
  en : ∃ es : List Addr, H ed = some (.lst (es.map V.ref)) ∧ Paired (EntAt K H) es s'.ents
theorem TellsAt.same {H H' : Hp} {q nd td ed : Addr} {L' : Pr} {ks0 : List Str} {r : Rw} {s' : Rs} (h : TellsAt K H q nd td ed L' ks0 r s') (u : Same H H') : TellsAt K H' q nd td ed L' ks0 r s' :=
  ⟨SqT.keeps h.q (TupsStay.same u), u _ _ h.nm, h.nd, h.ky, h.vv, u _ _ h.tl, let ⟨es, a, b⟩ := h.en; ⟨es, u _ _ a, Paired.mapP b fun _ _ z => z.stay (TupsStay.same u)⟩⟩
def spDryL (K : PySem.W.Frag) : Sp := fun vs H Q _ => ∃ (pr d : Addr) (L : Pr) (ns : List Str) (ofs most n0 : Nat) (r : Rw), vs = [.ref pr, .ref d, .int (most : Int)] ∧ RwAt K H pr r ∧ RwOk ns r 3 ∧ RwT ns r ∧ lenR r ≤ 12 ∧ NsOk ns ∧ H d = some (.dK (dSI L)) ∧ St0 ns ofs most n0 (lenR r) L ∧ ofs + 8 * most ≤ 49000 ∧
  (∀ (s' : Rs) (H' : Hp) (q nd td ed : Addr) (L' : Pr), doR most r [] 0 (s0R L) = some s' → TellsAt K H' q nd td ed L' (L.map (·.1)) r s' → (∃ n', Pt ns ofs most n' 0 s') → H nd = none → H td = none → H ed = none → Same H H' → Q (.ref q) H') ∧
  (doR most r [] 0 (s0R L) = none → ∀ H', Same H H' → Q .non H')
theorem ok_law_dry {f : Addr} {fd : FuncData} (T : Txt K mg C) (F : DefAt K mg "_law_dry" "_law_dry" s_law_dry ["_law_program", "_law_names_here", "_law_most"] f fd) : FnOk P w K mg base CX0 15 f fd ["_law_program", "_law_names_here", "_law_most"] (spDryL K) := by
  obtain ⟨Lp, D, X⟩ := T.ex
  obtain ⟨f1, fd1, D_ran⟩ := T.d_ran
  have G_ran : FnOk P w K mg base (L2.CX P w) 13 f1 fd1 ["program", "names", "most"] (spRan K D) := ok_ran X T D_ran
  refine F.F.ok sc_law_dry (fun vs H Q E h => ?_) (fun cdv A outer z H vs Q E hr h => ?_)
  · obtain ⟨pr, d, L, ns, ofs, most, n0, r, rfl, _⟩ := h
    rfl
  · obtain ⟨pr, d, L, ns, ofs, most, n0, r, rfl, ar, ok, tm, l12, no, ed, po, lm, q, qe⟩ := h
    have hr1 : Room 13 _ := hr.mono (by decide)
    refine ⟨_, pss_one (ps_try_only (Wout := fun _ _ _ _ => False) rfl rfl ⟨rfl, by decide, .inl X.gD⟩ takes0
        (fun W pn xe tk _ => pss_one (ps_ret (pe_callS G_ran hr1 (by rfl) D_ran.g D_ran.F.kp D_ran.b (fun σ => passAt tk σ) (pa_cons (pv 0) (pa_cons (pv 1) (pa_cons (pv 2) pa_nil))))))
        (fun a oe cls d pn hz hf => pss_one (ps_ret pe_non))), ?_⟩
    refine ⟨_, rfl, _, rfl, _, rfl, pr, d, L, ns, ofs, most, n0, r, rfl, ar, ok, tm, l12, no, ed, po, lm, fun s' H' q2 nd td ed2 L' es e1 h1 h2 h3 h4 h5 h6 h7 h8 h9 h10 n1 n2 n3 s1 => ?_, fun e0 H' s1 => ⟨true, exm_two X.bD X.hdD X.tD X.sDD, fun _ a ha => qe e0 H' s1, fun z => nomatch z⟩⟩
    exact q s' H' q2 nd td ed2 L' e1 ⟨h1, h2, h3, h4, h5, h6, ⟨es, h7, h8⟩⟩ h10 n1 n2 n3 s1
end
/-! ### a list comprehension over the keys of a plain dict -/
theorem lc_keysP {d : Addr} {o : Obj} {kvs : List (L2.Key × V)} {g : TG} {tt : TT} {te : TE} {vs : List Nat} {σ : L2.St} {H1 : Hp} {D : Addr} {Qd : Hp → Prop} (Pv : Nat → Hp → Prop) (h0 : Pv 0 (upd H1 D (.lst []))) (hl : ∀ i H, i ≤ kvs.length → Pv i H → H d = some (.frz o (.dK kvs)))
    (hs : ∀ i k v H, kvs[i]? = some (k, v) → Pv i H → g (kV k) (wipe σ vs) H fun σ2 H2 => wipe σ2 vs = wipe σ vs ∧ tt σ2 H2 fun b H3 =>
      if b = true then te σ2 H3 fun y H4 => ∃ acc, H4 D = some (.lst acc) ∧ acc.length < sizeLine ∧ Pv (i + 1) (upd H4 D (.lst (acc ++ [y]))) else Pv (i + 1) H3) (hd : ∀ H, Pv kvs.length H → Qd H) :
    ∃ W : Nat → Nat → Hp → Prop, (∃ m, W 0 m (upd H1 D (.lst []))) ∧ ∀ i m H, W i m H →
      ((Itk d o kvs).stop i H ∧ Qd H) ∨ ((Itk d o kvs).go i H ∧ ∃ Nx : Hp → Prop, (∀ H', Nx H' → ∃ m', m' < m ∧ W (i + 1) m' H') ∧ ∀ x H', (Itk d o kvs).yld i H x H' → g x (wipe σ vs) H' fun σ2 H2 => wipe σ2 vs = wipe σ vs ∧ tt σ2 H2 fun b H3 =>
        if b = true then te σ2 H3 fun y H4 => ∃ acc, H4 D = some (.lst acc) ∧ acc.length < sizeLine ∧ Nx (upd H4 D (.lst (acc ++ [y]))) else Nx H3) := by
  refine ⟨fun i m H => m = kvs.length - i ∧ i ≤ kvs.length ∧ Pv i H, ⟨kvs.length, by simp, Nat.zero_le _, h0⟩, ?_⟩
  rintro i m H ⟨rfl, hi, p⟩
  have F := hl i H hi p
  by_cases lt : i < kvs.length
  · refine .inr ⟨⟨F, lt⟩, Pv (i + 1), fun H' p' => ⟨kvs.length - (i + 1), by omega, rfl, lt, p'⟩, fun x H' ⟨eH, k, v, hL, ex⟩ => ?_⟩
    subst ex
    subst eH
    exact hs i k v _ hL p
  · have e : i = kvs.length := by omega
    subst e
    exact .inl ⟨⟨F, Nat.le_refl _⟩, hd H p⟩
theorem ix_tupK {X : Cx} {K : PySem.W.Frag} (e : X.K = K) : IxR X (rIxT K) := by
  subst e
  exact ix_tup
def rLenQ (K : PySem.W.Frag) : List V → Hp → VK → Prop := fun xs H Q => ∃ p ys, xs = [.ref p] ∧ (SqL K H p ys ∨ SqT K H p ys) ∧ Q (.int ys.length) H
theorem call_lenK {X : Cx} {K : PySem.W.Frag} (e : X.K = K) : CallR X (.builtin "len") (rLenQ K) := by
  subst e
  exact call_len_seq
def rCatU (K : PySem.W.Frag) : R2 := fun x y H Q => ∃ a b xs ys, x = .ref a ∧ y = .ref b ∧ SqT K H a xs ∧ SqT K H b ys ∧ xs.length + ys.length ≤ sizeLine ∧ ∀ p H', SqT K H' p (xs ++ ys) → Same H H' → Q (.ref p) H'
theorem op_catU {X : Cx} {K : PySem.W.Frag} (e : X.K = K) : OpR X (binaryOp .Add) (rCatU K) := by
  subst e
  intro pins s σ H x y v u Q I rx ry h
  obtain ⟨a, b, xs, ys, rfl, rfl, ha, hb, hl, q⟩ := h
  refine op_catA pins s σ H _ _ v u Q I rx ry ⟨a, b, xs, ys, rfl, rfl, ha, hb, hl, fun e => ?_, fun _ e => ?_, fun _ _ p np => ?_⟩
  · subst e
    exact q b H hb fun _ _ e => e
  · subst e
    exact q a H (by rw [List.append_nil]; exact ha) fun _ _ e => e
  · exact q p _ (SqT.of upd_same) (same_upd np)
def rSlU (K : PySem.W.Frag) : V → Option Int → Option Int → Hp → VK → Prop := fun x lo hi H Q => ∃ a xs, x = .ref a ∧ SqT K H a xs ∧ ∀ p H', SqT K H' p (cutV xs lo hi) → Same H H' → Q (.ref p) H'
theorem sl_tupU {X : Cx} {K : PySem.W.Frag} (e : X.K = K) : SlR X (rSlU K) := by
  subst e
  intro pins s σ H x v vl vu lo hi sl Q I rx hs pl pu h
  obtain ⟨a, xs, rfl, hx, q⟩ := h
  refine sl_tupA pins s σ H _ v vl vu lo hi sl Q I rx hs pl pu ⟨a, xs, rfl, hx, fun w => ?_, fun _ p np => q p _ (SqT.of upd_same) (same_upd np)⟩
  refine q a H ?_ fun _ _ e => e
  unfold cutV
  rw [w.1, w.2, List.drop_zero, Nat.sub_zero, List.take_length]
  exact hx
theorem cut_tail (v : V) (r : List V) : cutV (v :: r) (some 1) none = r := by
  have e : HT.sIx (v :: r).length 0 (some 1) = 1 := by
    have := HT.sIx_nat (v :: r).length 0 1
    rw [List.length_cons] at this ⊢
    rw [show (1 : Int) = ((1 : Nat) : Int) from rfl, this]
    omega
  unfold cutV
  rw [e, HT.sIx_none]
  show r.take (r.length + 1 - 1) = r
  rw [Nat.add_sub_cancel, List.take_length]
/-! ### what a run tells, as data -/
def pdE (x : List Nat × Int × Nat) : PyData := .tuple [.tuple ((x.1.map fun n : Nat => (n : Int)).map PyData.int), .int x.2.1, .int (x.2.2 : Int)]
theorem dpPlace {K : PySem.W.Frag} {H : Hp} (pl : List Nat) : DpAll K H (placeV pl) ((pl.map fun n : Nat => (n : Int)).map PyData.int) := by
  have e : placeV pl = (pl.map fun n : Nat => (n : Int)).map V.int := by unfold placeV; rw [List.map_map]; rfl
  rw [e]
  exact dpInts _
theorem dpEnt {K : PySem.W.Frag} {H : Hp} {e : Addr} {x : List Nat × Int × Nat} (h : EntAt K H e x) : Dp K H (.ref e) (pdE x) := by
  obtain ⟨pa, a, b⟩ := h
  exact .tup a (.cons (.tup b (dpPlace _)) (.cons (.int _) (.cons (.int _) .nil)))
theorem dpEnts {K : PySem.W.Frag} {H : Hp} {es : List Addr} {xs : List (List Nat × Int × Nat)} (h : Paired (EntAt K H) es xs) : DpAll K H (es.map V.ref) (xs.map pdE) := by
  induction h with
  | nil => exact .nil
  | cons a _ ih => exact .cons (dpEnt a) ih
theorem layEnts : ∀ xs : List (List Nat × Int × Nat), PyData.canLayAll0 (xs.map pdE) = true
  | [] => by simp [PyData.canLayAll0]
  | x :: r => by
    have a := canLayInts (x.1.map fun n : Nat => (n : Int))
    simp [PyData.canLayAll0, PyData.canLay0, layEnts r, pdE] at a ⊢
    exact a
theorem depEnts : ∀ xs : List (List Nat × Int × Nat), PyData.depthAll (xs.map pdE) ≤ 2
  | [] => by simp [PyData.depthAll]
  | x :: r => by
    have a := depthInts (x.1.map fun n : Nat => (n : Int))
    have b := depEnts r
    rw [List.map_cons, PyData.depthAll]
    have c : PyData.depth (pdE x) = 2 := by
      simp [pdE, PyData.depth, PyData.depthAll] at a ⊢
      omega
    rw [c]
    omega
theorem shapedEnts (xs : List (List Nat × Int × Nat)) : SeqAt.shaped (.list (xs.map pdE)) = true := by
  have := depEnts xs
  simp [SeqAt.shaped, PyData.canLay0, PyData.depth, layEnts]
  omega
theorem eqvEnts (xs : List (List Nat × Int × Nat)) : PyData.eqv (.list (xs.map pdE)) (.list (xs.map pdE)) = true := SeqAt.eqv_refl _ (by rw [PyData.canLay0]; exact layEnts xs)
theorem eqvInts (xs : List Int) : PyData.eqv (.list (xs.map PyData.int)) (.list (xs.map PyData.int)) = true := SeqAt.eqv_refl _ (by rw [PyData.canLay0]; exact canLayInts xs)
theorem dicts_same {L M : Pr} (hL : (L.map (·.1)).Nodup) (hM : (M.map (·.1)).Nodup) (hk : ∀ x, x ∈ L.map (·.1) ↔ x ∈ M.map (·.1)) (hv : ∀ x, expo L x = expo M x) : (dSI L).length = (dSI M).length ∧ ∀ p ∈ dSI L, valV (dSI M) p.1 = some p.2 ∧ flatB p.2 = true := by
  constructor
  · have a := nodup_len hL fun x hx => (hk x).mp hx
    have b := nodup_len hM fun x hx => (hk x).mpr hx
    rw [List.length_map, List.length_map] at a b
    rw [dSI_len, dSI_len]
    omega
  · intro p hp
    obtain ⟨e, he, rfl⟩ := List.mem_map.mp hp
    have hx : e.1 ∈ L.map (·.1) := List.mem_map_of_mem he
    have i1 := valV_some hM ((hk _).mp hx)
    refine ⟨?_, rfl⟩
    show valV (dSI M) (Sum.inr e.1) = some (.int e.2)
    rw [i1, ← hv]
    have e1 : valV (dSI L) (Sum.inr e.1) = some (.int e.2) := by
      clear hp hk hv i1 hM
      induction L with
      | nil => cases he
      | cons f r ih =>
        rw [List.map_cons, List.nodup_cons] at hL
        have e2 : dSI (f :: r) = (Sum.inr f.1, V.int f.2) :: dSI r := rfl
        rw [e2]
        rcases List.mem_cons.mp he with z | z
        · rw [← z]
          exact valV_pos rfl
        · have ne : ¬ (Sum.inr f.1 : L2.Key) = Sum.inr e.1 := fun k => hL.1 (by
            have : f.1 = e.1 := by injection k
            rw [this]
            exact List.mem_map_of_mem z)
          rw [valV_neg ne]
          exact ih hL.2 z (List.mem_map_of_mem z)
    rw [valV_some hL hx] at e1
    exact e1
theorem paired_get {α β : Type} {G : α → β → Prop} {l1 : List α} {l2 : List β} (h : Paired G l1 l2) : ∀ {i : Nat} {a : α}, l1[i]? = some a → ∃ b, l2[i]? = some b ∧ G a b := by
  induction h with
  | nil =>
    intro i a e
    cases e
  | cons x _ ih =>
    intro i a e
    cases i with
    | zero =>
      injection e with e
      subst e
      exact ⟨_, rfl, x⟩
    | succ i => exact ih e
theorem paired_app {α β : Type} {G : α → β → Prop} {l1 l3 : List α} {l2 l4 : List β} (h : Paired G l1 l2) (g : Paired G l3 l4) : Paired G (l1 ++ l3) (l2 ++ l4) := by
  induction h with
  | nil => exact g
  | cons x _ ih => exact .cons x ih
theorem sum_cast : ∀ xs : List (List Nat × Int × Nat), (xs.map fun x => ((x.2.2 : Nat) : Int)).sum = (((xs.map fun x => x.2.2).sum : Nat) : Int)
  | [] => rfl
  | x :: r => by
    rw [List.map_cons, List.map_cons, List.sum_cons, List.sum_cons, sum_cast r]
    omega
section
variable {P : Program} {w : World} {K : PySem.W.Frag} {mg : Str → Option Value} {base : Heap} {C : Addr}
def spLaw (K : PySem.W.Frag) : Sp := fun vs H Q _ => ∃ (a : Addr) (ns : List Int), vs = [.ref a] ∧ SqL K H a (ns.map V.int) ∧ ns.length ≤ 63 ∧ ∀ H', Q (.bl true) H'
set_option maxHeartbeats 4000000 in
theorem ok_law {f : Addr} {fd : FuncData} (T : Txt K mg C) (FF : DefAt K mg "law" "law" s_law ["_law_script"] f fd) : FnOk P w K mg base CX0 90 f fd ["_law_script"] (spLaw K) := by
  obtain ⟨f0, fd0, D_law_names⟩ := T.d_law_names
  have G_law_names : FnOk P w K mg base CX0 2 f0 fd0 ["_law_h"] (spNames K) := ok_law_names T D_law_names
  obtain ⟨f1, fd1, D_law_row⟩ := T.d_law_row
  obtain ⟨f2, fd2, D_law_lap⟩ := T.d_law_lap
  have G_law_row : FnOk P w K mg base CX0 12 f1 fd1 ["_law_h", "_law_names_here", "_law_depth", "_law_odd"] (spRow K 3) := rows_all T D_law_row D_law_lap 3
  obtain ⟨f3, fd3, D_law_inputs⟩ := T.d_law_inputs
  have G_law_inputs : FnOk P w K mg base CX0 2 f3 fd3 ["_law_h", "_law_names_here"] (spInputs K) := ok_law_inputs T D_law_inputs
  obtain ⟨f4, fd4, D_law_dry⟩ := T.d_law_dry
  have G_law_dry : FnOk P w K mg base CX0 15 f4 fd4 ["_law_program", "_law_names_here", "_law_most"] (spDryL K) := ok_law_dry T D_law_dry
  refine FF.F.ok sc_law (fun vs H Q E h => ?_) (fun cdv A outer s H vs Q E hr h => ?_)
  · obtain ⟨a, ns, rfl, _⟩ := h
    rfl
  · obtain ⟨a0, ns, rfl, hS, hlen, q⟩ := h
    have hu0 : (A.deeper (envOfC "law" (defScope s_law) s.heap.objs.size f cdv)).units + 66 < cLine := by have := hr.un; omega
    refine ⟨_, (pss_cons (ps_set (i := 1) sc_law.nd rfl (.inl rfl) (pe_lst (pa_cons pe_int (pa_cons (pe_callTy call_list_of (by rfl) T.m_list (by decide +kernel) (pa_cons (pv 0) pa_nil)) (pa_cons pe_int pa_nil)))))
      (pss_cons (ps_set (i := 2) sc_law.nd rfl (.inl rfl) (pe_call G_law_names (hr.mono (by decide)) (by rfl) D_law_names.g D_law_names.F.kp D_law_names.b .nil pass0 (pa_cons (pv 1) pa_nil)))
      (pss_cons (ps_asg (pe_tup (pa_cons (pe_call G_law_row (hr.mono (by decide)) (by rfl) D_law_row.g D_law_row.F.kp D_law_row.b .nil pass0 (pa_cons (pv 1) (pa_cons (pv 2) (pa_cons pe_int (pa_cons pe_bl pa_nil))))) (pa_cons (pe_call G_law_row (hr.mono (by decide)) (by rfl) D_law_row.g D_law_row.F.kp D_law_row.b .nil pass0 (pa_cons (pv 1) (pa_cons (pv 2) (pa_cons pe_int (pa_cons pe_bl pa_nil))))) pa_nil))) (pg_tup (by rfl) (pgs_cons (pg_name (i := 3) sc_law.nd rfl (.inr rfl)) (pgs_cons (pg_name (i := 4) sc_law.nd rfl (.inl rfl)) pgs_nil))))
      (pss_cons (ps_set (i := 5) sc_law.nd rfl (.inl rfl) (pe_tup (pa_cons pe_str (pa_cons (pe_op op_catT (pe_ix ix_tup (pv 3) pe_int (fun _ _ => rfl)) (pe_ix ix_tup (pv 4) pe_int (fun _ _ => rfl))) pa_nil))))
      (pss_cons (ps_for PassesOwn.never rfl (pi_range1 rfl T.m_range (pa_cons pe_int pa_nil)) (pg_name (i := 6) sc_law.nd rfl (.inl rfl)) (pss_cons (ps_set (i := 7) sc_law.nd rfl (.inr rfl) (pe_call G_law_inputs (hr.mono (by decide)) (by rfl) D_law_inputs.g D_law_inputs.F.kp D_law_inputs.b .nil pass0 (pa_cons (pv 1) (pa_cons (pv 2) pa_nil)))) (pss_cons (ps_set (i := 8) sc_law.nd rfl (.inl rfl) (pe_call G_law_dry (hr.mono (by decide)) (by rfl) D_law_dry.g D_law_dry.F.kp D_law_dry.b .nil pass0 (pa_cons (pv 3) (pa_cons (pv 7) (pa_cons pe_int pa_nil))))) (pss_one (ps_if (pt_cmp (pc_notN (pv 8)) (by rfl)) (pss_cons (ps_set (i := 9) sc_law.nd rfl (.inr rfl) (pe_call G_law_dry (hr.mono (by decide)) (by rfl) D_law_dry.g D_law_dry.F.kp D_law_dry.b .nil pass0 (pa_cons (pv 4) (pa_cons (pe_ix ix_tup (pv 8) pe_int (fun _ _ => rfl)) (pa_cons pe_int pa_nil))))) (pss_one (ps_if (pt_cmp (pc_notN (pv 9)) (by rfl)) (pss_cons (ps_asg (pe_call G_law_dry (hr.mono (by decide)) (by rfl) D_law_dry.g D_law_dry.F.kp D_law_dry.b .nil pass0 (pa_cons (pv 5) (pa_cons (pv 7) (pa_cons pe_int pa_nil)))) (pg_tup (by rfl) (pgs_cons (pg_name (i := 10) sc_law.nd rfl (.inl rfl)) (pgs_cons (pg_name (i := 11) sc_law.nd rfl (.inr rfl)) (pgs_cons (pg_name (i := 12) sc_law.nd rfl (.inl rfl)) (pgs_cons (pg_name (i := 13) sc_law.nd rfl (.inl rfl)) pgs_nil)))))) (pss_cons (ps_if (PW.pt (pw_or (pt_cmpR (op_neD hr.units) (pv 10) (pe_op op_cat (pe_ix ix_tup (pv 8) pe_int (fun _ _ => rfl)) (pe_ix ix_tup (pv 9) pe_int (fun _ _ => rfl))) (nomark _)) (pw_or1 (pt_cmpR op_ne (pv 12) (pe_op op_add (pe_ix ix_tup (pv 8) pe_int (fun _ _ => rfl)) (pe_ix ix_tup (pv 9) pe_int (fun _ _ => rfl))) (nomark _))))) (pss_one (ps_ret pe_bl)) pss_nil) (pss_cons (ps_if (pt_cmpR (op_neD hr.units) (pe_lock (pe_lc (own := [("_law_name", 16)]) (g := gName 16) (tt := _) rfl sc_law.nd (pi_keys (pv 11)) (blkOk_by (own := [("_law_name", 16)]) (N := ["_law_script", "_law_h", "_law_names_here", "_law_one", "_law_two", "_law_both", "_law_time", "_law_inputs_here", "_law_first", "_law_second", "_law_told", "_law_ends", "_law_turns", "_law_entries", "_law_later", "_law_entry", "_law_name"]) (sc := defScope s_law) (by decide +kernel)) (fun _ _ _ _ _ => pg_name (i := 16) sc_law.nd rfl (.inl rfl)) (fun _ _ _ _ _ => (pts_one (pt_cmpR op_ne (pe_dget (room1 hr) (pv 11) (pv 16) (fun _ _ => rfl)) (pe_dget2 (room1 hr) (pe_ix (ix_tupK (K := K) rfl) (pv 9) pe_int (fun _ _ => rfl)) (pv 16) (pe_dget2 (room1 hr) (pv 7) (pv 16) pe_int ⟨rfl, rfl, rfl, rfl⟩) ⟨rfl, rfl, rfl, rfl⟩) (nomark _)))) (fun _ _ _ _ _ => (pv 16)))) (pe_lst pa_nil) (nomark _)) (pss_one (ps_ret pe_bl)) pss_nil) (pss_cons (ps_setLc (i := 14) (own := [("_law_entry", 15)]) (g := gName 15) (tt := tYes) rfl sc_law.nd rfl rfl (sw_true rfl rfl rfl (by decide +kernel)) (pi_list (pe_ix ix_tup (pv 9) pe_int (fun _ _ => rfl))) (blkOk_by (own := [("_law_entry", 15)]) (N := ["_law_script", "_law_h", "_law_names_here", "_law_one", "_law_two", "_law_both", "_law_time", "_law_inputs_here", "_law_first", "_law_second", "_law_told", "_law_ends", "_law_turns", "_law_entries", "_law_later", "_law_entry", "_law_name"]) (sc := defScope s_law) (by decide +kernel)) (fun _ _ _ _ _ => pg_name (i := 15) sc_law.nd rfl (.inl rfl)) (fun _ _ _ _ _ => pts_nil) (fun _ _ _ _ _ => (pe_op (op_catU (K := K) rfl) (pe_tup (pa_cons (pe_op (op_catU (K := K) rfl) (pe_tup (pa_cons (pe_op op_add (pe_ix (ix_tupK (K := K) rfl) (pe_ix (ix_tupK (K := K) rfl) (pv 15) pe_int (fun _ _ => rfl)) pe_int (fun _ _ => rfl)) (pe_callB (call_lenK (K := K) rfl) (by rfl) T.m_len (by decide +kernel) (pa_cons (pe_ix (ix_tupK (K := K) rfl) (pv 3) pe_int (fun _ _ => rfl)) pa_nil))) pa_nil)) (pe_slice (sl_tupU (K := K) rfl) (pe_ix (ix_tupK (K := K) rfl) (pv 15) pe_int (fun _ _ => rfl)) (po_some pe_int) po_none)) pa_nil)) (pe_slice (sl_tupU (K := K) rfl) (pv 15) (po_some pe_int) po_none)))) (pss_cons (ps_if (PW.pt (pw_or (pt_cmpR (op_neD hr.units) (pv 13) (pe_op op_cat (pe_ix ix_tup (pv 8) pe_int (fun _ _ => rfl)) (pv 14)) (nomark _)) (pw_or1 (pt_cmpR op_ne (pe_callB (cr_sum rfl) (by rfl) T.m_sum (by decide +kernel) (pa_cons (pe_lc (own := [("_law_entry", 15)]) (g := gName 15) (tt := tYes) rfl sc_law.nd (pi_list (pv 13)) (blkOk_by (own := [("_law_entry", 15)]) (N := ["_law_script", "_law_h", "_law_names_here", "_law_one", "_law_two", "_law_both", "_law_time", "_law_inputs_here", "_law_first", "_law_second", "_law_told", "_law_ends", "_law_turns", "_law_entries", "_law_later", "_law_entry", "_law_name"]) (sc := defScope s_law) (by decide +kernel)) (fun _ _ _ _ _ => pg_name (i := 15) sc_law.nd rfl (.inl rfl)) (fun _ _ _ _ _ => pts_nil) (fun _ _ _ _ _ => (pe_ix (ix_tupK (K := K) rfl) (pv 15) pe_int (fun _ _ => rfl)))) pa_nil)) (pv 12) (nomark _))))) (pss_one (ps_ret pe_bl)) pss_nil) (pss_cons (ps_if (pt_cmpR (op_neS hu0) (pe_call G_law_dry (hr.mono (by decide)) (by rfl) D_law_dry.g D_law_dry.F.kp D_law_dry.b .nil pass0 (pa_cons (pv 5) (pa_cons (pv 7) (pa_cons (pv 12) pa_nil)))) (pe_tup (pa_cons (pv 10) (pa_cons (pv 11) (pa_cons (pv 12) (pa_cons (pv 13) pa_nil))))) (nomark _)) (pss_one (ps_ret pe_bl)) pss_nil) (pss_one (ps_if (PW.pt (pw_and (pt_cmpR op_gt (pv 12) pe_int (nomark _)) (pw_and1 (pt_cmp (pc_notN (pe_call G_law_dry (hr.mono (by decide)) (by rfl) D_law_dry.g D_law_dry.F.kp D_law_dry.b .nil pass0 (pa_cons (pv 5) (pa_cons (pv 7) (pa_cons (pe_op op_sub (pv 12) pe_int) pa_nil))))) (by rfl))))) (pss_one (ps_ret pe_bl)) pss_nil)))))))) pss_nil))) pss_nil)))))
      (pss_one (ps_ret pe_bl))))))), ?_⟩
    refine ⟨_, rfl, a0, _, rfl, .inl hS, fun c hc => ⟨(by show 3 ≤ sizeLine; decide), fun h hh => ?_⟩⟩
    have A0 : HAt (upd (upd H c (.lst (ns.map V.int))) h (.lst [.int 139, .ref c, .int 0])) h c 139 0 ns := by
      have nhc : c ≠ h := ne_of_none upd_same hh
      exact ⟨upd_same, by rw [upd_ne nhc]; exact upd_same, hlen⟩
    refine ⟨_, rfl, h, c, _, _, _, rfl, A0, fun s2 k2 cs2 nm ln H3 nok A3 B3 nl nlh nlc el => ?_⟩
    have tx := texts_names nok
    have no : NsOk nm := ⟨nok.len, nok.nd⟩
    refine ⟨_, rfl, _, rfl, h, c, ln, _, _, _, nm, 0, true, rfl, by decide, A3, el, nlh, nlc, nok.len, tx, fun s4 k4 cs4 p1 r1 H4 A4 B4 R1 ok1 tm1 l16 l11 => ?_⟩
    have el4 := B4 _ _ el nlh nlc
    refine ⟨_, rfl, _, rfl, h, c, ln, _, _, _, nm, 0, true, rfl, by decide, A4, el4, nlh, nlc, nok.len, tx, fun s5 k5 cs5 p2 r2 H5 A5 B5 R2 ok2 tm2 l26 l21 => ?_⟩
    have el5 := B5 _ _ el4 nlh nlc
    have R1 := R1.stay (B5.tups A4)
    clear A0 A3 A4 B3 B4 B5 el el4
    refine ⟨(by show 2 ≤ sizeLine; decide), fun tp ntp => ⟨tp, _, rfl, SqT.of upd_same, rfl, _, _, rfl, _, _, rfl, rfl, ?_⟩⟩
    have st := same_upd (o := .tup [.ref p1, .ref p2]) ntp
    have R1 := R1.stay (TupsStay.same st)
    have R2 := R2.stay (TupsStay.same st)
    have A6 := A5.same st
    have el6 := st _ _ el5
    obtain ⟨pt, qs, w1, w2, w3⟩ := id R1
    obtain ⟨pu, qu, v1, v2, v3⟩ := id R2
    have e1 := w3.len
    have e2 := v3.len
    refine ⟨_, rfl, p1, _, _, _, rfl, rfl, w1, atI_nat (j := 1) rfl, _, rfl, p2, _, _, _, rfl, rfl, v1, atI_nat (j := 1) rfl, pt, pu, _, _, rfl, rfl, w2, v2, ?_, ?_, ?_⟩
    · intro z0
      have z1 := congrArg List.length z0
      rw [List.length_map, e1] at z1
      have z2 : lenR r1 = 0 := z1
      omega
    · rw [List.length_map, e1, List.length_map, e2, sizeLine_eq]
      omega
    refine ⟨fun z0 => ?_, fun _ pq npq => ⟨(by show 2 ≤ sizeLine; decide), fun pb np => ?_⟩⟩
    · have z1 := congrArg List.length z0
      rw [List.length_map, e2] at z1
      have z2 : lenR r2 = 0 := z1
      omega
    have g1 := same_upd (o := .tup (qs.map V.ref ++ qu.map V.ref)) npq
    have g2 := same_upd (o := .tup [.str "row", .ref pq]) np
    have g12 := g1.trans g2
    have Rb : RwAt K _ pb (appR r1 r2) := ⟨pq, qs ++ qu, SqT.of upd_same, by rw [List.map_append]; exact SqT.keeps (SqT.of upd_same) (TupsStay.same g2), StsAt.app (v3.stay (TupsStay.same g12)) (w3.stay (TupsStay.same g12))⟩
    have R1 := R1.stay (TupsStay.same g12)
    have R2 := R2.stay (TupsStay.same g12)
    have A7 := A6.same g12
    have el7 := g12 _ _ el6
    have okb : RwOk nm (appR r1 r2) 3 := RwOk.app ok2 ok1
    have tmb : RwT nm (appR r1 r2) := RwT.app tm2 tm1
    have lb : lenR (appR r1 r2) ≤ 12 := by rw [lenR_app]; omega
    generalize upd (upd _ pq _) pb _ = H7 at *
    clear w1 w2 w3 v1 v2 v3 e1 e2 g1 g2 g12 np npq st ntp A5 A6 el5 el6
    refine ⟨3, rfl, by decide, by decide, for_range (lo := 0) (n := 3) (fun i σ H8 => ∃ (x6 x7 x8 x9 x10 x11 x12 x13 x14 x15 x16 : Option V) (s k : Int) (cs : List Int), σ = [some (.ref a0), some (.ref h), some (.ref ln), some (.ref p1), some (.ref p2), some (.ref pb), x6, x7, x8, x9, x10, x11, x12, x13, x14, x15, x16] ∧ HAt H8 h c s k cs ∧ TupsStay H7 H8 ∧ H8 ln = some (.lst (nm.map V.str)))
      ⟨none, none, none, none, none, none, none, none, none, none, none, _, _, _, rfl, A7, .refl _, el7⟩ (fun i σ H8 hi h8 => ?_) (fun σ H8 h8 => q H8)⟩
    obtain ⟨x6, x7, x8, x9, x10, x11, x12, x13, x14, x15, x16, s8, k8, cs8, rfl, A8, t7, el8⟩ := h8
    have t8 := t7
    have R1 := R1.stay t8
    have R2 := R2.stay t8
    have Rb := Rb.stay t8
    clear t8
    refine ⟨_, rfl, _, rfl, h, c, ln, _, _, _, nm, rfl, A8, el8, nlh, nlc, nok.len, fun s9 k9 cs9 d L H9 A9 B9 nd9 ed9 po => ?_⟩
    have t9 := B9.tups A8
    have el9 := B9 _ _ el8 nlh nlc
    have R1 := R1.stay t9
    have R2 := R2.stay t9
    have Rb := Rb.stay t9
    have z0 : ∀ {r : Rw} {most : Nat}, lenR r ≤ 12 → St0 nm 12 most 0 (lenR r) L := fun l => ⟨po.nd, po.of, Pt.zero po l⟩
    have fin : ∀ {x6 x7 x8 x9 x10 x11 x12 x13 x14 x15 x16 : Option V} {Hx : Hp}, Same H9 Hx → ∃ (y6 y7 y8 y9 y10 y11 y12 y13 y14 y15 y16 : Option V) (s k : Int) (cs : List Int), [some (.ref a0), some (.ref h), some (.ref ln), some (.ref p1), some (.ref p2), some (.ref pb), x6, x7, x8, x9, x10, x11, x12, x13, x14, x15, x16] = [some (.ref a0), some (.ref h), some (.ref ln), some (.ref p1), some (.ref p2), some (.ref pb), y6, y7, y8, y9, y10, y11, y12, y13, y14, y15, y16] ∧ HAt Hx h c s k cs ∧ TupsStay H7 Hx ∧ Hx ln = some (.lst (nm.map V.str)) := fun {_ _ _ _ _ _ _ _ _ _ _ Hx} u => ⟨_, _, _, _, _, _, _, _, _, _, _, _, _, _, rfl, A9.same u, (t7.trans t9).trans (TupsStay.same u), u _ _ el9⟩
    refine ⟨_, rfl, _, rfl, p1, d, L, nm, 12, 2000, 0, r1, rfl, R1, ok1, tm1, by omega, no, ed9, z0 (by omega), by decide, fun s1 Ha q1 nd1 td1 ed1 L1 e1 T1 pt1 f1 f2 f3 u1 => ?_, fun e1 Ha u1 => ?_⟩
    rotate_left
    · refine ⟨_, rfl, _, rfl, ite2 (fun c => absurd c (by decide)) (fun _ => fin u1)⟩
    refine ⟨_, rfl, _, rfl, ite2 (fun _ => ?_) (fun c => absurd (by rfl) c)⟩
    obtain ⟨n1, pt1⟩ := pt1
    have b1 : n1 ≤ 16012 := by
      have a := pt1.pot
      have b := pt1.tm
      omega
    have st1 : St0 nm (n1 + lenR r2) 2000 n1 (lenR r2) L1 := by
      refine ⟨T1.nd, fun e he => ?_, ⟨?_, Nat.zero_le _, Nat.zero_le _, ?_, Nat.zero_le _⟩⟩
      · rcases (T1.ky e.1).mp (List.mem_map_of_mem he) with k | k
        · obtain ⟨f, hf, ef⟩ := List.mem_map.mp k
          rw [← ef]
          exact po.of f hf
        · exact namesR_in ok1 _ k
      · have ev : expo L1 = s1.v := funext T1.vv
        show Bd nm n1 (expo L1)
        rw [ev]
        exact pt1.bd
      · show n1 + lenR r2 ≤ n1 + lenR r2 + 8 * 0
        omega
    refine ⟨_, rfl, _, rfl, q1, _, _, _, rfl, rfl, T1.q, atI_nat (j := 1) rfl, p2, nd1, L1, nm, n1 + lenR r2, 2000, n1, r2, rfl, R2.stay (TupsStay.same u1), ok2, tm2, by omega, no, T1.nm, st1, by omega, fun s2 Hb q2 nd2 td2 ed2 L2 e2 T2 pt2 g1 g2 g3 u2 => ?_, fun e2 Hb u2 => ?_⟩
    rotate_left
    · refine ⟨_, rfl, _, rfl, ite2 (fun c => absurd c (by decide)) (fun _ => fin (u1.trans u2))⟩
    refine ⟨_, rfl, _, rfl, ite2 (fun _ => ?_) (fun c => absurd (by rfl) c)⟩
    obtain ⟨n2, pt2⟩ := pt2
    have l1 := pt1.tm
    have l2 := pt2.tm
    have e3 := doR_two (m3 := 4000) e1 T1.vv e2 (by omega)
    have u12 := u1.trans u2
    refine ⟨_, rfl, _, rfl, pb, d, L, nm, 12, 4000, 0, appR r1 r2, rfl, Rb.stay (TupsStay.same u12), okb, tmb, lb, no, u12 _ _ ed9, z0 lb, by decide, fun s3 Hc q3 nd3 td3 ed3 L3 e3' T3 pt3 h1 h2 h3 u3 => ?_, fun e3' => absurd (e3.symm.trans e3') (by intro z; cases z)⟩
    have e3s : s3 = preR s1.told s1.turns s1.ents (lenR r1) s2 := Option.some.inj (e3'.symm.trans e3)
    obtain ⟨n3, pt3⟩ := pt3
    have g2nm := T2.nm
    have T1 := (T1.same u2).same u3
    have T2 := T2.same u3
    have u13 := u12.trans u3
    refine ⟨q3, _, rfl, T3.q, rfl, _, _, rfl, _, _, rfl, _, _, rfl, _, _, rfl, rfl, ?_⟩
    -- what was told, how many turns
    have vt : s3.told = s1.told ++ s2.told := by rw [e3s]; rfl
    have vn : s3.turns = s1.turns + s2.turns := by rw [e3s]; rfl
    have ve : s3.ents = s1.ents ++ s2.ents.map (shE (lenR r1)) := by rw [e3s]; rfl
    have vv : s3.v = s2.v := by rw [e3s]; rfl
    have lt1 : s1.told.length + s2.told.length ≤ 100000 := by
      have a := pt1.tl
      have b := pt2.tl
      have c := pt2.pot
      omega
    have le1 : s1.ents.length + s2.ents.length ≤ 100000 := by
      have a := pt1.el
      have b := pt2.el
      have c := pt2.pot
      omega
    have le3 : s3.ents.length ≤ 100000 := by
      rw [ve, List.length_append, List.length_map]
      exact le1
    refine ⟨_, rfl, _, rfl, q1, _, _, _, rfl, rfl, T1.q, atI_nat (j := 0) rfl, _, rfl, q2, _, _, _, rfl, rfl, T2.q, atI_nat (j := 0) rfl, td1, td2, _, _, rfl, rfl, T1.tl, T2.tl, by rw [List.length_map, List.length_map, sizeLine_eq]; omega, fun pc npc => ?_⟩
    have uc : Same Hc (upd Hc pc (.lst (s1.told.map V.int ++ s2.told.map V.int))) := same_upd npc
    have T3 := T3.same uc
    have T1 := T1.same uc
    have T2 := T2.same uc
    have ec : upd Hc pc (.lst (s1.told.map V.int ++ s2.told.map V.int)) pc = some (.lst (s3.told.map V.int)) := by rw [upd_same, vt, List.map_append]
    have u14 := u13.trans uc
    generalize upd Hc pc (.lst (s1.told.map V.int ++ s2.told.map V.int)) = Hd at *
    refine ⟨_, _, Dp.lst (SqL.of T3.tl) (dpInts _), Dp.lst (SqL.of ec) (dpInts _), shapedInts _, shapedInts _, _, rfl, ite2 (fun c => ?_) (fun _ => ?_)⟩
    · rw [eqvInts] at c
      exact absurd c (by decide)
    refine ⟨_, rfl, _, rfl, q1, _, _, _, rfl, rfl, T1.q, atI_nat (j := 2) rfl, _, rfl, q2, _, _, _, rfl, rfl, T2.q, atI_nat (j := 2) rfl, _, _, rfl, rfl, rfl, _, rfl, ite2 (fun c => ?_) (fun _ => ?_)⟩
    · have : (V.int (s3.turns : Int)) = V.int ((s1.turns : Int) + (s2.turns : Int)) := by rw [vn]; rfl
      rw [decide_eq_true this] at c
      exact absurd c (by decide)
    clear ec uc npc
    -- the names at the end
    have dif23 : nd2 ≠ nd3 := ne_of_none g2nm h1
    have dif3 : d ≠ nd3 := ne_of_none (u12 _ _ ed9) h1
    refine ⟨nd3, _, T3.nm, True.intro, fun od => ?_⟩
    have uf : ∀ {b : Addr} {o : HO}, b ≠ nd3 → Hd b = some o → (upd Hd nd3 (.frz od (.dK (dSI L3)))) b = some o := fun n e => by rw [upd_ne n]; exact e
    refine ⟨_, rfl, nd3, od, rfl, .inl ⟨_, upd_same, fun D0 nD0 => lc_keysP (fun i Hx => Hx D0 = some (.lst []) ∧ Same (upd Hd nd3 (.frz od (.dK (dSI L3)))) Hx) ⟨upd_same, same_upd nD0⟩ (fun i Hx _ h => h.2 _ _ upd_same) (fun i k v Hx hk hx => ?_) (fun Hx hx => ?_)⟩⟩
    · obtain ⟨hx1, hx2⟩ := hx
      obtain ⟨x, hx3, rfl⟩ : ∃ x, x ∈ L3.map (·.1) ∧ k = .inr x := by
        unfold dSI at hk
        rw [List.getElem?_map] at hk
        cases e : L3[i]? with
        | none =>
          rw [e] at hk
          cases hk
        | some f =>
          rw [e] at hk
          injection hk with hk
          injection hk with hk _
          exact ⟨f.1, List.mem_map_of_mem (List.mem_of_getElem? e), hk.symm⟩
      have hx4 : x ∈ L2.map (·.1) := by
        rw [T2.ky]
        rcases (T3.ky x).mp hx3 with z | z
        · exact .inl ((T1.ky x).mpr (.inl z))
        · rcases (namesR_app r2 x r1).mp z with z | z
          · exact .inl ((T1.ky x).mpr (.inr z))
          · exact .inr z
      have n23 : nd2 ≠ nd3 := dif23
      have gx3 : DGet Hx nd3 (.str x) (some (.int (expo L3 x))) := .inl ⟨dSI L3, .inr x, .inr ⟨od, hx2 _ _ upd_same⟩, rfl, (valV_some T3.nd hx3).symm⟩
      have e2x := hx2 _ _ (uf n23 T2.nm)
      have e1x := hx2 _ _ (uf dif3 (u14 _ _ ed9))
      have gx2 : DGet Hx nd2 (.str x) (some (.int (expo L2 x))) := by
        have z := DGet.k (k := .inr x) e2x
        rw [valV_some T2.nd hx4] at z
        exact z
      have tq2 := SqT.keeps T2.q ((TupsStay.upd T3.nm True.intro).trans (TupsStay.same hx2))
      have ev : expo L3 x = expo L2 x := by rw [T3.vv, T2.vv, vv]
      refine ⟨rfl, _, rfl, _, rfl, nd3, _, rfl, gx3, _, rfl, q2, _, _, _, rfl, rfl, tq2, atI_nat (j := 1) rfl, nd2, rfl, .inl ⟨_, .inl e2x⟩, _, rfl, _, rfl, d, rfl, .inl ⟨_, .inl e1x⟩, _, rfl, _, DGet.k (k := .inr x) e1x, _, gx2, rfl, ?_⟩
      have eb : (!decide (V.int (expo L3 x) = V.int (expo L2 x))) = false := by rw [ev]; simp
      refine ⟨_, rfl, ite2 (fun c => ?_) (fun _ => ⟨hx1, hx2⟩)⟩
      have c : (!decide (V.int (expo L3 x) = V.int (expo L2 x))) = true := c
      rw [eb] at c
      exact absurd c (by decide)
    obtain ⟨hx1, hx2⟩ := hx
    refine ⟨hx2 _ _ upd_same, (by show 0 ≤ sizeLine; decide), fun le nle => ?_⟩
    have nD3 : D0 ≠ nd3 := (ne_of_none upd_same nD0).symm
    have uE : Same Hd (upd Hx nd3 (.dK (dSI L3))) := fun b o e => by
      by_cases zb : b = nd3
      · rw [zb, upd_same, ← T3.nm, ← zb]
        exact e
      · rw [upd_ne zb]
        exact hx2 _ _ (uf zb e)
    have eD : (upd Hx nd3 (.dK (dSI L3))) D0 = some (.lst []) := by rw [upd_ne nD3]; exact hx1
    have ul : Same (upd Hx nd3 (.dK (dSI L3))) (upd (upd Hx nd3 (.dK (dSI L3))) le (.lst [])) := same_upd nle
    refine ⟨_, _, Dp.lst (SqL.of (ul _ _ eD)) .nil, Dp.lst (SqL.of upd_same) .nil, by decide, by decide, _, rfl, ite2 (fun c => absurd c (by decide)) (fun _ => ?_)⟩
    have uE2 := uE.trans ul
    have T1 := T1.same uE2
    have T2 := T2.same uE2
    have T3 := T3.same uE2
    have u15 := u14.trans uE2
    clear dif23 dif3 g2nm uf
    generalize upd (upd Hx nd3 (.dK (dSI L3))) le (.lst []) = He at *
    -- the entries of the second one, further on
    obtain ⟨es1, ee1, pe1⟩ := T1.en
    obtain ⟨es2, ee2, pe2⟩ := T2.en
    obtain ⟨es3, ee3, pe3⟩ := T3.en
    have pn2 : PlNe s2.ents := (doR_sum r2 [] 0 _ s2 e2).2 (fun _ h => nomatch h)
    have pb2 : PlB 3 s2.ents := doR_plb r2 ok2 [] 0 _ s2 (by decide) e2 (fun _ h => nomatch h)
    have R1e := R1.stay (TupsStay.same u15)
    obtain ⟨pt, qs, w1, w2, w3⟩ := R1e
    refine ⟨_, rfl, q2, _, _, _, rfl, rfl, T2.q, atI_nat (j := 3) rfl, ed2, rfl, ⟨_, SqL.of ee2⟩, fun D nD => lc_list (K := K) (a := ed2) (xs := es2.map V.ref) (fun i Hx => ∃ es' : List Addr, Hx D = some (.lst (es'.map V.ref)) ∧ Paired (EntAt K Hx) es' ((s2.ents.take i).map (shE (lenR r1))) ∧ Same He Hx)
      ⟨[], upd_same, by rw [List.take_zero]; exact .nil, same_upd nD⟩ (fun i Hx _ ⟨_, _, _, u⟩ => SqL.of (u _ _ ee2)) (fun i x Hx hx ⟨es', d1, d2, d3⟩ => ?_) (fun Hx ⟨es', d1, d2, d3⟩ => ?_)⟩
    · obtain ⟨e, he, rfl⟩ : ∃ e, es2[i]? = some e ∧ x = V.ref e := by
        rw [List.getElem?_map] at hx
        cases ee : es2[i]? with
        | none =>
          rw [ee] at hx
          cases hx
        | some y =>
          rw [ee] at hx
          exact ⟨y, rfl, (Option.some.inj hx).symm⟩
      obtain ⟨xe, hxe, pa, hE, hP⟩ := paired_get pe2 he
      obtain ⟨xp, xm, xc⟩ := xe
      have nex : xp ≠ [] := pn2 _ (List.mem_of_getElem? hxe)
      obtain ⟨a, rr, rfl⟩ : ∃ a rr, xp = a :: rr := by
        cases xp with
        | nil => exact absurd rfl nex
        | cons a rr => exact ⟨a, rr, rfl⟩
      have hEx := SqT.keeps hE (TupsStay.same d3)
      have hPx := SqT.keeps hP (TupsStay.same d3)
      have w1x := SqT.keeps w1 (TupsStay.same d3)
      have w2x := SqT.keeps w2 (TupsStay.same d3)
      have lq : (qs.map V.ref).length = lenR r1 := by rw [List.length_map, w3.len]
      refine ⟨rfl, _, rfl, e, _, _, _, rfl, rfl, hEx, atI_nat (j := 0) rfl, pa, _, _, _, rfl, rfl, hPx, atI_nat (j := 0) rfl, _, rfl, p1, _, _, _, rfl, rfl, w1x, atI_nat (j := 1) rfl, pt, _, rfl, .inr w2x, _, _, rfl, rfl, (by show 1 ≤ sizeLine; decide), fun t1 n1 => ?_⟩
      have c1 : Same Hx (upd Hx t1 (.tup [.int ((a : Int) + ((qs.map V.ref).length : Int))])) := same_upd n1
      have hE1 := SqT.keeps hEx (TupsStay.same c1)
      have hP1 := SqT.keeps hPx (TupsStay.same c1)
      have ht1 : SqT K (upd Hx t1 (.tup [.int ((a : Int) + ((qs.map V.ref).length : Int))])) t1 [.int ((a : Int) + ((qs.map V.ref).length : Int))] := SqT.of upd_same
      have hP1' : SqT K (upd Hx t1 (.tup [.int ((a : Int) + ((qs.map V.ref).length : Int))])) pa (.int (a : Int) :: placeV rr) := hP1
      generalize upd Hx t1 (.tup [.int ((a : Int) + ((qs.map V.ref).length : Int))]) = H1x at *
      refine ⟨_, rfl, e, _, _, _, rfl, rfl, hE1, atI_nat (j := 0) rfl, (1 : Int), rfl, pa, _, rfl, hP1', fun p2x H2x f1 c2 => ?_⟩
      rw [cut_tail] at f1
      have lrr : rr.length ≤ 3 := by
        have := pb2 _ (List.mem_of_getElem? hxe)
        have : rr.length + 1 ≤ 3 := this
        omega
      have lpl : (placeV rr).length = rr.length := List.length_map ..
      refine ⟨t1, p2x, _, _, rfl, rfl, SqT.keeps ht1 (TupsStay.same c2), f1, by rw [lpl, List.length_singleton, sizeLine_eq]; omega, fun t3 H3x f3 c3 => ?_⟩
      refine ⟨(by show 1 ≤ sizeLine; decide), fun t4 n4 => ?_⟩
      have c4 : Same H3x (upd H3x t4 (.tup [.ref t3])) := same_upd n4
      have ht4 : SqT K (upd H3x t4 (.tup [.ref t3])) t4 [.ref t3] := SqT.of upd_same
      have f4 := SqT.keeps f3 (TupsStay.same c4)
      have hE4 : SqT K (upd H3x t4 (.tup [.ref t3])) e (.ref pa :: [.int xm, .int (xc : Int)]) := SqT.keeps hE1 (TupsStay.same ((c2.trans c3).trans c4))
      have c14 := (c1.trans (c2.trans c3)).trans c4
      generalize upd H3x t4 (.tup [.ref t3]) = H4x at *
      refine ⟨_, rfl, (1 : Int), rfl, e, _, rfl, hE4, fun p5 H5x f5 c5 => ?_⟩
      rw [cut_tail] at f5
      refine ⟨t4, p5, _, _, rfl, rfl, SqT.keeps ht4 (TupsStay.same c5), f5, by show 1 + 2 ≤ sizeLine; decide, fun t6 H6x f6 c6 => ?_⟩
      have c16 := (c14.trans c5).trans c6
      have d1x := c16 _ _ d1
      have le6 := paired_len d2
      have tk : (s2.ents.take (i + 1)).map (shE (lenR r1)) = (s2.ents.take i).map (shE (lenR r1)) ++ [shE (lenR r1) (a :: rr, xm, xc)] := by
        rw [List.take_add_one, hxe]
        simp
      have l2e : s2.ents.length ≤ 100000 := by omega
      have lt_ : ((s2.ents.take i).map (shE (lenR r1))).length ≤ 100000 := by
        rw [List.length_map, List.length_take]
        omega
      have tt : TupsStay H6x (upd H6x D (.lst (es'.map V.ref ++ [.ref t6]))) := .upd d1x True.intro
      refine ⟨_, d1x, by rw [List.length_map, le6, sizeLine_eq]; omega, es' ++ [t6], by rw [upd_same, List.map_append]; rfl, ?_, fun b o e => ?_⟩
      · rw [tk]
        refine Paired.snoc ?_ (Paired.mapP d2 fun _ _ z => (z.stay (TupsStay.same c16)).stay tt)
        refine ⟨t3, SqT.keeps f6 tt, ?_⟩
        have f7 := SqT.keeps (SqT.keeps f4 (TupsStay.same (c5.trans c6))) tt
        rw [lq] at f7
        exact f7
      · have nb : b ≠ D := ne_of_none e nD
        rw [upd_ne nb]
        exact c16 _ _ (d3 _ _ e)
    rw [List.length_map, paired_len pe2, List.take_length] at d2
    have T1 := T1.same d3
    have T3 := T3.same d3
    have ee1 := d3 _ _ ee1
    have ee3 := d3 _ _ ee3
    have pe1 := Paired.mapP pe1 fun _ _ z => z.stay (TupsStay.same d3)
    have pe3 := Paired.mapP pe3 fun _ _ z => z.stay (TupsStay.same d3)
    have u16 := u15.trans d3
    have ld := paired_len d2
    rw [List.length_map] at ld
    have l1e := paired_len pe1
    refine ⟨_, rfl, _, rfl, q1, _, _, _, rfl, rfl, T1.q, atI_nat (j := 3) rfl, _, rfl, ed1, D, _, _, rfl, rfl, ee1, d1, by rw [List.length_map, List.length_map, l1e, ld, sizeLine_eq]; omega, fun pc npc => ?_⟩
    have uc : Same Hx (upd Hx pc (.lst (es1.map V.ref ++ es'.map V.ref))) := same_upd npc
    have T1 := T1.same uc
    have T3 := T3.same uc
    have ee3 := uc _ _ ee3
    have pe3 := Paired.mapP pe3 fun _ _ z => z.stay (TupsStay.same uc)
    have pec : Paired (EntAt K (upd Hx pc (.lst (es1.map V.ref ++ es'.map V.ref)))) (es1 ++ es') s3.ents := by
      rw [ve]
      exact paired_app (Paired.mapP pe1 fun _ _ z => z.stay (TupsStay.same uc)) (Paired.mapP d2 fun _ _ z => z.stay (TupsStay.same uc))
    have ec : (upd Hx pc (.lst (es1.map V.ref ++ es'.map V.ref))) pc = some (.lst ((es1 ++ es').map V.ref)) := by rw [upd_same, List.map_append]
    have u17 := u16.trans uc
    generalize upd Hx pc (.lst (es1.map V.ref ++ es'.map V.ref)) = Hf at *
    refine ⟨_, _, Dp.lst (SqL.of ee3) (dpEnts pe3), Dp.lst (SqL.of ec) (dpEnts pec), shapedEnts _, shapedEnts _, _, rfl, ite2 (fun c => ?_) (fun _ => ?_)⟩
    · rw [eqvEnts] at c
      exact absurd c (by decide)
    clear ec pec d1 d2 ee1 pe1 npc uc nD
    have l3e := paired_len pe3
    refine ⟨_, rfl, ed3, rfl, ⟨_, SqL.of ee3⟩, fun D2 nD2 => lc_list (K := K) (a := ed3) (xs := es3.map V.ref) (fun i Hx => Hx D2 = some (.lst (((s3.ents.take i).map fun x => ((x.2.2 : Nat) : Int)).map V.int)) ∧ Same Hf Hx)
      ⟨by rw [List.take_zero]; exact upd_same, same_upd nD2⟩ (fun i Hx _ ⟨_, u⟩ => SqL.of (u _ _ ee3)) (fun i x Hx hx ⟨d1, d3⟩ => ?_) (fun Hx ⟨d1, d3⟩ => ?_)⟩
    · obtain ⟨e, he, rfl⟩ : ∃ e, es3[i]? = some e ∧ x = V.ref e := by
        rw [List.getElem?_map] at hx
        cases ee : es3[i]? with
        | none =>
          rw [ee] at hx
          cases hx
        | some y =>
          rw [ee] at hx
          exact ⟨y, rfl, (Option.some.inj hx).symm⟩
      obtain ⟨xe, hxe, pa, hE, hP⟩ := paired_get pe3 he
      refine ⟨rfl, _, rfl, e, _, _, _, rfl, rfl, SqT.keeps hE (TupsStay.same d3), atI_nat (j := 2) rfl, _, d1, by rw [List.length_map, List.length_map, List.length_take, sizeLine_eq]; omega, ?_, fun b o e => ?_⟩
      · rw [upd_same, List.take_add_one, hxe]
        simp
      · rw [upd_ne (ne_of_none e nD2)]
        exact d3 _ _ e
    rw [List.length_map, l3e, List.take_length] at d1
    have sm : (s3.ents.map fun x => ((x.2.2 : Nat) : Int)).sum = (s3.turns : Int) := by
      have a := (doR_sum (appR r1 r2) [] 0 _ s3 e3').1
      have a : sumE s3.ents + 0 = 0 + s3.turns := a
      rw [sum_cast]
      have b : (s3.ents.map fun x => x.2.2).sum = sumE s3.ents := rfl
      rw [b]
      omega
    refine ⟨D2, _, rfl, SqL.of d1, _, rfl, rfl, _, rfl, ite2 (fun c => ?_) (fun _ => ?_)⟩
    · rw [sm, decide_eq_true rfl] at c
      exact absurd c (by decide)
    have T3 := T3.same d3
    have u18 := u17.trans d3
    clear d1
    -- as many turns as it wants, and one less
    have e4 := (doR_more (most' := s3.turns) (appR r1 r2) [] 0 _ s3 e3').2 (Nat.le_refl _)
    have l3 := pt3.tm
    refine ⟨_, rfl, _, rfl, _, rfl, pb, d, L, nm, 12, s3.turns, 0, appR r1 r2, rfl, Rb.stay (TupsStay.same u18), okb, tmb, lb, no, u18 _ _ ed9, z0 lb, by omega, fun s4 Hg q4 nd4 td4 ed4 L4 e4' T4 pt4 j1 j2 j3 u4 => ?_, fun e4' => absurd (e4.symm.trans e4') (by intro z; cases z)⟩
    obtain rfl : s3 = s4 := Option.some.inj (e4.symm.trans e4')
    have T3 := T3.same u4
    refine ⟨_, rfl, _, rfl, _, rfl, _, rfl, (by show 4 ≤ sizeLine; decide), fun tq ntq => ?_⟩
    have uq := same_upd (o := .tup [.ref td3, .ref nd3, .int (s3.turns : Int), .ref ed3]) ntq
    have T3 := T3.same uq
    have T4 := T4.same uq
    obtain ⟨es4, ee4, pe4⟩ := T4.en
    obtain ⟨es5, ee5, pe5⟩ := T3.en
    have dd := dicts_same T4.nd T3.nd (fun x => by rw [T4.ky, T3.ky]) (fun x => by rw [T4.vv, T3.vv])
    refine ⟨q4, tq, _, _, rfl, rfl, T4.q, SqT.of upd_same, .cons (.inl ⟨_, Dp.lst (SqL.of T4.tl) (dpInts _), Dp.lst (SqL.of T3.tl) (dpInts _), shapedInts _⟩) (.cons (.inr ⟨nd4, nd3, _, _, rfl, rfl, T4.nm, T3.nm, dd.1, dd.2⟩) (.cons (.inl ⟨_, .int _, .int _, by rfl⟩) (.cons (.inl ⟨_, Dp.lst (SqL.of ee4) (dpEnts pe4), Dp.lst (SqL.of ee5) (dpEnts pe5), shapedEnts _⟩) .nil))), _, rfl, ite2 (fun c => absurd c (by decide)) (fun _ => ?_)⟩
    have u19 := (u18.trans u4).trans uq
    refine ⟨_, rfl, _, _, rfl, rfl, _, rfl, ite2 (fun c0 => ?_) (fun _ => fin u19)⟩
    have pos : 1 ≤ s3.turns := by
      have := of_decide_eq_true c0
      omega
    have e5 : doR (s3.turns - 1) (appR r1 r2) [] 0 (s0R L) = none := doR_few e3' (by omega) (fun s'' e => by
      obtain ⟨⟨n, pt⟩, _⟩ := doR_pt no (appR r1 r2) okb tmb [] 0 0 0 (s0R L) s'' (by rw [Nat.zero_add]; exact (z0 (most := s3.turns - 1) lb).pt) e
      exact pt.tm) l3
    refine ⟨_, rfl, _, rfl, _, rfl, _, _, rfl, rfl, pb, d, L, nm, 12, s3.turns - 1, 0, appR r1 r2, ?_, Rb.stay (TupsStay.same u19), okb, tmb, lb, no, u19 _ _ ed9, z0 lb, by omega, fun s5 Hh q5 nd5 td5 ed5 L5 e5' => absurd (e5.symm.trans e5') (by intro z; cases z), fun _ Hh u5 => ?_⟩
    · have : (s3.turns : Int) - 1 = ((s3.turns - 1 : Nat) : Int) := by omega
      show [V.ref pb, V.ref d, V.int ((s3.turns : Int) - 1)] = _
      rw [this]
    · exact ⟨_, rfl, ite2 (fun c => absurd c (by decide)) (fun _ => fin (u19.trans u5))⟩
end
set_option maxHeartbeats 4000000 in
theorem all_mk {l : PySem.W.OpenLaw} {w : World} {K : PySem.W.Frag} {h : Heap} {mg : Str → Option Value} {fa : Addr} (X : K.In h) (G : h.Ns mainGlobals mg) (hfa : mg "law" = some (.ref fa))
    {f0 : Addr} {od0 an0 : Option Addr} {sl0 : Array (Option Value)} {oc0 kV0 dc0 pm0 cd0 ct0 : Value}
    (a0 : PySem.W.nsIn K mainGlobals "names_of" = some (some (.ref f0))) (l0 : K.lookup f0 = some ⟨oc0, od0, .func (PySem.W.fnOf "names_of" "names_of" (defArgs s_names_of) (defBody s_names_of) (defScope s_names_of) .none kV0 dc0 pm0 an0 cd0 ct0), sl0⟩) (c0 : PySem.W.codeIn K cd0 "names_of" = true) (k0 : PySem.W.keepIn K (.ref f0) = true)
    {f1 : Addr} {od1 an1 : Option Addr} {sl1 : Array (Option Value)} {oc1 kV1 dc1 pm1 cd1 ct1 : Value}
    (a1 : PySem.W.nsIn K mainGlobals "_find_in_row" = some (some (.ref f1))) (l1 : K.lookup f1 = some ⟨oc1, od1, .func (PySem.W.fnOf "_find_in_row" "_find_in_row" (defArgs s_find_in_row) (defBody s_find_in_row) (defScope s_find_in_row) .none kV1 dc1 pm1 an1 cd1 ct1), sl1⟩) (c1 : PySem.W.codeIn K cd1 "_find_in_row" = true) (k1 : PySem.W.keepIn K (.ref f1) = true)
    {f2 : Addr} {od2 an2 : Option Addr} {sl2 : Array (Option Value)} {oc2 kV2 dc2 pm2 cd2 ct2 : Value}
    (a2 : PySem.W.nsIn K mainGlobals "_find_in_expression" = some (some (.ref f2))) (l2 : K.lookup f2 = some ⟨oc2, od2, .func (PySem.W.fnOf "_find_in_expression" "_find_in_expression" (defArgs s_find_in_expression) (defBody s_find_in_expression) (defScope s_find_in_expression) .none kV2 dc2 pm2 an2 cd2 ct2), sl2⟩) (c2 : PySem.W.codeIn K cd2 "_find_in_expression" = true) (k2 : PySem.W.keepIn K (.ref f2) = true)
    {f3 : Addr} {od3 an3 : Option Addr} {sl3 : Array (Option Value)} {oc3 kV3 dc3 pm3 cd3 ct3 : Value}
    (a3 : PySem.W.nsIn K mainGlobals "ran" = some (some (.ref f3))) (l3 : K.lookup f3 = some ⟨oc3, od3, .func (PySem.W.fnOf "ran" "ran" (defArgs s_ran) (defBody s_ran) (defScope s_ran) .none kV3 dc3 pm3 an3 cd3 ct3), sl3⟩) (c3 : PySem.W.codeIn K cd3 "ran" = true) (k3 : PySem.W.keepIn K (.ref f3) = true)
    {f4 : Addr} {od4 an4 : Option Addr} {sl4 : Array (Option Value)} {oc4 kV4 dc4 pm4 cd4 ct4 : Value}
    (a4 : PySem.W.nsIn K mainGlobals "_do_row" = some (some (.ref f4))) (l4 : K.lookup f4 = some ⟨oc4, od4, .func (PySem.W.fnOf "_do_row" "_do_row" (defArgs s_do_row) (defBody s_do_row) (defScope s_do_row) .none kV4 dc4 pm4 an4 cd4 ct4), sl4⟩) (c4 : PySem.W.codeIn K cd4 "_do_row" = true) (k4 : PySem.W.keepIn K (.ref f4) = true)
    {f5 : Addr} {od5 an5 : Option Addr} {sl5 : Array (Option Value)} {oc5 kV5 dc5 pm5 cd5 ct5 : Value}
    (a5 : PySem.W.nsIn K mainGlobals "_do_lap" = some (some (.ref f5))) (l5 : K.lookup f5 = some ⟨oc5, od5, .func (PySem.W.fnOf "_do_lap" "_do_lap" (defArgs s_do_lap) (defBody s_do_lap) (defScope s_do_lap) .none kV5 dc5 pm5 an5 cd5 ct5), sl5⟩) (c5 : PySem.W.codeIn K cd5 "_do_lap" = true) (k5 : PySem.W.keepIn K (.ref f5) = true)
    {f6 : Addr} {od6 an6 : Option Addr} {sl6 : Array (Option Value)} {oc6 kV6 dc6 pm6 cd6 ct6 : Value}
    (a6 : PySem.W.nsIn K mainGlobals "_reckoned" = some (some (.ref f6))) (l6 : K.lookup f6 = some ⟨oc6, od6, .func (PySem.W.fnOf "_reckoned" "_reckoned" (defArgs s_reckoned) (defBody s_reckoned) (defScope s_reckoned) .none kV6 dc6 pm6 an6 cd6 ct6), sl6⟩) (c6 : PySem.W.codeIn K cd6 "_reckoned" = true) (k6 : PySem.W.keepIn K (.ref f6) = true)
    {f7 : Addr} {od7 an7 : Option Addr} {sl7 : Array (Option Value)} {oc7 kV7 dc7 pm7 cd7 ct7 : Value}
    (a7 : PySem.W.nsIn K mainGlobals "_law_next" = some (some (.ref f7))) (l7 : K.lookup f7 = some ⟨oc7, od7, .func (PySem.W.fnOf "_law_next" "_law_next" (defArgs s_law_next) (defBody s_law_next) (defScope s_law_next) .none kV7 dc7 pm7 an7 cd7 ct7), sl7⟩) (c7 : PySem.W.codeIn K cd7 "_law_next" = true) (k7 : PySem.W.keepIn K (.ref f7) = true)
    {f8 : Addr} {od8 an8 : Option Addr} {sl8 : Array (Option Value)} {oc8 kV8 dc8 pm8 cd8 ct8 : Value}
    (a8 : PySem.W.nsIn K mainGlobals "_law_names" = some (some (.ref f8))) (l8 : K.lookup f8 = some ⟨oc8, od8, .func (PySem.W.fnOf "_law_names" "_law_names" (defArgs s_law_names) (defBody s_law_names) (defScope s_law_names) .none kV8 dc8 pm8 an8 cd8 ct8), sl8⟩) (c8 : PySem.W.codeIn K cd8 "_law_names" = true) (k8 : PySem.W.keepIn K (.ref f8) = true)
    {f9 : Addr} {od9 an9 : Option Addr} {sl9 : Array (Option Value)} {oc9 kV9 dc9 pm9 cd9 ct9 : Value}
    (a9 : PySem.W.nsIn K mainGlobals "_law_part" = some (some (.ref f9))) (l9 : K.lookup f9 = some ⟨oc9, od9, .func (PySem.W.fnOf "_law_part" "_law_part" (defArgs s_law_part) (defBody s_law_part) (defScope s_law_part) .none kV9 dc9 pm9 an9 cd9 ct9), sl9⟩) (c9 : PySem.W.codeIn K cd9 "_law_part" = true) (k9 : PySem.W.keepIn K (.ref f9) = true)
    {f10 : Addr} {od10 an10 : Option Addr} {sl10 : Array (Option Value)} {oc10 kV10 dc10 pm10 cd10 ct10 : Value}
    (a10 : PySem.W.nsIn K mainGlobals "_law_measure" = some (some (.ref f10))) (l10 : K.lookup f10 = some ⟨oc10, od10, .func (PySem.W.fnOf "_law_measure" "_law_measure" (defArgs s_law_measure) (defBody s_law_measure) (defScope s_law_measure) .none kV10 dc10 pm10 an10 cd10 ct10), sl10⟩) (c10 : PySem.W.codeIn K cd10 "_law_measure" = true) (k10 : PySem.W.keepIn K (.ref f10) = true)
    {f11 : Addr} {od11 an11 : Option Addr} {sl11 : Array (Option Value)} {oc11 kV11 dc11 pm11 cd11 ct11 : Value}
    (a11 : PySem.W.nsIn K mainGlobals "_law_lap" = some (some (.ref f11))) (l11 : K.lookup f11 = some ⟨oc11, od11, .func (PySem.W.fnOf "_law_lap" "_law_lap" (defArgs s_law_lap) (defBody s_law_lap) (defScope s_law_lap) .none kV11 dc11 pm11 an11 cd11 ct11), sl11⟩) (c11 : PySem.W.codeIn K cd11 "_law_lap" = true) (k11 : PySem.W.keepIn K (.ref f11) = true)
    {f12 : Addr} {od12 an12 : Option Addr} {sl12 : Array (Option Value)} {oc12 kV12 dc12 pm12 cd12 ct12 : Value}
    (a12 : PySem.W.nsIn K mainGlobals "_law_grow" = some (some (.ref f12))) (l12 : K.lookup f12 = some ⟨oc12, od12, .func (PySem.W.fnOf "_law_grow" "_law_grow" (defArgs s_law_grow) (defBody s_law_grow) (defScope s_law_grow) .none kV12 dc12 pm12 an12 cd12 ct12), sl12⟩) (c12 : PySem.W.codeIn K cd12 "_law_grow" = true) (k12 : PySem.W.keepIn K (.ref f12) = true)
    {f13 : Addr} {od13 an13 : Option Addr} {sl13 : Array (Option Value)} {oc13 kV13 dc13 pm13 cd13 ct13 : Value}
    (a13 : PySem.W.nsIn K mainGlobals "_law_row" = some (some (.ref f13))) (l13 : K.lookup f13 = some ⟨oc13, od13, .func (PySem.W.fnOf "_law_row" "_law_row" (defArgs s_law_row) (defBody s_law_row) (defScope s_law_row) .none kV13 dc13 pm13 an13 cd13 ct13), sl13⟩) (c13 : PySem.W.codeIn K cd13 "_law_row" = true) (k13 : PySem.W.keepIn K (.ref f13) = true)
    {f14 : Addr} {od14 an14 : Option Addr} {sl14 : Array (Option Value)} {oc14 kV14 dc14 pm14 cd14 ct14 : Value}
    (a14 : PySem.W.nsIn K mainGlobals "_law_inputs" = some (some (.ref f14))) (l14 : K.lookup f14 = some ⟨oc14, od14, .func (PySem.W.fnOf "_law_inputs" "_law_inputs" (defArgs s_law_inputs) (defBody s_law_inputs) (defScope s_law_inputs) .none kV14 dc14 pm14 an14 cd14 ct14), sl14⟩) (c14 : PySem.W.codeIn K cd14 "_law_inputs" = true) (k14 : PySem.W.keepIn K (.ref f14) = true)
    {f15 : Addr} {od15 an15 : Option Addr} {sl15 : Array (Option Value)} {oc15 kV15 dc15 pm15 cd15 ct15 : Value}
    (a15 : PySem.W.nsIn K mainGlobals "_law_dry" = some (some (.ref f15))) (l15 : K.lookup f15 = some ⟨oc15, od15, .func (PySem.W.fnOf "_law_dry" "_law_dry" (defArgs s_law_dry) (defBody s_law_dry) (defScope s_law_dry) .none kV15 dc15 pm15 an15 cd15 ct15), sl15⟩) (c15 : PySem.W.codeIn K cd15 "_law_dry" = true) (k15 : PySem.W.keepIn K (.ref f15) = true)
    {f16 : Addr} {od16 an16 : Option Addr} {sl16 : Array (Option Value)} {oc16 kV16 dc16 pm16 cd16 ct16 : Value}
    (a16 : PySem.W.nsIn K mainGlobals "law" = some (some (.ref f16))) (l16 : K.lookup f16 = some ⟨oc16, od16, .func (PySem.W.fnOf "law" "law" (defArgs s_law) (defBody s_law) (defScope s_law) .none kV16 dc16 pm16 an16 cd16 ct16), sl16⟩) (c16 : PySem.W.codeIn K cd16 "law" = true) (k16 : PySem.W.keepIn K (.ref f16) = true)
    {C_Run : Addr} (aC_Run : PySem.W.nsIn K mainGlobals "Run" = some (some (.ref C_Run)))
    {f_Run_init : Addr} {od_Run_init an_Run_init : Option Addr} {sl_Run_init : Array (Option Value)} {oc_Run_init kV_Run_init dc_Run_init pm_Run_init cd_Run_init ct_Run_init : Value}
    (a_Run_init : PySem.W.findIn K (.ref C_Run) "__init__" = some (some (.ref f_Run_init))) (i_Run_init : PySem.W.isFn K (.ref f_Run_init) = true) (l_Run_init : K.lookup f_Run_init = some ⟨oc_Run_init, od_Run_init, .func (PySem.W.fnOf "__init__" "Run.__init__" (defArgs s_Run_init) (defBody s_Run_init) (defScope s_Run_init) .none kV_Run_init dc_Run_init pm_Run_init an_Run_init cd_Run_init ct_Run_init), sl_Run_init⟩) (c_Run_init : PySem.W.codeIn K cd_Run_init "Run.__init__" = true) (k_Run_init : PySem.W.keepIn K (.ref f_Run_init) = true)
    (pg_Run : PySem.W.plainGet K C_Run Str.empty = true) (hd_Run : PySem.W.hasDictIn K C_Run = true) (po_Run : PySem.W.plainOver K C_Run = true) (sa_Run : PySem.W.findIn K (.ref C_Run) "__setattr__" = some (some (.builtin "object.__setattr__"))) (mk_Run : PySem.W.makesIn K C_Run = true) (kc_Run : PySem.W.keepIn K (.ref C_Run) = true)
    (na_Run_entries : PySem.W.findIn K (.ref C_Run) "entries" = some none)
    (na_Run_most : PySem.W.findIn K (.ref C_Run) "most" = some none)
    (na_Run_names : PySem.W.findIn K (.ref C_Run) "names" = some none)
    (na_Run_told : PySem.W.findIn K (.ref C_Run) "told" = some none)
    (na_Run_turns : PySem.W.findIn K (.ref C_Run) "turns" = some none)
    {L D : Addr}
    (e_gL : PySem.W.nsIn K mainGlobals "LapError" = some (some (.ref L)))
    (e_gD : PySem.W.nsIn K mainGlobals "Dry" = some (some (.ref D)))
    (e_xD : PySem.W.excIn K D [.type "ValueError", .type "Exception", .type "BaseException", .type "object"] "ValueError.__new__" = true)
    (e_kD : PySem.W.keepIn K (.ref D) = true)
    (e_bD : PySem.W.subIn K (.ref D) (.type "BaseException") = some true)
    (e_tD : PySem.W.typeIn K (.ref D) = some (.type "type"))
    (e_bL : PySem.W.subIn K (.ref L) (.type "BaseException") = some true)
    (e_hL : PySem.W.hasDictIn K L = true)
    (e_tL : PySem.W.typeIn K (.ref L) = some (.type "type"))
    (e_sDL : PySem.W.subIn K (.ref D) (.ref L) = some true)
    (e_hgD : PySem.W.findIn K (.ref D) "__getattribute__" = some (some (.builtin "BaseException.__getattribute__")))
    (e_hkD : PySem.W.findIn K (.ref D) "__getattr__" = some none)
    (e_hdD : PySem.W.hasDictIn K D = true)
    (e_haD : PySem.W.findIn K (.ref D) "__class__" = some (some (.builtin "object.__class__")))
    (e_hnD : PySem.W.specialIn K (.builtin "object.__class__") "__get__" = some (some (.builtin "getset_descriptor.__get__")))
    (e_htD : PySem.W.takesIn K (.builtin "object.__class__") = some true)
    (e_hmD : PySem.W.mroIn K D (.type "object") = some true)
    (e_sDD : PySem.W.subIn K (.ref D) (.ref D) = some true)
    (e_iDD : PySem.W.kitOne K (.ref D) (.ref D) = some true)
    (e_iDV : PySem.W.kitOne K (.ref D) (.type "ValueError") = some true)
    (z_sorted : PySem.W.nsIn K mainGlobals "sorted" = some none)
    (z_enumerate : PySem.W.nsIn K mainGlobals "enumerate" = some none)
    (z_max : PySem.W.nsIn K mainGlobals "max" = some none)
    (z_len : PySem.W.nsIn K mainGlobals "len" = some none)
    (z_int : PySem.W.nsIn K mainGlobals "int" = some none)
    (z_range : PySem.W.nsIn K mainGlobals "range" = some none)
    (z_tuple : PySem.W.nsIn K mainGlobals "tuple" = some none)
    (z_list : PySem.W.nsIn K mainGlobals "list" = some none)
    (z_sum : PySem.W.nsIn K mainGlobals "sum" = some none) :
    ∃ fd : FuncData, (∀ (s : Shared) (v : Value), BindsTo s fd ⟨[v], []⟩ [("_law_script", v)]) ∧ ∀ base : Heap, K.In base → base.Ns mainGlobals mg → FnOk l.prog w K mg base CX0 90 fa fd ["_law_script"] (spLaw K) := by
  have e := hfa.symm.trans (PySem.W.mg_of X G a16)
  cases e
  have F0 := fun_mk (st := s_names_of) l0 c0 k0
  have D0 : DefAt K mg "names_of" "names_of" s_names_of ["program"] _ _ := ⟨F0, PySem.W.mg_of X G a0, F0.binds (ps := ["program"]) fun _ _ _ _ _ _ us hl => match us, hl with | [_], _ => rfl⟩
  have F1 := fun_mk (st := s_find_in_row) l1 c1 k1
  have D1 : DefAt K mg "_find_in_row" "_find_in_row" s_find_in_row ["row", "found"] _ _ := ⟨F1, PySem.W.mg_of X G a1, F1.binds (ps := ["row", "found"]) fun _ _ _ _ _ _ us hl => match us, hl with | [_, _], _ => rfl⟩
  have F2 := fun_mk (st := s_find_in_expression) l2 c2 k2
  have D2 : DefAt K mg "_find_in_expression" "_find_in_expression" s_find_in_expression ["expression", "found"] _ _ := ⟨F2, PySem.W.mg_of X G a2, F2.binds (ps := ["expression", "found"]) fun _ _ _ _ _ _ us hl => match us, hl with | [_, _], _ => rfl⟩
  have F3 := fun_mk (st := s_ran) l3 c3 k3
  have D3 : DefAt K mg "ran" "ran" s_ran ["program", "names", "most"] _ _ := ⟨F3, PySem.W.mg_of X G a3, F3.binds (ps := ["program", "names", "most"]) fun _ _ _ _ _ _ us hl => match us, hl with | [_, _, _], _ => rfl⟩
  have F4 := fun_mk (st := s_do_row) l4 c4 k4
  have D4 : DefAt K mg "_do_row" "_do_row" s_do_row ["run", "row", "place"] _ _ := ⟨F4, PySem.W.mg_of X G a4, F4.binds (ps := ["run", "row", "place"]) fun _ _ _ _ _ _ us hl => match us, hl with | [_, _, _], _ => rfl⟩
  have F5 := fun_mk (st := s_do_lap) l5 c5 k5
  have D5 : DefAt K mg "_do_lap" "_do_lap" s_do_lap ["run", "lap", "place"] _ _ := ⟨F5, PySem.W.mg_of X G a5, F5.binds (ps := ["run", "lap", "place"]) fun _ _ _ _ _ _ us hl => match us, hl with | [_, _, _], _ => rfl⟩
  have F6 := fun_mk (st := s_reckoned) l6 c6 k6
  have D6 : DefAt K mg "_reckoned" "_reckoned" s_reckoned ["expression", "names"] _ _ := ⟨F6, PySem.W.mg_of X G a6, F6.binds (ps := ["expression", "names"]) fun _ _ _ _ _ _ us hl => match us, hl with | [_, _], _ => rfl⟩
  have F7 := fun_mk (st := s_law_next) l7 c7 k7
  have D7 : DefAt K mg "_law_next" "_law_next" s_law_next ["_law_h", "_law_many"] _ _ := ⟨F7, PySem.W.mg_of X G a7, F7.binds (ps := ["_law_h", "_law_many"]) fun _ _ _ _ _ _ us hl => match us, hl with | [_, _], _ => rfl⟩
  have F8 := fun_mk (st := s_law_names) l8 c8 k8
  have D8 : DefAt K mg "_law_names" "_law_names" s_law_names ["_law_h"] _ _ := ⟨F8, PySem.W.mg_of X G a8, F8.binds (ps := ["_law_h"]) fun _ _ _ _ _ _ us hl => match us, hl with | [_], _ => rfl⟩
  have F9 := fun_mk (st := s_law_part) l9 c9 k9
  have D9 : DefAt K mg "_law_part" "_law_part" s_law_part ["_law_h", "_law_some", "_law_deep"] _ _ := ⟨F9, PySem.W.mg_of X G a9, F9.binds (ps := ["_law_h", "_law_some", "_law_deep"]) fun _ _ _ _ _ _ us hl => match us, hl with | [_, _, _], _ => rfl⟩
  have F10 := fun_mk (st := s_law_measure) l10 c10 k10
  have D10 : DefAt K mg "_law_measure" "_law_measure" s_law_measure ["_law_h", "_law_guard", "_law_calm"] _ _ := ⟨F10, PySem.W.mg_of X G a10, F10.binds (ps := ["_law_h", "_law_guard", "_law_calm"]) fun _ _ _ _ _ _ us hl => match us, hl with | [_, _, _], _ => rfl⟩
  have F11 := fun_mk (st := s_law_lap) l11 c11 k11
  have D11 : DefAt K mg "_law_lap" "_law_lap" s_law_lap ["_law_h", "_law_names_here", "_law_depth", "_law_odd"] _ _ := ⟨F11, PySem.W.mg_of X G a11, F11.binds (ps := ["_law_h", "_law_names_here", "_law_depth", "_law_odd"]) fun _ _ _ _ _ _ us hl => match us, hl with | [_, _, _, _], _ => rfl⟩
  have F12 := fun_mk (st := s_law_grow) l12 c12 k12
  have D12 : DefAt K mg "_law_grow" "_law_grow" s_law_grow ["_law_h", "_law_low", "_law_some"] _ _ := ⟨F12, PySem.W.mg_of X G a12, F12.binds (ps := ["_law_h", "_law_low", "_law_some"]) fun _ _ _ _ _ _ us hl => match us, hl with | [_, _, _], _ => rfl⟩
  have F13 := fun_mk (st := s_law_row) l13 c13 k13
  have D13 : DefAt K mg "_law_row" "_law_row" s_law_row ["_law_h", "_law_names_here", "_law_depth", "_law_odd"] _ _ := ⟨F13, PySem.W.mg_of X G a13, F13.binds (ps := ["_law_h", "_law_names_here", "_law_depth", "_law_odd"]) fun _ _ _ _ _ _ us hl => match us, hl with | [_, _, _, _], _ => rfl⟩
  have F14 := fun_mk (st := s_law_inputs) l14 c14 k14
  have D14 : DefAt K mg "_law_inputs" "_law_inputs" s_law_inputs ["_law_h", "_law_names_here"] _ _ := ⟨F14, PySem.W.mg_of X G a14, F14.binds (ps := ["_law_h", "_law_names_here"]) fun _ _ _ _ _ _ us hl => match us, hl with | [_, _], _ => rfl⟩
  have F15 := fun_mk (st := s_law_dry) l15 c15 k15
  have D15 : DefAt K mg "_law_dry" "_law_dry" s_law_dry ["_law_program", "_law_names_here", "_law_most"] _ _ := ⟨F15, PySem.W.mg_of X G a15, F15.binds (ps := ["_law_program", "_law_names_here", "_law_most"]) fun _ _ _ _ _ _ us hl => match us, hl with | [_, _, _], _ => rfl⟩
  have F16 := fun_mk (st := s_law) l16 c16 k16
  have D16 : DefAt K mg "law" "law" s_law ["_law_script"] _ _ := ⟨F16, PySem.W.mg_of X G a16, F16.binds (ps := ["_law_script"]) fun _ _ _ _ _ _ us hl => match us, hl with | [_], _ => rfl⟩
  have FI_Run := fun_mk (st := s_Run_init) l_Run_init c_Run_init k_Run_init
  have T : Txt K mg C_Run := ⟨⟨pg_Run, hd_Run, po_Run, sa_Run⟩, PySem.W.mg_of X G aC_Run, na_Run_entries, na_Run_most, na_Run_names, na_Run_told, na_Run_turns, ⟨_, _, ⟨mk_Run, a_Run_init, i_Run_init, kc_Run⟩, FI_Run, FI_Run.binds (ps := ["self", "names", "most"]) fun _ _ _ _ _ _ us hl => match us, hl with | [_, _, _], _ => rfl⟩, ⟨_, _, ⟨PySem.W.mg_of X G e_gL, PySem.W.mg_of X G e_gD, e_xD, e_kD, e_bD, e_tD, e_bL, e_hL, e_tL, e_sDL, e_hgD, e_hkD, e_hdD, e_haD, e_hnD, e_htD, e_hmD, e_sDD, e_iDD, e_iDV⟩⟩, ⟨_, _, D0⟩, ⟨_, _, D1⟩, ⟨_, _, D2⟩, ⟨_, _, D3⟩, ⟨_, _, D4⟩, ⟨_, _, D5⟩, ⟨_, _, D6⟩, ⟨_, _, D7⟩, ⟨_, _, D8⟩, ⟨_, _, D9⟩, ⟨_, _, D10⟩, ⟨_, _, D11⟩, ⟨_, _, D12⟩, ⟨_, _, D13⟩, ⟨_, _, D14⟩, ⟨_, _, D15⟩, PySem.W.mg_none_of X G z_sorted, PySem.W.mg_none_of X G z_enumerate, PySem.W.mg_none_of X G z_max, PySem.W.mg_none_of X G z_len, PySem.W.mg_none_of X G z_int, PySem.W.mg_none_of X G z_range, PySem.W.mg_none_of X G z_tuple, PySem.W.mg_none_of X G z_list, PySem.W.mg_none_of X G z_sum⟩
  exact ⟨PySem.W.fnOf "law" "law" (defArgs s_law) (defBody s_law) (defScope s_law) .none kV16 dc16 pm16 an16 cd16 ct16, fun s v => .of_eq rfl, fun base _ _ => ok_law T D16⟩
end K30
open PySem PySem.W PyProof.Rows
set_option maxHeartbeats 0 in
theorem PySem.Challenge.cw_lapfold_k30_whole_runs_one_behind_anothe_holds : PySem.Challenge.rw_lapfold_k30_whole_runs_one_behind_anothe.Holds := by
  w_on; o_law; k_head; (case hw => w_witness2)
  k_fill
  refine L2.walk_of (l := PySem.Challenge.rw_lapfold_k30_whole_runs_one_behind_anothe) (n := 63) (k := 90) (x := "_law_script") (CX := fun _ => L2.CX0) (sp := fun w => K30.spLaw _) rfl (by decide) rfl ⟨rfl, by decide, by decide⟩ (fun w h Y => PySem.W.kIn_of Y) ?F (fun _ _ a ns hl _ hS => ⟨a, ns, rfl, hS, hl, fun _ => rfl⟩) (fun _ _ _ _ _ h => h)
  case F =>
    intro w mg fa h KX G hmg
    refine' K30.all_mk KX G hmg ?a0 ?l0 ?c0 ?k0 ?a1 ?l1 ?c1 ?k1 ?a2 ?l2 ?c2 ?k2 ?a3 ?l3 ?c3 ?k3 ?a4 ?l4 ?c4 ?k4 ?a5 ?l5 ?c5 ?k5 ?a6 ?l6 ?c6 ?k6 ?a7 ?l7 ?c7 ?k7 ?a8 ?l8 ?c8 ?k8 ?a9 ?l9 ?c9 ?k9 ?a10 ?l10 ?c10 ?k10 ?a11 ?l11 ?c11 ?k11 ?a12 ?l12 ?c12 ?k12 ?a13 ?l13 ?c13 ?k13 ?a14 ?l14 ?c14 ?k14 ?a15 ?l15 ?c15 ?k15 ?a16 ?l16 ?c16 ?k16 ?aC_Run ?a_Run_init ?i_Run_init ?l_Run_init ?c_Run_init ?k_Run_init ?pg_Run ?hd_Run ?po_Run ?sa_Run ?mk_Run ?kc_Run ?na_Run_entries ?na_Run_most ?na_Run_names ?na_Run_told ?na_Run_turns ?e_gL ?e_gD ?e_xD ?e_kD ?e_bD ?e_tD ?e_bL ?e_hL ?e_tL ?e_sDL ?e_hgD ?e_hkD ?e_hdD ?e_haD ?e_hnD ?e_htD ?e_hmD ?e_sDD ?e_iDD ?e_iDV ?z_sorted ?z_enumerate ?z_max ?z_len ?z_int ?z_range ?z_tuple ?z_list ?z_sum
    (case a0 => k_is)
    (case l0 => k_is)
    (case c0 => k_is)
    (case k0 => k_is)
    (case a1 => k_is)
    (case l1 => k_is)
    (case c1 => k_is)
    (case k1 => k_is)
    (case a2 => k_is)
    (case l2 => k_is)
    (case c2 => k_is)
    (case k2 => k_is)
    (case a3 => k_is)
    (case l3 => k_is)
    (case c3 => k_is)
    (case k3 => k_is)
    (case a4 => k_is)
    (case l4 => k_is)
    (case c4 => k_is)
    (case k4 => k_is)
    (case a5 => k_is)
    (case l5 => k_is)
    (case c5 => k_is)
    (case k5 => k_is)
    (case a6 => k_is)
    (case l6 => k_is)
    (case c6 => k_is)
    (case k6 => k_is)
    (case a7 => k_is)
    (case l7 => k_is)
    (case c7 => k_is)
    (case k7 => k_is)
    (case a8 => k_is)
    (case l8 => k_is)
    (case c8 => k_is)
    (case k8 => k_is)
    (case a9 => k_is)
    (case l9 => k_is)
    (case c9 => k_is)
    (case k9 => k_is)
    (case a10 => k_is)
    (case l10 => k_is)
    (case c10 => k_is)
    (case k10 => k_is)
    (case a11 => k_is)
    (case l11 => k_is)
    (case c11 => k_is)
    (case k11 => k_is)
    (case a12 => k_is)
    (case l12 => k_is)
    (case c12 => k_is)
    (case k12 => k_is)
    (case a13 => k_is)
    (case l13 => k_is)
    (case c13 => k_is)
    (case k13 => k_is)
    (case a14 => k_is)
    (case l14 => k_is)
    (case c14 => k_is)
    (case k14 => k_is)
    (case a15 => k_is)
    (case l15 => k_is)
    (case c15 => k_is)
    (case k15 => k_is)
    (case a16 => k_is)
    (case l16 => k_is)
    (case c16 => k_is)
    (case k16 => k_is)
    (case aC_Run => k_is)
    (case a_Run_init => k_is)
    (case i_Run_init => k_is)
    (case l_Run_init => k_is)
    (case c_Run_init => k_is)
    (case k_Run_init => k_is)
    (case pg_Run => k_is)
    (case hd_Run => k_is)
    (case po_Run => k_is)
    (case sa_Run => k_is)
    (case mk_Run => k_is)
    (case kc_Run => k_is)
    (case na_Run_entries => k_is)
    (case na_Run_most => k_is)
    (case na_Run_names => k_is)
    (case na_Run_told => k_is)
    (case na_Run_turns => k_is)
    (case e_gL => first | k_is | decide +kernel | rfl)
    (case e_gD => first | k_is | decide +kernel | rfl)
    (case e_xD => k_exc)
    (case e_kD => first | k_is | decide +kernel | rfl)
    (case e_bD => first | k_is | decide +kernel | rfl)
    (case e_tD => first | k_is | decide +kernel | rfl)
    (case e_bL => first | k_is | decide +kernel | rfl)
    (case e_hL => first | k_is | decide +kernel | rfl)
    (case e_tL => first | k_is | decide +kernel | rfl)
    (case e_sDL => first | k_is | decide +kernel | rfl)
    (case e_hgD => first | k_is | decide +kernel | rfl)
    (case e_hkD => first | k_is | decide +kernel | rfl)
    (case e_hdD => first | k_is | decide +kernel | rfl)
    (case e_haD => first | k_is | decide +kernel | rfl)
    (case e_hnD => first | k_is | decide +kernel | rfl)
    (case e_htD => first | k_is | decide +kernel | rfl)
    (case e_hmD => first | k_is | decide +kernel | rfl)
    (case e_sDD => first | k_is | decide +kernel | rfl)
    (case e_iDD => first | k_is | decide +kernel | rfl)
    (case e_iDV => first | k_is | decide +kernel | rfl)
    (case z_sorted => k_is)
    (case z_enumerate => k_is)
    (case z_max => k_is)
    (case z_len => k_is)
    (case z_int => k_is)
    (case z_range => k_is)
    (case z_tuple => k_is)
    (case z_list => k_is)
    (case z_sum => k_is)
