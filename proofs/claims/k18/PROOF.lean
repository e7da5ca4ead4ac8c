import PyProof.Rows.All
import Wide.All
import OpenK.AllK
import Wide.FinOn
import HandS.ForMost
import HandS.Gcd
import HandS.Wide
import HandS.IsInst
import HandS.NoneIn
import HandS.DictTup
import HandS.DictComp
import KE.KDictKeyed
import KE.KDictDisplayH
import KE.KEqDict
import HandS.Conv
import HandS.Text
import HandS.Iter
import HandS.SortInts
import KE.KDictSum
import HandS.SetKeys
import HandS.SetTxt0
import HandS.Set
import HandS.TupLe
import HandS.More
import KE.KMinKey
import HandS.SortKw
import HandS.TupLen
import HandS.Style
import HandS.TupSets
import HandS.ExcOwn
import HandS.ExcIs
import HandS.Exc
import KE.GoesEnum
import KE.GoesMore
import HandS.TupAny
import HandS.TryOnly
import HandS.WordsExc
import KE.KEqNest
import PySem.Challenge.RW_lapfold_k18_folds_reckoned
set_option Elab.async false
set_option linter.all false
set_option maxRecDepth 100000
namespace K18
open PySem PySem.Spec PyProof.Rows L2
def topS (i : Nat) : Stmt := PySem.Challenge.pw_lapfold_k18_folds_reckoned.main.body.getD i (.Pass ⟨0, 0, 0, 0⟩)
abbrev s_value : Stmt := topS 1
theorem sc_value : FnScope ["fold", "slots"] ["fold", "slots"] (defScope s_value) := ⟨rfl, rfl, rfl, by decide +kernel, rfl, by decide +kernel, by decide +kernel⟩
abbrev s_told : Stmt := topS 2
theorem sc_told : FnScope ["fold", "slots", "first", "word", "part"] ["fold", "slots"] (defScope s_told) := ⟨rfl, rfl, rfl, by decide +kernel, rfl, by decide +kernel, by decide +kernel⟩
abbrev s_number_told : Stmt := topS 3
theorem sc_number_told : FnScope ["fold", "slots", "word", "one", "other"] ["fold", "slots"] (defScope s_number_told) := ⟨rfl, rfl, rfl, by decide +kernel, rfl, by decide +kernel, by decide +kernel⟩
abbrev s_told_by_turns : Stmt := topS 4
theorem sc_told_by_turns : FnScope ["fold", "slots", "so_far", "_", "behind"] ["fold", "slots"] (defScope s_told_by_turns) := ⟨rfl, rfl, rfl, by decide +kernel, rfl, by decide +kernel, by decide +kernel⟩
abbrev s_copied : Stmt := topS 5
theorem sc_copied : FnScope ["thing", "part"] ["thing"] (defScope s_copied) := ⟨rfl, rfl, rfl, by decide +kernel, rfl, by decide +kernel, by decide +kernel⟩
abbrev s_law_next : Stmt := topS 7
theorem sc_law_next : FnScope ["_law_h", "_law_many", "_law_at", "_law_cell"] ["_law_h", "_law_many"] (defScope s_law_next) := ⟨rfl, rfl, rfl, by decide +kernel, rfl, by decide +kernel, by decide +kernel⟩
abbrev s_law_number : Stmt := topS 8
theorem sc_law_number : FnScope ["_law_h", "_law_deep", "_law_way", "_law_test", "_law_one", "_law_word"] ["_law_h", "_law_deep"] (defScope s_law_number) := ⟨rfl, rfl, rfl, by decide +kernel, rfl, by decide +kernel, by decide +kernel⟩
abbrev s_law_rowed : Stmt := topS 9
theorem sc_law_rowed : FnScope ["_law_h", "_law_deep", "_law_way", "_law_one"] ["_law_h", "_law_deep"] (defScope s_law_rowed) := ⟨rfl, rfl, rfl, by decide +kernel, rfl, by decide +kernel, by decide +kernel⟩
abbrev s_law_tuple : Stmt := topS 10
theorem sc_law_tuple : FnScope ["_law_h", "_law_deep", "_law_way", "_law_parts", "_law_one", "_law_many", "_law_k"] ["_law_h", "_law_deep"] (defScope s_law_tuple) := ⟨rfl, rfl, rfl, by decide +kernel, rfl, by decide +kernel, by decide +kernel⟩
abbrev s_law_flat : Stmt := topS 11
theorem sc_law_flat : FnScope ["_law_h", "_law_parts", "_law_k", "_law_one", "_law_some", "_law_row"] ["_law_h"] (defScope s_law_flat) := ⟨rfl, rfl, rfl, by decide +kernel, rfl, by decide +kernel, by decide +kernel⟩
abbrev s_law_come_to : Stmt := topS 12
theorem sc_law_come_to : FnScope ["_law_fold", "_law_slots", "_law_word", "_law_one", "_law_other", "_law_turn", "_law_part"] ["_law_fold", "_law_slots"] (defScope s_law_come_to) := ⟨rfl, rfl, rfl, by decide +kernel, rfl, by decide +kernel, by decide +kernel⟩
abbrev s_law : Stmt := topS 13
theorem sc_law : FnScope ["_law_script", "_law_h", "_law_turn", "_law_fold", "_law_row", "_law_slots", "_law_kept", "_law_found", "_law_k"] ["_law_script"] (defScope s_law) := ⟨rfl, rfl, rfl, by decide +kernel, rfl, by decide +kernel, by decide +kernel⟩
structure DefAt (K : PySem.W.Frag) (mg : Str → Option Value) (x qual : Str) (st : Stmt) (ps : List Str) (f : Addr) (fd : FuncData) : Prop where
  F : Fun K x qual st f fd
  g : mg x = some (.ref f)
  b : Binds K fd ps []
def HasDef (K : PySem.W.Frag) (mg : Str → Option Value) (x qual : Str) (st : Stmt) (ps : List Str) : Prop := ∃ f fd, DefAt K mg x qual st ps f fd
structure Txt (K : PySem.W.Frag) (mg : Str → Option Value) : Prop where
  d_value : HasDef K mg "value" "value" s_value ["fold", "slots"]
  d_told : HasDef K mg "_told" "_told" s_told ["fold", "slots"]
  d_number_told : HasDef K mg "_number_told" "_number_told" s_number_told ["fold", "slots"]
  d_told_by_turns : HasDef K mg "_told_by_turns" "_told_by_turns" s_told_by_turns ["fold", "slots"]
  d_copied : HasDef K mg "_copied" "_copied" s_copied ["thing"]
  d_law_next : HasDef K mg "_law_next" "_law_next" s_law_next ["_law_h", "_law_many"]
  d_law_number : HasDef K mg "_law_number" "_law_number" s_law_number ["_law_h", "_law_deep"]
  d_law_rowed : HasDef K mg "_law_rowed" "_law_rowed" s_law_rowed ["_law_h", "_law_deep"]
  d_law_tuple : HasDef K mg "_law_tuple" "_law_tuple" s_law_tuple ["_law_h", "_law_deep"]
  d_law_flat : HasDef K mg "_law_flat" "_law_flat" s_law_flat ["_law_h"]
  d_law_come_to : HasDef K mg "_law_come_to" "_law_come_to" s_law_come_to ["_law_fold", "_law_slots"]
  m_tuple : mg "tuple" = none
  m_max : mg "max" = none
  m_range : mg "range" = none
  m_isinstance : mg "isinstance" = none
  m_list : mg "list" = none
  m_len : mg "len" = none
  m_int : mg "int" = none
  m_bool : mg "bool" = none
/-! ### fractions -/
theorem divInt_num_pos {t b : Int} (h : 0 < b) : (Rat.divInt t b).num = t.fdiv ((Nat.gcd t.natAbs b.natAbs : Nat) : Int) := by
  rw [Rat.num_divInt, Int.sign_eq_one_of_pos h, Int.one_mul, Int.fdiv_eq_ediv_of_nonneg _ (by omega), Int.gcd, Nat.gcd_comm]
theorem divInt_den_pos {t b : Int} (h : 0 < b) : ((Rat.divInt t b).den : Int) = b.fdiv ((Nat.gcd t.natAbs b.natAbs : Nat) : Int) := by
  have e : ((b.natAbs : Nat) : Int) = b := by omega
  rw [Rat.den_divInt, if_neg (by omega), Int.fdiv_eq_ediv_of_nonneg _ (by omega), Int.gcd, Nat.gcd_comm, Int.natCast_ediv, e]
theorem gcd_pos {t b : Int} (h : b ≠ 0) : 0 < Nat.gcd t.natAbs b.natAbs := Nat.gcd_pos_of_pos_right _ (by omega)
theorem fdiv_neg_gcd {x : Int} {g : Nat} (hg : 0 < g) (hd : (g : Int) ∣ x) : x.fdiv (-(g : Int)) = (-x).fdiv (g : Int) := by
  obtain ⟨q, rfl⟩ := hd
  have e1 : (g : Int) * q = (-(g : Int)) * (-q) := by rw [Int.neg_mul_neg]
  have e2 : -((g : Int) * q) = (g : Int) * (-q) := by rw [Int.mul_neg]
  rw [e2, Int.mul_fdiv_cancel_left _ (by omega), e1, Int.mul_fdiv_cancel_left _ (by omega)]
theorem divInt_num_neg {t b : Int} (h : b < 0) : (Rat.divInt t b).num = t.fdiv (-((Nat.gcd t.natAbs b.natAbs : Nat) : Int)) := by
  rw [show Rat.divInt t b = Rat.divInt (-t) (-b) from (Rat.neg_divInt_neg t b).symm, divInt_num_pos (by omega : 0 < -b), fdiv_neg_gcd (gcd_pos (by omega)) (Int.ofNat_dvd_left.mpr (Nat.gcd_dvd_left _ _)), Int.natAbs_neg, Int.natAbs_neg]
theorem divInt_den_neg {t b : Int} (h : b < 0) : ((Rat.divInt t b).den : Int) = b.fdiv (-((Nat.gcd t.natAbs b.natAbs : Nat) : Int)) := by
  rw [show Rat.divInt t b = Rat.divInt (-t) (-b) from (Rat.neg_divInt_neg t b).symm, divInt_den_pos (by omega : 0 < -b), fdiv_neg_gcd (gcd_pos (by omega)) (Int.ofNat_dvd_left.mpr (Nat.gcd_dvd_right _ _)), Int.natAbs_neg, Int.natAbs_neg]
/-- the size of a fraction -/
def RB (a : Nat) (r : Rat) : Prop := r.num.natAbs < 2 ^ a ∧ r.den < 2 ^ a
theorem RB.divInt {a : Nat} {t b : Int} (h : b ≠ 0) (ht : t.natAbs < 2 ^ a) (hb : b.natAbs < 2 ^ a) : RB a (Rat.divInt t b) := by
  constructor
  · have hd : ((b.gcd t : Nat) : Int) ∣ b.sign * t := Int.dvd_trans (Int.gcd_dvd_right ..) (Int.dvd_mul_left _ _)
    rw [Rat.num_divInt, Int.natAbs_ediv_of_dvd hd, Int.natAbs_mul, Int.natAbs_sign, if_neg h, Nat.one_mul]
    exact Nat.lt_of_le_of_lt (Nat.div_le_self _ _) ht
  · rw [Rat.den_divInt, if_neg h]
    exact Nat.lt_of_le_of_lt (Nat.div_le_self _ _) hb
theorem RB.mono {a b : Nat} {r : Rat} (h : RB a r) (hab : a ≤ b) : RB b r := ⟨Nat.lt_of_lt_of_le h.1 (Nat.pow_le_pow_right (by decide) hab), Nat.lt_of_lt_of_le h.2 (Nat.pow_le_pow_right (by decide) hab)⟩
theorem den_ne (r : Rat) : (r.den : Int) ≠ 0 := by
  have := r.den_nz
  omega
theorem add_eq (r s : Rat) : r + s = Rat.divInt (r.num * s.den + s.num * r.den) (r.den * s.den) := by
  conv => lhs; rw [← Rat.num_divInt_den r, ← Rat.num_divInt_den s]
  exact Rat.divInt_add_divInt _ _ (den_ne r) (den_ne s)
theorem sub_eq (r s : Rat) : r - s = Rat.divInt (r.num * s.den - s.num * r.den) (r.den * s.den) := by
  conv => lhs; rw [← Rat.num_divInt_den r, ← Rat.num_divInt_den s]
  exact Rat.divInt_sub_divInt _ _ (den_ne r) (den_ne s)
theorem mul_eq (r s : Rat) : r * s = Rat.divInt (r.num * s.num) (r.den * s.den) := by
  conv => lhs; rw [← Rat.num_divInt_den r, ← Rat.num_divInt_den s]
  exact Rat.divInt_mul_divInt _ _ ..
theorem divInt_mul_den (t b : Int) (h : b ≠ 0) : (Rat.divInt t b).num * b = t * (Rat.divInt t b).den := by
  have e : Rat.divInt (Rat.divInt t b).num (Rat.divInt t b).den = Rat.divInt t b := Rat.num_divInt_den _
  exact (Rat.divInt_eq_divInt_iff (den_ne _) h).mp e
theorem natAbs_mul_lt {x y : Int} {a b : Nat} (hx : x.natAbs < 2 ^ a) (hy : y.natAbs < 2 ^ b) : (x * y).natAbs < 2 ^ (a + b) := by
  rw [Int.natAbs_mul, Nat.pow_add]
  exact Nat.mul_lt_mul'' hx hy
theorem natAbs_add_lt {x y : Int} {a : Nat} (hx : x.natAbs < 2 ^ a) (hy : y.natAbs < 2 ^ a) : (x + y).natAbs < 2 ^ (a + 1) := by
  rw [Nat.pow_succ]
  omega
theorem natAbs_sub_lt {x y : Int} {a : Nat} (hx : x.natAbs < 2 ^ a) (hy : y.natAbs < 2 ^ a) : (x - y).natAbs < 2 ^ (a + 1) := by
  rw [Nat.pow_succ]
  omega
theorem lt_up {n a b : Nat} (h : n < 2 ^ a) (hab : a ≤ b) : n < 2 ^ b := Nat.lt_of_lt_of_le h (Nat.pow_le_pow_right (by decide) hab)
/-! ### small things -/
theorem ixNat {n j : Nat} (h : j < n) : ixN n (j : Int) = some j := by
  unfold ixN
  rw [if_pos (by omega), if_pos (by omega)]
  rfl
theorem dpInts {K : PySem.W.Frag} {H : Hp} : ∀ cs : List Int, DpAll K H (cs.map V.int) (cs.map PyData.int)
  | [] => .nil
  | _ :: r => .cons (.int _) (dpInts r)
theorem canLayInts : ∀ cs : List Int, PyData.canLayAll0 (cs.map PyData.int) = true
  | [] => by simp [PyData.canLayAll0]
  | x :: r => by simp [PyData.canLayAll0, PyData.canLay0, canLayInts r]
theorem depthInts : ∀ cs : List Int, PyData.depthAll (cs.map PyData.int) = 0
  | [] => by simp [PyData.depthAll]
  | x :: r => by simp [PyData.depthAll, PyData.depth, depthInts r]
theorem shapedInts (cs : List Int) : SeqAt.shaped (.list (cs.map PyData.int)) = true := by
  simp [SeqAt.shaped, PyData.canLay0, PyData.depth, canLayInts, depthInts]
theorem eqvNil : ∀ cs : List Int, PyData.eqv (.list (cs.map PyData.int)) (.list []) = cs.isEmpty
  | [] => by simp [PyData.eqv, PyData.eqvAll]
  | x :: r => by simp [PyData.eqv, PyData.eqvAll]
theorem mulOk {i j : Int} {a b : Nat} (ha : i.natAbs < 2 ^ a) (hb : j.natAbs < 2 ^ b) (h0 : 0 < a) (h1 : 0 < b) (h : a + b ≤ 1000000) : CMulW i j := wide_mul ha hb h0 h1 h
theorem same_upd {H : Hp} {p : Addr} {o : HO} (h : H p = none) : Same H (upd H p o) := fun b x e => by
  rw [upd_ne (ne_of_none e h)]
  exact e
/-! ### dicts whose keys are products: tuples of pairs (name, power) -/
abbrev Pr := List (Str × Int)
def keyN (m : Pr) : NestedKey := .tup (m.map fun x => .tup [.text x.1, .num x.2])
theorem keyN_inj' : ∀ {a b : Pr}, (a.map fun x => NestedKey.tup [.text x.1, .num x.2]) = (b.map fun x => NestedKey.tup [.text x.1, .num x.2]) → a = b
  | [], [], _ => rfl
  | [], _ :: _, h => by simp at h
  | _ :: _, [], h => by simp at h
  | (x1, x2) :: r, (y1, y2) :: t, h => by
    simp only [List.map_cons, List.cons.injEq, NestedKey.tup.injEq, NestedKey.text.injEq, NestedKey.num.injEq, and_true] at h
    obtain ⟨⟨h1, h2⟩, h3⟩ := h
    rw [h1, h2, keyN_inj' h3]
theorem keyN_inj {a b : Pr} (h : keyN a = keyN b) : a = b := by
  unfold keyN at h
  injection h with h
  exact keyN_inj' h
/-- the pair x stands at q; the product m stands at p -/
def PairAt (K : PySem.W.Frag) (H : Hp) (q : Addr) (x : Str × Int) : Prop := SqT K H q [.str x.1, .int x.2]
def ProdAt (K : PySem.W.Frag) (H : Hp) (p : Addr) (m : Pr) : Prop := ∃ qs : List Addr, SqT K H p (qs.map V.ref) ∧ Paired (PairAt K H) qs m
theorem SqT.keeps {K : PySem.W.Frag} {H H' : Hp} {a : Addr} {xs : List V} (h : SqT K H a xs) (k : ∀ b o, Rd H b (.tup o) → Rd H' b (.tup o)) : SqT K H' a xs := by
  rcases h with h | h
  · exact .inl (k _ _ h)
  · exact .inr h
/-- tuples stay -/
def TupsStay (H H' : Hp) : Prop := ∀ b o, Rd H b (.tup o) → Rd H' b (.tup o)
theorem TupsStay.refl (H : Hp) : TupsStay H H := fun _ _ h => h
theorem TupsStay.trans {H H1 H2 : Hp} (a : TupsStay H H1) (b : TupsStay H1 H2) : TupsStay H H2 := fun x o h => b x o (a x o h)
theorem TupsStay.same {H H' : Hp} (s : Same H H') : TupsStay H H' := fun b o h => by
  rcases h with h | ⟨ob, h⟩
  · exact .inl (s _ _ h)
  · exact .inr ⟨ob, s _ _ h⟩
def NotTup : HO → Prop
  | .tup _ => False
  | .frz _ (.tup _) => False
  | _ => True
theorem TupsStay.upd {H : Hp} {d : Addr} {u o : HO} (e : H d = some u) (n : NotTup u) : TupsStay H (upd H d o) := fun b xs h => by
  have nb : b ≠ d := fun z => by
    subst z
    rcases h with h | ⟨ob, h⟩
    · rw [e] at h
      cases h
      exact n
    · rw [e] at h
      cases h
      exact n
  rcases h with h | ⟨ob, h⟩
  · exact .inl (by rw [upd_ne nb]; exact h)
  · exact .inr ⟨ob, by rw [upd_ne nb]; exact h⟩
theorem TupsStay.new {H : Hp} {d : Addr} {o : HO} (e : H d = none) : TupsStay H (L2.upd H d o) := TupsStay.same (same_upd e)
theorem PairAt.stay {K : PySem.W.Frag} {H H' : Hp} {q : Addr} {x : Str × Int} (h : PairAt K H q x) (t : TupsStay H H') : PairAt K H' q x := SqT.keeps h t
theorem ProdAt.stay {K : PySem.W.Frag} {H H' : Hp} {p : Addr} {m : Pr} (h : ProdAt K H p m) (t : TupsStay H H') : ProdAt K H' p m := by
  obtain ⟨qs, h1, h2⟩ := h
  exact ⟨qs, SqT.keeps h1 t, Paired.mapP h2 fun _ _ z => PairAt.stay z t⟩
section
variable {X : Cx} {pins : List (Addr × Obj)} {σ : L2.St} {H : Hp} {s : Shared}
theorem ProdAt.nested (I : Inv X pins σ H s) {p : Addr} {m : Pr} (h : ProdAt X.K H p m) : (nestedKind X.prog X.w).is s.heap (keyN m) p := by
  obtain ⟨qs, h1, h2⟩ := h
  obtain ⟨its, rv, ⟨o, ho, hc, n, hd⟩, _⟩ := I.tuple h1
  have all : ∀ (qs : List Addr) (m : Pr) (its : List Value), Paired (PairAt X.K H) qs m → Vals (qs.map V.ref) its → NestedAll s.heap (m.map fun x => NestedKey.tup [.text x.1, .num x.2]) its := by
    intro qs m its q
    induction q generalizing its with
    | nil =>
      intro r
      cases r
      exact .nil
    | @cons q x qs m hq _ ih =>
      intro r
      rw [List.map_cons] at r
      cases r with
      | cons r1 r2 =>
        cases r1
        obtain ⟨jts, rj, ⟨o', ho', hc', n', hd'⟩, _⟩ := I.tuple hq
        rw [List.map_cons]
        refine .cons (.tup ho' hc' hd' ?_) (ih _ r2)
        cases rj with
        | cons r3 r4 =>
          cases r4 with
          | cons r5 r6 =>
            cases r6
            obtain ⟨t, rfl⟩ := r3
            obtain ⟨t', rfl⟩ := r5
            exact .cons (.text _ _) (.cons (.int _ _) .nil)
  refine ⟨.tup ho hc hd (by simpa using all qs m its h2 rv), ?_⟩
  show (keyN m).depth ≤ 8
  have hdep : ∀ m : Pr, NestedKey.depthAll (m.map fun x => NestedKey.tup [.text x.1, .num x.2]) ≤ 1 := by
    intro m
    induction m with
    | nil => simp [NestedKey.depthAll]
    | cons x r ih =>
      rw [List.map_cons]
      simp only [NestedKey.depthAll, NestedKey.depth]
      omega
  have := hdep m
  show NestedKey.depth (.tup _) ≤ 8
  simp only [NestedKey.depth]
  omega
theorem ProdAt.inj (I : Inv X pins σ H s) {p : Addr} {m m' : Pr} (h : ProdAt X.K H p m) (h' : ProdAt X.K H p m') : m = m' := by
  have a := h.nested I
  have b := h'.nested I
  exact keyN_inj ((nestedKind X.prog X.w).inj a b)
end
/-- the entries of such a dict's object -/
def rawN (w : World) (a : Addr) (xs : List (NestedKey × Addr × Value)) (h : Heap) : Prop :=
  ∃ o es ep, h.get? a = some o ∧ o.ExactDict ∧ o.data = .dict es ep ∧ es.toList = xs.map (fun x => (⟨x.1.hash w, .ref x.2.1, x.2.2⟩ : DictEntry))
def ndO (w : World) (a : Addr) (xs : List (NestedKey × Addr × Value)) : HO := .ext (rawN w a xs)
/-- what its entries are -/
abbrev KN (K : PySem.W.Frag) (H : Hp) : List (Pr × V) → List (NestedKey × Addr × Value) → Prop := Paired fun p q => keyN p.1 = q.1 ∧ ProdAt K H q.2.1 p.1 ∧ RelV p.2 q.2.2
/-- the dict L with such keys stands at d: u is how it stands there -/
structure NDAs (K : PySem.W.Frag) (w : World) (H : Hp) (d : Addr) (L : List (Pr × V)) (xs : List (NestedKey × Addr × Value)) : Prop where
  len : L.length ≤ sizeLine
  sys : (d == sysModules) = false
  rel : KN K H L xs
  nd : (L.map (·.1)).Nodup
def ND (K : PySem.W.Frag) (w : World) (H : Hp) (d : Addr) (L : List (Pr × V)) : Prop := ∃ xs, H d = some (ndO w d xs) ∧ NDAs K w H d L xs
def NF (K : PySem.W.Frag) (w : World) (H : Hp) (d : Addr) (o : Obj) (L : List (Pr × V)) : Prop := ∃ xs, H d = some (.frz o (ndO w d xs)) ∧ NDAs K w H d L xs
/-- .. to be read -/
def NR (K : PySem.W.Frag) (w : World) (H : Hp) (d : Addr) (L : List (Pr × V)) : Prop := ∃ xs, Rd H d (ndO w d xs) ∧ NDAs K w H d L xs
theorem ND.r {K w H d L} (h : ND K w H d L) : NR K w H d L := let ⟨xs, e, n⟩ := h; ⟨xs, .inl e, n⟩
theorem NF.r {K w H d o L} (h : NF K w H d o L) : NR K w H d L := let ⟨xs, e, n⟩ := h; ⟨xs, .inr ⟨o, e⟩, n⟩
theorem NDAs.stay {K w H H' d L xs} (n : NDAs K w H d L xs) (t : TupsStay H H') : NDAs K w H' d L xs := ⟨n.len, n.sys, Paired.mapP n.rel fun _ _ z => ⟨z.1, z.2.1.stay t, z.2.2⟩, n.nd⟩
theorem ND.stay {K w H H' d L} (h : ND K w H d L) (t : TupsStay H H') (k : ∀ o, H d = some o → H' d = some o) : ND K w H' d L := let ⟨xs, e, n⟩ := h; ⟨xs, k _ e, n.stay t⟩
theorem NF.stay {K w H H' d o L} (h : NF K w H d o L) (t : TupsStay H H') (k : ∀ o, H d = some o → H' d = some o) : NF K w H' d o L := let ⟨xs, e, n⟩ := h; ⟨xs, k _ e, n.stay t⟩
theorem NR.stay {K w H H' d L} (h : NR K w H d L) (t : TupsStay H H') (k : ∀ o, H d = some o → H' d = some o) : NR K w H' d L := by
  obtain ⟨xs, e, n⟩ := h
  refine ⟨xs, ?_, n.stay t⟩
  rcases e with e | ⟨o, e⟩
  · exact .inl (k _ e)
  · exact .inr ⟨o, k _ e⟩
section
variable {K : PySem.W.Frag} {H : Hp}
theorem KN.val {kvs : List (Pr × V)} {xs : List (NestedKey × Addr × Value)} (r : KN K H kvs xs) (k : Pr) : RelO (valV kvs k) ((atKey xs (keyN k)).map (·.2)) := by
  induction r with
  | nil => exact True.intro
  | @cons p q ps qs h t ih =>
    obtain ⟨h1, _, h2⟩ := h
    by_cases e : p.1 = k
    · have e' : q.1 = keyN k := by rw [← h1, e]
      have b : atKey (q :: qs) (keyN k) = some q.2 := by simp [atKey, List.find?_cons, e']
      rw [valV_pos e, b]
      exact h2
    · have e' : ¬ q.1 = keyN k := fun z => e (keyN_inj (h1.trans z))
      have b : atKey (q :: qs) (keyN k) = atKey qs (keyN k) := by simp [atKey, List.find?_cons, e']
      rw [valV_neg e, b]
      exact ih
theorem KN.repl {kvs : List (Pr × V)} {xs : List (NestedKey × Addr × Value)} (r : KN K H kvs xs) (k : Pr) {y : V} {u : Value} (ry : RelV y u) :
    KN K H (kvs.map fun kv => if kv.1 = k then (kv.1, y) else kv) (xs.map (putAt (keyN k) u)) := by
  induction r with
  | nil => exact .nil
  | @cons p q ps qs h t ih =>
    rw [List.map_cons, List.map_cons]
    refine .cons ?_ ih
    obtain ⟨h1, h2, h3⟩ := h
    unfold putAt
    by_cases e : p.1 = k
    · rw [if_pos e, if_pos (by rw [← h1, e])]
      exact ⟨h1, h2, ry⟩
    · rw [if_neg e, if_neg (fun z => e (keyN_inj (h1.trans z)))]
      exact ⟨h1, h2, h3⟩
theorem KN.put {kvs : List (Pr × V)} {xs : List (NestedKey × Addr × Value)} (r : KN K H kvs xs) (k : Pr) {b : Addr} {y : V} {u : Value} (hb : ProdAt K H b k) (ry : RelV y u) :
    KN K H (putK kvs k y) (storedH xs (keyN k) b u) := by
  have e : (kvs.any fun kv => decide (kv.1 = k)) = (atKey xs (keyN k)).isSome := by
    rw [valV_any, (r.val k).isSome_eq, Option.isSome_map]
  unfold putK storedH
  rw [e]
  by_cases q : (atKey xs (keyN k)).isSome = true
  · rw [if_pos q, if_pos q]
    exact r.repl k ry
  · rw [if_neg q, if_neg q]
    exact Paired.snoc r ⟨rfl, hb, ry⟩
theorem KN.drop {kvs : List (Pr × V)} {xs : List (NestedKey × Addr × Value)} (r : KN K H kvs xs) (k : Pr) : KN K H (dropK kvs k) (withoutH xs (keyN k)) := by
  induction r with
  | nil => exact .nil
  | @cons p q ps qs h t ih =>
    obtain ⟨h1, h2, h3⟩ := h
    unfold dropK withoutH
    rw [List.filter_cons, List.filter_cons]
    by_cases e : p.1 = k
    · rw [if_neg (by simp [e]), if_neg (by simp [← h1, e])]
      exact ih
    · rw [if_pos (by simp [e]), if_pos (by simp only [decide_eq_true_eq]; exact fun z => e (keyN_inj (h1.trans z)))]
      exact .cons ⟨h1, h2, h3⟩ ih
theorem nd_put {kvs : List (Pr × V)} (k : Pr) (v : V) (h : (kvs.map (·.1)).Nodup) : ((putK kvs k v).map (·.1)).Nodup := by
  unfold putK
  split
  · have e : (kvs.map fun kv => if kv.1 = k then (kv.1, v) else kv).map (·.1) = kvs.map (·.1) := by
      rw [List.map_map]
      refine List.map_congr_left fun x _ => ?_
      show (if x.1 = k then (x.1, v) else x).1 = x.1
      split <;> rfl
    rw [e]
    exact h
  · rename_i hn
    rw [List.map_append]
    refine List.nodup_append.mpr ⟨h, by simp, fun a ha b hb z => ?_⟩
    have eb : b = k := by simpa using hb
    subst z
    subst eb
    obtain ⟨x, hx, e⟩ := List.mem_map.mp ha
    exact hn (List.any_eq_true.mpr ⟨x, hx, by simp [e]⟩)
theorem nd_drop {kvs : List (Pr × V)} (k : Pr) (h : (kvs.map (·.1)).Nodup) : ((dropK kvs k).map (·.1)).Nodup := by
  unfold dropK
  exact h.sublist (List.Sublist.map _ List.filter_sublist)
end
section
variable {X : Cx} {pins : List (Addr × Obj)} {σ : L2.St} {H : Hp} {s : Shared} {a : Addr}
theorem rawN_ok {xs : List (NestedKey × Addr × Value)} (I : Inv X pins σ H s) (e : Rd H a (ndO X.w a xs)) : rawN X.w a xs s.heap := by
  have z : ObjOk X.prog X.w H s.heap a (ndO X.w a xs) := e.ok I.hok
  exact z.1
theorem keys_ok {L : List (Pr × V)} {xs : List (NestedKey × Addr × Value)} (I : Inv X pins σ H s) (r : KN X.K H L xs) : ∀ x ∈ xs, (nestedKind X.prog X.w).is s.heap x.1 x.2.1 := by
  induction r with
  | nil => intro x hx; exact nomatch hx
  | @cons p q ps qs h t ih =>
    intro x hx
    rcases List.mem_cons.mp hx with e | hx
    · subst e
      rw [← h.1]
      exact h.2.1.nested I
    · exact ih x hx
theorem keys_map {L : List (Pr × V)} {xs : List (NestedKey × Addr × Value)} {K : PySem.W.Frag} (r : KN K H L xs) : xs.map (·.1) = (L.map (·.1)).map keyN := by
  induction r with
  | nil => rfl
  | @cons p q ps qs h t ih => rw [List.map_cons, List.map_cons, List.map_cons, ih, ← h.1]
theorem nodup_keys {l : List Pr} (h : l.Nodup) : (l.map keyN).Nodup := by
  induction l with
  | nil => exact List.nodup_nil
  | cons x r ih =>
    obtain ⟨h1, h2⟩ := List.nodup_cons.mp h
    rw [List.map_cons]
    refine List.nodup_cons.mpr ⟨fun z => ?_, ih h2⟩
    obtain ⟨y, hy, e⟩ := List.mem_map.mp z
    rw [keyN_inj e] at hy
    exact h1 hy
/-- the library's own view of it -/
theorem NDAs.dict {L : List (Pr × V)} {xs : List (NestedKey × Addr × Value)} (I : Inv X pins σ H s) (n : NDAs X.K X.w H a L xs) (e : Rd H a (ndO X.w a xs)) : s.heap.DictOfH (nestedKind X.prog X.w) a xs := by
  obtain ⟨o, es, ep, h1, h2, h3, h4⟩ := rawN_ok I e
  refine ⟨o, es, ep, h1, h2, h3, h4, keys_ok I n.rel, ?_⟩
  rw [keys_map n.rel]
  exact nodup_keys n.nd
theorem rawN_of {h : Heap} {prog : Program} {w : World} {xs : List (NestedKey × Addr × Value)} (d : h.DictOfH (nestedKind prog w) a xs) : rawN w a xs h := by
  obtain ⟨o, es, ep, h1, h2, h3, h4, _⟩ := d
  exact ⟨o, es, ep, h1, h2, h3, h4⟩
theorem ndO_ok {prog : Program} {w : World} {H' : Hp} {h : Heap} {xs : List (NestedKey × Addr × Value)} (r : rawN w a xs h) : ObjOk prog w H' h a (ndO w a xs) := by
  refine ⟨r, let ⟨o, _, _, e, _⟩ := r; ⟨o, e⟩, fun h1 h2 x k => ?_⟩
  obtain ⟨o, es, ep, e, q⟩ := x
  exact ⟨o, es, ep, k _ e, q⟩
theorem notTup_nd {w : World} {xs : List (NestedKey × Addr × Value)} : NotTup (ndO w a xs) := True.intro
theorem notTup_ndf {w : World} {o : Obj} {xs : List (NestedKey × Addr × Value)} : NotTup (.frz o (ndO w a xs)) := True.intro
/-- its object is changed -/
theorem nd_write {L L' : List (Pr × V)} {xs xs' : List (NestedKey × Addr × Value)} {h' : Heap} {t' : Nat} (I : Inv X pins σ H s) (e : H a = some (ndO X.w a xs)) (hl : L'.length ≤ sizeLine) (n : NDAs X.K X.w H a L xs) (rel : KN X.K H L' xs') (hn : (L'.map (·.1)).Nodup)
    (dd : h'.DictOfH (nestedKind X.prog X.w) a xs') (hs : Heap.SameBut a s.heap h') : Inv X pins σ (upd H a (ndO X.w a xs')) { s with heap := h', toks := t' } ∧ ND X.K X.w (upd H a (ndO X.w a xs')) a L' := by
  have r := rawN_of dd
  refine ⟨d_write I (by rw [e]; exact True.intro) hs (let ⟨o, _, _, z, _⟩ := r; ⟨o, z⟩) (ndO_ok r), xs', upd_same, ?_⟩
  exact NDAs.stay (H := H) ⟨hl, n.sys, rel, hn⟩ (TupsStay.upd e True.intro)
theorem room9 {A : Around} (hu : A.units + 64 < cLine) : (nestedKind X.prog X.w).room A.in1 := by
  show A.in1.units + 8 < cLine
  rw [Around.in1_units]
  omega
theorem NR.typeIs {L : List (Pr × V)} (I : Inv X pins σ H s) (h : NR X.K X.w H a L) : s.TypeIs (.ref a) "dict" ∧ (∀ b, Value.ref a = .ref b → ∃ ob, s.heap.get? b = some ob ∧ ob.dict = none) ∧ (a == sysModules) = false := by
  obtain ⟨xs, e, n⟩ := h
  obtain ⟨o, es, ep, h1, h2, h3, h4⟩ := rawN_ok I e
  refine ⟨⟨o, h1, h2.1⟩, fun b q => ?_, n.sys⟩
  cases q
  exact ⟨o, h1, h2.2.1⟩
end
/-! ### their rules -/
def tNewN (w : World) : TE := fun _ H Q => ∀ p, H p = none → (p == sysModules) = false → Q (.ref p) (upd H p (ndO w p []))
def tGetN (K : PySem.W.Frag) (w : World) (td ty tx : TE) : TE := fun σ H Q => td σ H fun x H1 => ∃ a L0, x = .ref a ∧ NR K w H1 a L0 ∧ ty σ H1 fun y H2 => tx σ H2 fun z H3 => ∃ L k b, y = .ref b ∧ NR K w H3 a L ∧ ProdAt K H3 b k ∧ Q ((valV L k).getD z) H3
def tPopN (K : PySem.W.Frag) (w : World) (td ty tx : TE) : TE := fun σ H Q => td σ H fun x H1 => ∃ a L0, x = .ref a ∧ NR K w H1 a L0 ∧ ty σ H1 fun y H2 => tx σ H2 fun z H3 => ∃ L k b, y = .ref b ∧ ND K w H3 a L ∧ ProdAt K H3 b k ∧
  (∀ v o, valV L k = some v → ND K w (upd H3 a o) a (dropK L k) → Q v (upd H3 a o)) ∧ (valV L k = none → Q z H3)
def sPutN (K : PySem.W.Frag) (w : World) (td ty tv : TE) : TS := fun D σ H => tv σ H fun v H1 => td σ H1 fun x H2 => ty σ H2 fun y H3 => ∃ a L k b, x = .ref a ∧ y = .ref b ∧ ND K w H3 a L ∧ L.length < sizeLine ∧ ProdAt K H3 b k ∧
  ∀ o, ND K w (upd H3 a o) a (putK L k v) → D.nx σ (upd H3 a o)
section
variable {X : Cx} {o e f i value : Expr} {apos cpos pos pos' : Pos} {td ty tx tv : TE}
theorem pe_newN : PE X (.Dict [] [] pos) (tNewN X.w) := ⟨fun pins s σ H Q I h =>
  wpAny_Dict_empty ⟨.ref s.heap.objs.size, _, I.laid (a := s.heap.objs.size) (o := ndO X.w s.heap.objs.size []) (t' := s.toks) (fun _ _ q => Heap.get?_push_of_some _ q) (Nat.le_refl _)
    (ndO_ok ⟨_, #[], 0, Heap.get?_push_size _ rfl, ⟨rfl, rfl, rfl⟩, rfl, rfl⟩), rfl, h _ (I.hok.fresh (Nat.le_refl _)) (beq_eq_false_iff_ne.mpr (Ne.symm (Nat.ne_of_lt I.big)))⟩⟩
theorem pe_getN (hu : X.A.units + 64 < cLine) (ho : PE X o td) (he : PE X e ty) (hf : PE X f tx) (m : M2 X o "get" apos e f cpos) : PE X (.Call (.Attribute o "get" apos) [e, f] [] cpos) (tGetN X.K X.w td ty tx) := by
  refine ⟨fun pins s σ H Q I h => ?_⟩
  refine wpAny_Call_method m.base m.few m.line PySem.F.plainAttrs_dict PySem.F.slot_dict_get PySem.F.type_dict_get (thn (ho.run pins s σ H _ I h) fun u s1 ⟨x, H1, I1, rx, a, L0, ex, d, q1⟩ => ?_)
  subst ex
  obtain rfl : u = Value.ref a := rx
  obtain ⟨t1, t2, _⟩ := d.typeIs I1
  refine ⟨t1, t2, ?_⟩
  rw [m.trees]
  refine Calls.callWith_builtin rfl (Calls.evalArgs_plain (Calls.spliced_cons (thn (he.run pins s1 σ H1 _ I1 q1) fun iv s2 ⟨y, H2, I2, ry, q2⟩ =>
    Calls.spliced_cons (thn (hf.run pins s2 σ H2 _ I2 q2) fun fv s3 ⟨z, H3, I3, rz, L, k, b, ey, g, hk, q3⟩ => Calls.spliced_nil ?_))))
  subst ey
  obtain rfl : iv = Value.ref b := ry
  obtain ⟨xs, er, n⟩ := g
  have dd := n.dict I3 er
  refine call_meetsIn PySem.F.slot_dict_get dd.typeIs PySem.F.entry_dict_get (PySem.F.args_dict_get_3 _ _ _) (meetsH_dict_get_default (nestedKind X.prog X.w) a b n.sys fv) ⟨room9 hu, keyN k, xs, hk.nested I3, dd, ?_⟩
  exact ⟨_, H3, I3.tok _, (n.rel.val k).getD rz, q3⟩
theorem pe_popN (hu : X.A.units + 64 < cLine) (ho : PE X o td) (he : PE X e ty) (hf : PE X f tx) (m : M2 X o "pop" apos e f cpos) : PE X (.Call (.Attribute o "pop" apos) [e, f] [] cpos) (tPopN X.K X.w td ty tx) := by
  refine ⟨fun pins s σ H Q I h => ?_⟩
  refine wpAny_Call_method m.base m.few m.line PySem.F.plainAttrs_dict PySem.F.slot_dict_pop PySem.F.type_dict_pop (thn (ho.run pins s σ H _ I h) fun u s1 ⟨x, H1, I1, rx, a, L0, ex, d, q1⟩ => ?_)
  subst ex
  obtain rfl : u = Value.ref a := rx
  obtain ⟨t1, t2, _⟩ := d.typeIs I1
  refine ⟨t1, t2, ?_⟩
  rw [m.trees]
  refine Calls.callWith_builtin rfl (Calls.evalArgs_plain (Calls.spliced_cons (thn (he.run pins s1 σ H1 _ I1 q1) fun iv s2 ⟨y, H2, I2, ry, q2⟩ =>
    Calls.spliced_cons (thn (hf.run pins s2 σ H2 _ I2 q2) fun fv s3 ⟨z, H3, I3, rz, L, k, b, ey, g, hk, q3, q4⟩ => Calls.spliced_nil ?_))))
  subst ey
  obtain rfl : iv = Value.ref b := ry
  obtain ⟨xs, er, n⟩ := g
  have dd := n.dict I3 (.inl er)
  have hz : xs.length ≤ sizeLine := by rw [← Paired.length n.rel]; exact n.len
  cases l : valV L k with
  | none =>
    have hn : atKey xs (keyN k) = none := Option.map_eq_none_iff.mp (RelO.none_of (by rw [← l]; exact n.rel.val k))
    exact PySem.call_pop_default_heap (hsz := hz) (room9 hu) (hk.nested I3) n.sys dd hn fun tk => ⟨z, H3, I3.tok _, rz, q4 l⟩
  | some v =>
    obtain ⟨w', hw, rw'⟩ := RelO.some_of (v := v) (o := (atKey xs (keyN k)).map (·.2)) (by rw [← l]; exact n.rel.val k)
    obtain ⟨p, hp, hp2⟩ := Option.map_eq_some_iff.mp hw
    refine PySem.call_pop_heap (hsz := hz) (.inr ⟨fv, rfl⟩) (PySem.F.args_dict_pop_3 _ _ _) (room9 hu) (hk.nested I3) n.sys dd hp fun h' hm' hs => ?_
    have hl : (dropK L k).length ≤ sizeLine := Nat.le_trans (dropK_le L k) n.len
    obtain ⟨I4, n4⟩ := nd_write (t' := s3.toks + (nestedKind X.prog X.w).draws (keyN k)) I3 er hl n (n.rel.drop k) (nd_drop k n.nd) hm' hs
    rw [hp2]
    exact ⟨v, _, I4, rw', q3 v _ l n4⟩
theorem ps_putN (hu : X.A.units + 64 < cLine) (ho : PE X o td) (hi : PE X i ty) (hv : PE X value tv) (hs : swapsWith value (some (.Subscript o i pos')) pos.line X.env = pure false) :
    PS X (.Assign [.Subscript o i pos'] value pos) (sPutN X.K X.w td ty tv) := by
  refine ⟨fun pins s σ H D I h => ?_⟩
  refine wpAny_Assign_Subscript (thn (hv.run pins s σ H _ I h) fun r s1 ⟨v, H1, I1, rv, q1⟩ => thn (ho.run pins s1 σ H1 _ I1 q1) fun u s2 ⟨x, H2, I2, rx, q2⟩ => thn (hi.run pins s2 σ H2 _ I2 q2) fun iv s3 ⟨y, H3, I3, ry, a, L, k, b, ex, ey, g, hlt, hk, q3⟩ => ?_) hs
  subst ex ey
  obtain rfl : u = Value.ref a := rx
  obtain rfl : iv = Value.ref b := ry
  obtain ⟨xs, er, n⟩ := g
  have dd := n.dict I3 (.inl er)
  have hz : xs.length ≤ sizeLine := by rw [← Paired.length n.rel]; exact n.len
  refine PySem.wpAny_setItem_heap (hsz := hz) (room9 hu) (hk.nested I3) dd fun h' dd' hs' => ?_
  have hl : (putK L k v).length ≤ sizeLine := by have := length_putK L k v; omega
  obtain ⟨I4, n4⟩ := nd_write (t' := s3.toks + (nestedKind X.prog X.w).draws (keyN k)) I3 er hl n (n.rel.put k hk rv) (nd_put k v n.nd) dd' hs'
  exact ⟨σ, _, I4, q3 _ n4⟩
end
/-! ### .. walked by its pairs, and copied by a comprehension -/
/-- the entries of such a dict that is locked -/
theorem NF.entries {X : Cx} {pins : List (Addr × Obj)} {σ : L2.St} {H : Hp} {s : Shared} {d : Addr} {o : Obj} {L : List (Pr × V)} (I : Inv X pins σ H s) (h : NF X.K X.w H d o L) :
    s.heap.get? d = some o ∧ ∃ es ep, o.data = .dict es ep ∧ DT.Raw s.heap d es ep ∧ es.size = L.length ∧
      ∀ i (hi : i < es.size), ∃ (k : Pr) (v : V) (b : Addr), L[i]? = some (k, v) ∧ es[i].key = .ref b ∧ RelV v es[i].val ∧ ProdAt X.K H b k := by
  obtain ⟨xs, e, n⟩ := h
  have hd : s.heap.get? d = some o := (I.hok d _ e).1
  obtain ⟨o', es, ep, h1, h2, h3, h4⟩ := rawN_ok I (.inr ⟨o, e⟩)
  rw [hd] at h1
  cases h1
  have hl : L.length = xs.length := Paired.length n.rel
  have hs : es.size = L.length := by rw [← Array.length_toList, h4, List.length_map, hl]
  refine ⟨hd, es, ep, h3, ⟨o, hd, h2, h3⟩, hs, fun i hi => ?_⟩
  have hiL : i < L.length := by omega
  obtain ⟨q, hq, r1, r2, r3⟩ := paired_get n.rel (List.getElem?_eq_getElem hiL)
  have en : es[i] = (⟨q.1.hash X.w, .ref q.2.1, q.2.2⟩ : DictEntry) := by
    have z : es[i]? = (xs.map (fun x => (⟨x.1.hash X.w, .ref x.2.1, x.2.2⟩ : DictEntry)))[i]? := by rw [← Array.getElem?_toList, h4]
    rw [List.getElem?_map, hq, Array.getElem?_eq_getElem hi] at z
    exact Option.some.inj z
  exact ⟨L[i].1, L[i].2, q.2.1, List.getElem?_eq_getElem hiL, by rw [en], by rw [en]; exact r3, r2⟩
/-- its pairs, each a new tuple -/
def ItN (K : PySem.W.Frag) (w : World) (d : Addr) (o : Obj) (L : List (Pr × V)) : It :=
  ⟨fun i H => NF K w H d o L ∧ i < L.length, fun i H x H' => ∃ (T b : Addr) (k : Pr) (v : V), L[i]? = some (k, v) ∧ x = .ref T ∧ H T = none ∧ ProdAt K H b k ∧ H' = upd H T (.tup [.ref b, v]), fun i H => NF K w H d o L ∧ L.length ≤ i⟩
theorem turn_itemsN {P : Program} {w : World} {K : PySem.W.Frag} {d : Addr} {o : Obj} {es : Array DictEntry} {ep : Nat} {L : List (Pr × V)} {elts : List Expr} {kk : Nat} {tpos : Pos} (it : Addr) (hod : o.data = .dict es ep) (hsz : es.size = L.length) :
    Turn P w K (.Tuple elts kk tpos) (ItN K w d o L) [it] it (fun i h => ∃ ok ov, IsItemIter h it d i es.size ep ok ov) where
  mem := by simp
  obj := fun i h ⟨ok, ov, e⟩ b hb => by
    cases (show b = it by simpa using hb)
    exact ⟨_, e, fun v z => nomatch z⟩
  keep := fun i h h' ⟨ok, ov, e⟩ k => ⟨ok, ov, k it (by simp) _ e⟩
  item := by
    intro X hP hw hK hc i pins s σ H E I hf st hg
    subst hP hw hK
    obtain ⟨hF, hi⟩ := hg
    obtain ⟨hgd, es', ep', hdt, raw, _, ent⟩ := hF.entries I
    obtain ⟨rfl, rfl⟩ := dict_ep hod hdt
    obtain ⟨ok, ov, he⟩ := st
    have hi' : i < es'.size := by omega
    obtain ⟨k, v, b, hL, hk, rv, hb⟩ := ent i hi'
    have hlt : it < s.heap.objs.size := Heap.lt_size he
    refine DT.nextI he raw hi' fun h1 hout hT hz hk1 => ⟨_, rfl, wpAny_letOwnedTupleGo_items (s := { s with heap := h1 }) hout fun h2 he2 sb => ?_⟩
    have keepAll : ∀ c ob, c ∉ [it] → s.heap.get? c = some ob → h2.get? c = some ob := fun c ob hc' e => (sb.2 c (by simpa using hc')).trans (hk1 c ob (by simpa using hc') e)
    have tupAt : h2.get? s.heap.objs.size = some { cls := .type "tuple", data := .seq #[es'[i].key, es'[i].val] } := (sb.2 _ (Nat.ne_of_gt hlt)).trans hT
    have fresh : H s.heap.objs.size = none := I.hok.fresh (Nat.le_refl _)
    have okT : ObjOk X.prog X.w (upd H s.heap.objs.size (.tup [.ref b, v])) h2 s.heap.objs.size (.tup [.ref b, v]) :=
      ⟨by show 2 ≤ sizeLine; decide, [es'[i].key, es'[i].val], .cons hk (.cons rv .nil), ⟨_, tupAt, rfl, _, rfl⟩⟩
    refine ⟨.ref s.heap.objs.size, _, I.turnedNew (t' := s.toks) (ch := [it]) keepAll hf (Nat.le_refl _) okT, rfl, ⟨_, b, k, v, hL, rfl, fresh, hb, rfl⟩, ⟨_, _, he2⟩, fun c hc' => ?_⟩
    cases (show c = it by simpa using hc')
    rw [upd_ne (Nat.ne_of_lt hlt)]
    exact (hf it (by simp)).1
  done := by
    intro X hP hw hK hc i pins s σ H E I hf st hg
    subst hP hw hK
    obtain ⟨hF, hi⟩ := hg
    obtain ⟨hgd, es', ep', hdt, raw, hs', _⟩ := hF.entries I
    obtain ⟨rfl, rfl⟩ := dict_ep hod hdt
    obtain ⟨f0, f1, f2, f3, f4, f5⟩ := hf it (by simp)
    obtain ⟨ok, ov, he⟩ := st
    exact DT.endI (I.ok.hd hc) he raw (by omega) fun h' eb => ⟨rfl, I.turned (t' := s.toks) (fun c ob hc' e => eb c ob hc' e) f0 f1 f3 f4 f5⟩
  self := fun A i s Q E ⟨_, _, e⟩ h => PySem.W.kcp_self e h
def iItemsN (K : PySem.W.Frag) (w : World) (td : TE) : TI := fun σ H R => td σ H fun x H1 => ∃ d o L, x = .ref d ∧ NF K w H1 d o L ∧ R (ItN K w d o L) H1
theorem pi_itemsN {X : Cx} {e : Expr} {td : TE} {apos cpos : Pos} {elts : List Expr} {kk : Nat} {tpos : Pos} (he : PE X e td) (hbase : attributeBase e "items" X.env (eval e X.env) = eval e X.env := by rfl) (hline : (apos.endLine == cpos.line) = true := by rfl) :
    PI X (.Tuple elts kk tpos) (.Call (.Attribute e "items" apos) [] [] cpos) (iItemsN X.K X.w td) := by
  refine ⟨fun pins s σ H R I h => wpAny_Call_method (T := "dict") (id := "dict.items") hbase rfl hline F.plainAttrs_dict F.slot_dict_items F.type_dict_items (thn (he.run pins s σ H _ I h) fun u s1 ⟨x, H1, I1, rx, d, o, L, ex, hF, q⟩ => ?_)⟩
  subst ex
  obtain rfl : u = Value.ref d := rx
  obtain ⟨t1, t2, hs⟩ := hF.r.typeIs I1
  obtain ⟨hgd, es, ep, hdt, raw, hsz, _⟩ := hF.entries I1
  refine ⟨t1, t2, ?_⟩
  have view : Inv X pins σ H1 { s1 with heap := s1.heap.push { cls := .type "dict_items", data := .fields #[.ref d] } } := I1.kept (t' := s1.toks) fun b ob z => Heap.get?_push_of_some _ z
  refine method_meetsIn F.slot_dict_items F.entry_dict_items rfl (PySem.evalArgs_none ⟨rfl, raw.typeIs, F.args_dict_items_1 _, _, DT.meetsItems (es := es) (ep := ep) hs, raw, ?_⟩)
  refine DT.iterI (d := d) (es := es) (ep := ep) (s := { s1 with heap := s1.heap.push { cls := .type "dict_items", data := .fields #[.ref d] } }) ⟨_, Heap.get?_push_size _ rfl, rfl, rfl⟩ (raw.push _) ?_
  exact pi_one (tk := s1.toks) view _ (turn_itemsN _ hdt hsz) ⟨.none, .none, Heap.get?_push_size _ rfl⟩ q
/-- for k, v in d.items() by turns -/
theorem for_itemsN {K : PySem.W.Frag} {w : World} {d : Addr} {o : Obj} {L : List (Pr × V)} {g : TG} {tb : TS} {D : Ends} {σ : L2.St} {H : Hp} (Pv : Nat → L2.St → Hp → Prop) (h0 : Pv 0 σ H) (hl : ∀ i σ H, i ≤ L.length → Pv i σ H → NF K w H d o L)
    (hs : ∀ i k v σ H T b, L[i]? = some (k, v) → Pv i σ H → H T = none → ProdAt K H b k → g (.ref T) σ (upd H T (.tup [.ref b, v])) fun σ2 H2 => tb { D with nx := Pv (i + 1), ct := Pv (i + 1), bk := D.nx } σ2 H2) (hd : ∀ σ H, Pv L.length σ H → D.nx σ H) :
    ∃ W : Nat → Nat → L2.St → Hp → Prop, (∃ m, W 0 m σ H) ∧ ∀ i m σ H, W i m σ H → ((ItN K w d o L).stop i H ∧ D.nx σ H) ∨ ((ItN K w d o L).go i H ∧ ∃ N : L2.St → Hp → Prop, (∀ σ' H', N σ' H' → ∃ m', m' < m ∧ W (i + 1) m' σ' H') ∧
      ∀ x H', (ItN K w d o L).yld i H x H' → g x σ H' fun σ2 H2 => tb { D with nx := N, ct := N, bk := D.nx } σ2 H2) := by
  refine ⟨fun i m σ H => m = L.length - i ∧ i ≤ L.length ∧ Pv i σ H, ⟨_, rfl, Nat.zero_le _, h0⟩, fun i m σ H ⟨em, hi, p⟩ => ?_⟩
  have F := hl i σ H hi p
  by_cases lt : i < L.length
  · refine .inr ⟨⟨F, lt⟩, Pv (i + 1), fun σ' H' p' => ⟨L.length - (i + 1), by omega, rfl, lt, p'⟩, fun x H' ⟨T, b, k, v, hL, ex, nT, hb, eH⟩ => ?_⟩
    subst ex
    subst eH
    exact hs i k v σ H T b hL p nT hb
  · have e : i = L.length := by omega
    subst e
    exact .inl ⟨⟨F, Nat.le_refl _⟩, hd σ H p⟩
/-! ### a dict comprehension whose keys are products -/
def setN (K : PySem.W.Frag) (w : World) (D : Addr) (y z : V) (H : Hp) (Nx : Hp → Prop) : Prop := ∃ L k b, y = .ref b ∧ ND K w H D L ∧ L.length < sizeLine ∧ ProdAt K H b k ∧ ∀ o, ND K w (upd H D o) D (putK L k z) → Nx (upd H D o)
theorem setN_run {X : Cx} {pins : List (Addr × Obj)} {σ : L2.St} {H : Hp} {s : Shared} {E : Value → Shared → Prop} {D : Addr} {y z : V} {u r : Value} {Nx : Hp → Prop} {Q : Unit → Shared → Prop} (hu : X.A.units + 64 < cLine) (I : Inv X pins σ H s) (ry : RelV y u) (rz : RelV z r)
    (st : setN X.K X.w D y z H Nx) (h : ∀ s' H', Inv X pins σ H' s' → Nx H' → Q () s') : wpAny (model X.prog X.w) X.A (dictSet D u r) Q E s := by
  obtain ⟨L, k, b, ey, ⟨xs, er, n⟩, hlt, hk, q⟩ := st
  subst ey
  obtain rfl : u = Value.ref b := ry
  have dd := n.dict I (.inl er)
  have room : (nestedKind X.prog X.w).room X.A := by
    show X.A.units + 8 < cLine
    omega
  refine PySem.wpAny_dictSet_heap (hsz := by rw [← Paired.length n.rel]; exact n.len) room (hk.nested I) dd fun h' dd' hs' => ?_
  have hl : (putK L k z).length ≤ sizeLine := by have := length_putK L k z; omega
  obtain ⟨I', n'⟩ := nd_write (t' := s.toks + (nestedKind X.prog X.w).draws (keyN k)) I er hl n (n.rel.put k hk rz) (nd_put k z n.nd) dd' hs'
  exact h _ _ I' (q _ n')
section
variable {X : Cx}
/-- {k: v for target in iter if ..}: D the new dict -/
def tDn (K : PySem.W.Frag) (w : World) (wi : TI) (g : TG) (tt : TT) (tk tv : TE) (vs : List Nat) : TE := fun σ H Q => wi σ H fun J H1 => ∀ D, H1 D = none → (D == sysModules) = false → ∃ W : Nat → Nat → Hp → Prop, (∃ m, W 0 m (upd H1 D (ndO w D []))) ∧ ∀ i m H, W i m H →
  (J.stop i H ∧ Q (.ref D) H) ∨ (J.go i H ∧ ∃ Nx : Hp → Prop, (∀ H', Nx H' → ∃ m', m' < m ∧ W (i + 1) m' H') ∧ ∀ x H', J.yld i H x H' → g x (wipe σ vs) H' fun σ2 H2 => wipe σ2 vs = wipe σ vs ∧ tt σ2 H2 fun b H3 =>
    if b = true then tk σ2 H3 fun y H4 => tv σ2 H4 fun z H5 => setN K w D y z H5 Nx else Nx H3)
theorem dn_core {pins : List (Addr × Obj)} {s : Shared} {σ : L2.St} {H : Hp} {Q : VK} {kx vx tg iter : Expr} {ifs : List Expr} {scope : Scope} {own : List (Str × Nat)} {pos pos' : Pos} {wi : TI} {g : TG} {tt : TT} {tk tv : TE} {use : Option (Value → Sem Unit)} {Qf : Value → Shared → Prop}
    (hu : X.A.units + 64 < cLine) (hc : X.calm = true) (hN : X.N.Nodup) (I : Inv X pins σ H s) (hi : PI X tg iter wi) (ok : BlkOk X.N X.env.scope scope own)
    (hg : ∀ (s : Shared) (H : Hp) (C : Addr) (cl : List (Str × Addr)) (fp : List Addr), PG (X.blk s H scope (compEnvC scope cl C X.env) fp) tg g) (ht : ∀ (s : Shared) (H : Hp) (C : Addr) (cl : List (Str × Addr)) (fp : List Addr), PTs (X.blk s H scope (compEnvC scope cl C X.env) fp) ifs tt) (hk : ∀ (s : Shared) (H : Hp) (C : Addr) (cl : List (Str × Addr)) (fp : List Addr), PE (X.blk s H scope (compEnvC scope cl C X.env) fp) kx tk) (he : ∀ (s : Shared) (H : Hp) (C : Addr) (cl : List (Str × Addr)) (fp : List Addr), PE (X.blk s H scope (compEnvC scope cl C X.env) fp) vx tv) (hs : ∀ x, foldedSetIterable iter X.env x = pure x)
    (h : tDn X.K X.w wi g tt tk tv (own.map (·.2)) σ H Q)
    (hRR : ∀ D C s' m H', Inv X pins σ H' s' → Q (.ref D) H' → s'.heap.Ns C m → FpOk X pins H' C → compPost (model X.prog X.w) X.A X.xe use Qf (.ref D) C (.ok .next) s') :
    wpAny (model X.prog X.w) X.A (comprehension (.DictComp kx vx [⟨tg, iter, ifs, 0⟩] scope pos) scope X.env pos' newDict false (eval iter X.env) use) Qf X.xe s := by
  have free : ∀ y ∈ scope.names, y.2 = .free → ∃ c, X.env.cells.lookup y.1 = some c := fun y hy e => (ok.free y hy e).elim (fun k => I.ok.has _ (.inl k)) (fun k => I.ok.has _ (.inr k))
  refine wpAny_comprehension_free (use := use) rfl hs (closure_ok free) ok.kind (fun y hy e => by rw [ok.uniq y hy, e]) (thn (hi.run pins s σ H _ I h) fun _ _ hx => thn hx fun _ s2 h2 => ?_)
  obtain ⟨it, fp, tn, J, H2, rfl, I2, T, st2, f2, q⟩ := h2
  refine wpAny_newObj_type (newEnv_comp ?_)
  -- the new dict, at D
  generalize hD : s2.heap.objs.size = D
  have nD : H2 D = none := I2.hok.fresh (Nat.le_of_eq hD)
  have sD : (D == sysModules) = false := by rw [← hD]; exact beq_eq_false_iff_ne.mpr (Ne.symm (Nat.ne_of_lt I2.big))
  obtain ⟨W, ⟨m0, w0⟩, turn⟩ := q D nD sD
  generalize hs3 : ({ s2 with heap := s2.heap.push { cls := .type "dict", data := .dict #[] } } : Shared) = s3
  have h3 : s3.heap = s2.heap.push { cls := .type "dict", data := .dict #[] } := by rw [← hs3]
  have I3 : Inv X pins σ (upd H2 D (ndO X.w D [])) s3 := by
    subst hs3
    refine I2.laid (t' := s2.toks) (fun b o e => Heap.get?_push_of_some _ e) (Nat.le_of_eq hD) (ndO_ok ⟨{ cls := .type "dict", data := .dict #[] }, #[], 0, ?_, ⟨rfl, rfl, rfl⟩, rfl, rfl⟩)
    rw [← hD]
    exact Heap.get?_push_size _ rfl
  have below : ∀ b ∈ fp, b < s2.heap.objs.size := fun b hb => let ⟨_, e, _⟩ := T.obj _ _ st2 b hb; Heap.lt_size e
  have f3 : ∀ b ∈ fp, FpOk X pins (upd H2 D (ndO X.w D [])) b ∧ b < s3.heap.objs.size := fun b hb => by
    refine ⟨⟨?_, (f2 b hb).2⟩, by rw [h3, Heap.size_push]; exact Nat.lt_succ_of_lt (below b hb)⟩
    rw [upd_ne (by rw [← hD]; exact Nat.ne_of_lt (below b hb))]
    exact (f2 b hb).1
  have st3 : tn 0 s3.heap := T.keep _ _ _ st2 fun b _ o e => by rw [h3]; exact Heap.get?_push_of_some _ e
  have I4 := block_start I3 ok hN f3
  have pg := hg s3 (upd H2 D (ndO X.w D [])) s3.heap.objs.size (cellsFrom (s3.heap.objs.size + 1) scope.names (cloFrom X.env.cells scope.names [])) fp
  have pt := ht s3 (upd H2 D (ndO X.w D [])) s3.heap.objs.size (cellsFrom (s3.heap.objs.size + 1) scope.names (cloFrom X.env.cells scope.names [])) fp
  have pk := hk s3 (upd H2 D (ndO X.w D [])) s3.heap.objs.size (cellsFrom (s3.heap.objs.size + 1) scope.names (cloFrom X.env.cells scope.names [])) fp
  have pe := he s3 (upd H2 D (ndO X.w D [])) s3.heap.objs.size (cellsFrom (s3.heap.objs.size + 1) scope.names (cloFrom X.env.cells scope.names [])) fp
  have nfp : ∀ b ∈ fp, (upd H2 D (ndO X.w D [])) b = none := fun b hb => (f3 b hb).1.1
  show codeAny _ _ (.compStart (.DictComp kx vx [⟨tg, iter, ifs, 0⟩] scope pos) 0 (.ref it) (.ref D) (compEnvC scope (cellsFrom (s3.heap.objs.size + 1) scope.names (cloFrom X.env.cells scope.names [])) s3.heap.objs.size X.env))
    (compPost (model X.prog X.w) X.A X.xe use Qf (.ref D) s3.heap.objs.size) { s3 with heap := pushCells (s3.heap.push { cls := .type "dict", data := .dict #[] }) scope.names }
  generalize hce : compEnvC scope (cellsFrom (s3.heap.objs.size + 1) scope.names (cloFrom X.env.cells scope.names [])) s3.heap.objs.size X.env = ce at I4 pg pt pk pe ⊢
  have cL : ce.locals = s3.heap.objs.size := by rw [← hce]; rfl
  generalize upd H2 D (ndO X.w D []) = H3 at I3 I4 pg pt pk pe w0 nfp f3
  generalize hs4 : ({ s3 with heap := pushCells (s3.heap.push { cls := .type "dict", data := .dict #[] }) scope.names } : Shared) = s4 at I4 ⊢
  have st4 : tn 0 s4.heap := T.keep _ _ _ st3 fun b _ o e => by rw [← hs4]; exact pushCells_keeps _ _ _ _ (Heap.get?_push_of_some _ e)
  have stat : ∀ {σ' : L2.St} {H' : Hp} {s' : Shared}, Inv (X.blk s3 H3 scope ce fp) [] σ' H' s' → (∀ b ∈ fp, H' b = none) → ∀ b ∈ fp, FpOk (X.blk s3 H3 scope ce fp) [] H' b := fun I' hn b hb =>
    ⟨hn b hb, (I'.ok.exf b hb).1, I'.ok.exfs b hb, .inl hb, fun x c e => (I'.ok.exf b hb).2 x c e, fun p hp => absurd (show p ∈ ([] : List (Addr × Obj)) ++ [] from hp) (by simp)⟩
  let Here : Nat → Shared → Prop := fun n s' => ∃ i H', Inv (X.blk s3 H3 scope ce fp) [] (wipe σ (own.map (·.2))) H' s' ∧ tn i s'.heap ∧ (∀ b ∈ fp, H' b = none) ∧ W i n H'
  have loop : codeAny (model X.prog X.w) X.A (.compLoop (.DictComp kx vx [⟨tg, iter, ifs, 0⟩] scope pos) 0 (.ref it) (.ref D) ce) (compPost (model X.prog X.w) X.A X.xe use Qf (.ref D) s3.heap.objs.size) s4 := by
    refine compLoop_anyD Here (fun n s5 hHere => ?_) m0 ⟨0, H3, I4, st4, nfp, w0⟩
    obtain ⟨i, H5, I5, st5, n5, w5⟩ := hHere
    rcases turn i n H5 w5 with ⟨stop, fine⟩ | ⟨go, Nx, hNx, step⟩
    · refine thnF (T.done (X.blk s3 H3 scope ce fp) rfl rfl rfl hc i [] s5 _ H5 (fun _ _ => False) I5 (stat I5 n5) st5 stop) fun r s6 ⟨hr, I6⟩ => ?_
      subst hr
      -- back in the def
      have I7 : Inv X pins σ H5 s6 := I3.call' (ch := fp) I6.os I6.base I6.hok I6.bare fun b hb => let z := (f3 b hb).1; ⟨z.2.2.2.1, z.2.1, z.2.2.2.2.1, z.2.2.2.2.2⟩
      have nC : H5 s3.heap.objs.size = none := cL ▸ (show H5 ce.locals = none from I6.free)
      obtain ⟨m, ns, _⟩ := I6.loc
      have ns : s6.heap.Ns s3.heap.objs.size m := cL ▸ (show s6.heap.Ns ce.locals m from ns)
      exact hRR D s3.heap.objs.size s6 m H5 I7 fine ns (I3.fpOk (Nat.le_refl _) nC)
    · refine thnF (T.item (X.blk s3 H3 scope ce fp) rfl rfl rfl hc i [] s5 _ H5 (fun _ _ => False) I5 (stat I5 n5) st5 go) fun r s6 ⟨u, hr, h6⟩ => ?_
      subst hr
      refine thnF h6 fun _ s7 ⟨x, H7, I7, r7, y7, st7, n7⟩ => ?_
      have I7p := I7.pinned (stat I7 n7) (T.obj _ _ st7)
      refine thnF (pg.run _ s7 _ H7 x u _ I7p r7 (step x H7 y7)) fun _ s8 ⟨σ8, H8, I8, hw8, q8⟩ => thnF (pt.run _ s8 σ8 H8 _ I8 q8) fun b s9 ⟨H9, I9, q9⟩ => ?_
      -- the turn's end
      have fin : ∀ {s' : Shared} {H' : Hp}, Inv (X.blk s3 H3 scope ce fp) ([] ++ pinsAt fp s7.heap) σ8 H' s' → Nx H' → ∃ m, m < n ∧ Here m s' := fun {s' H'} I' nx => by
        obtain ⟨m', hm, w'⟩ := hNx H' nx
        have pin' : ∀ b ∈ fp, ∀ o, s7.heap.get? b = some o → s'.heap.get? b = some o ∧ H' b = none := fun b hb o e =>
          let z := I'.pin (b, o) (List.mem_append_right _ (List.mem_append_right _ (mem_pinsAt hb e)))
          ⟨z.1, z.2.1⟩
        refine ⟨m', hm, i + 1, H', (I'.unpinned (pins := [])).weak (by rw [← hw8, wipe_length]) (fun j v e => ?_), T.keep _ _ _ st7 fun b hb o e => (pin' b hb o e).1, fun b hb => ?_, w'⟩
        · rw [← hw8] at e
          exact (wipe_some e).1
        · obtain ⟨o, e, _⟩ := T.obj _ _ st7 b hb
          exact (pin' b hb o e).2
      cases b with
      | false =>
        simp only [Bool.false_eq_true, if_false] at q9 ⊢
        exact fin I9 q9
      | true =>
        simp only [if_true] at q9 ⊢
        refine thnF (pk.run _ s9 σ8 H9 _ I9 q9) fun z s10 ⟨yk, H10, I10, r10, q10⟩ => thnF (pe.run _ s10 σ8 H10 _ I10 q10) fun z2 s11 ⟨yv, H11, I11, r11, put⟩ => ?_
        exact setN_run (X := X.blk s3 H3 scope ce fp) hu I11 r10 r11 put fun s12 H12 I12 nx => fin I12 nx
  exact codeAny_compStart_dict loop (T.self X.A 0 _ _ _ st4 loop)
theorem pe_dn {kx vx tg iter : Expr} {ifs : List Expr} {scope : Scope} {own : List (Str × Nat)} {pos : Pos} {wi : TI} {g : TG} {tt : TT} {tk tv : TE} (hu : X.A.units + 64 < cLine) (hc : X.calm = true) (hN : X.N.Nodup) (hi : PI X tg iter wi) (ok : BlkOk X.N X.env.scope scope own)
    (hg : ∀ (s : Shared) (H : Hp) (C : Addr) (cl : List (Str × Addr)) (fp : List Addr), PG (X.blk s H scope (compEnvC scope cl C X.env) fp) tg g) (ht : ∀ (s : Shared) (H : Hp) (C : Addr) (cl : List (Str × Addr)) (fp : List Addr), PTs (X.blk s H scope (compEnvC scope cl C X.env) fp) ifs tt) (hk : ∀ (s : Shared) (H : Hp) (C : Addr) (cl : List (Str × Addr)) (fp : List Addr), PE (X.blk s H scope (compEnvC scope cl C X.env) fp) kx tk) (he : ∀ (s : Shared) (H : Hp) (C : Addr) (cl : List (Str × Addr)) (fp : List Addr), PE (X.blk s H scope (compEnvC scope cl C X.env) fp) vx tv) (hs : ∀ x, foldedSetIterable iter X.env x = pure x := by intro _; rfl) :
    PE X (.DictComp kx vx [⟨tg, iter, ifs, 0⟩] scope pos) (tDn X.K X.w wi g tt tk tv (own.map (·.2))) := by
  refine ⟨fun pins s σ H Q I h => ?_⟩
  rw [arm_eval_DictComp]
  refine dn_core hu hc hN I hi ok hg ht hk he hs h fun D C s' m H' I' q hn ⟨f0, f1, f2, f3, f4, f5⟩ => ⟨m, hn, fun h'' sb => ?_⟩
  exact ⟨.ref D, H', I'.turned (t' := s'.toks) (fun b o hb e => (sb.2 b hb).trans e) f0 f1 f3 f4 f5, rfl, q⟩
/-- .. over the pairs of such a dict that is locked -/
theorem dn_items {K : PySem.W.Frag} {w : World} {d : Addr} {o : Obj} {L : List (Pr × V)} {g : TG} {tt : TT} {tk tv : TE} {vs : List Nat} {σ : L2.St} {H1 : Hp} {D : Addr} {Qd : Hp → Prop} (Pv : Nat → Hp → Prop) (h0 : Pv 0 (upd H1 D (ndO w D []))) (hl : ∀ i H, i ≤ L.length → Pv i H → NF K w H d o L)
    (hs : ∀ i k v H T b, L[i]? = some (k, v) → Pv i H → H T = none → ProdAt K H b k → g (.ref T) (wipe σ vs) (upd H T (.tup [.ref b, v])) fun σ2 H2 => wipe σ2 vs = wipe σ vs ∧ tt σ2 H2 fun b H3 =>
      if b = true then tk σ2 H3 fun y H4 => tv σ2 H4 fun z H5 => setN K w D y z H5 (Pv (i + 1)) else Pv (i + 1) H3) (hd : ∀ H, Pv L.length H → Qd H) :
    ∃ W : Nat → Nat → Hp → Prop, (∃ m, W 0 m (upd H1 D (ndO w D []))) ∧ ∀ i m H, W i m H → ((ItN K w d o L).stop i H ∧ Qd H) ∨ ((ItN K w d o L).go i H ∧ ∃ Nx : Hp → Prop, (∀ H', Nx H' → ∃ m', m' < m ∧ W (i + 1) m' H') ∧
      ∀ x H', (ItN K w d o L).yld i H x H' → g x (wipe σ vs) H' fun σ2 H2 => wipe σ2 vs = wipe σ vs ∧ tt σ2 H2 fun b H3 => if b = true then tk σ2 H3 fun y H4 => tv σ2 H4 fun z H5 => setN K w D y z H5 Nx else Nx H3) := by
  refine ⟨fun i m H => m = L.length - i ∧ i ≤ L.length ∧ Pv i H, ⟨_, rfl, Nat.zero_le _, h0⟩, fun i m H ⟨em, hi, p⟩ => ?_⟩
  have F := hl i H hi p
  by_cases lt : i < L.length
  · refine .inr ⟨⟨F, lt⟩, Pv (i + 1), fun H' p' => ⟨L.length - (i + 1), by omega, rfl, lt, p'⟩, fun x H' ⟨T, b, k, v, hL, ex, nT, hb, eH⟩ => ?_⟩
    subst ex
    subst eH
    exact hs i k v H T b hL p nT hb
  · have e : i = L.length := by omega
    subst e
    exact .inl ⟨⟨F, Nat.le_refl _⟩, hd H p⟩
end
theorem nodup_len {α : Type} [DecidableEq α] : ∀ {l m : List α}, l.Nodup → (∀ x ∈ l, x ∈ m) → l.length ≤ m.length
  | [], _, _, _ => Nat.zero_le _
  | x :: r, m, h, s => by
    obtain ⟨h1, h2⟩ := List.nodup_cons.mp h
    have hx : x ∈ m := s x (by simp)
    have ih := nodup_len (m := m.erase x) h2 fun y hy => (List.mem_erase_of_ne (fun e => h1 (by rw [← e]; exact hy))).mpr (s y (by simp [hy]))
    rw [List.length_erase_of_mem hx] at ih
    have := List.length_pos_of_mem hx
    rw [List.length_cons]
    omega
/-! ### the draws -/
/-- the three cells of the drawing: a seed, the list of what is left of the script, a place -/
structure HAt (H : Hp) (h c : Addr) (s k : Int) (cs : List Int) : Prop where
  h : H h = some (.lst [.int s, .ref c, .int k])
  c : H c = some (.lst (cs.map V.int))
  n : cs.length ≤ 63
theorem HAt.ne {H : Hp} {h c : Addr} {s k : Int} {cs : List Int} (D : HAt H h c s k cs) : h ≠ c := by
  refine ne_of D.h D.c (fun e => ?_)
  cases cs with
  | nil => cases e
  | cons x r =>
    cases r with
    | nil => cases e
    | cons y r => cases e
/-- all that was tracked is as it was, but for the drawing's two lists -/
def But (h c : Addr) (H H' : Hp) : Prop := ∀ b o, H b = some o → b ≠ h → b ≠ c → H' b = some o
theorem But.refl (h c : Addr) (H : Hp) : But h c H H := fun _ _ e _ _ => e
theorem But.trans {h c : Addr} {H H1 H2 : Hp} (a : But h c H H1) (b : But h c H1 H2) : But h c H H2 := fun x o e n1 n2 => b x o (a x o e n1 n2) n1 n2
theorem But.same {h c : Addr} {H H1 H2 : Hp} (a : But h c H H1) (b : Same H1 H2) : But h c H H2 := fun x o e n1 n2 => b x o (a x o e n1 n2)
theorem Same.but {h c : Addr} {H H1 : Hp} (a : Same H H1) : But h c H H1 := fun x o e _ _ => a x o e
theorem HAt.same {H H' : Hp} {h c : Addr} {s k : Int} {cs : List Int} (D : HAt H h c s k cs) (e : Same H H') : HAt H' h c s k cs := ⟨e _ _ D.h, e _ _ D.c, D.n⟩
def spNext : Sp := fun vs H Q _ => ∃ (h c : Addr) (s k m : Int) (cs : List Int), vs = [.ref h, .int m] ∧ 0 < m ∧ m < 1073741824 ∧ HAt H h c s k cs ∧
  ∀ (s' k' : Int) (cs' : List Int) (r : Int) (H' : Hp), 0 ≤ r → r < m → HAt H' h c s' k' cs' → But h c H H' → Q (.int r) H'
theorem fmod_lo {x m : Int} (h : 0 < m) : 0 ≤ x.fmod m := by
  rw [Int.fmod_eq_emod_of_nonneg _ (by omega)]
  exact Int.emod_nonneg _ (by omega)
theorem fmod_hi {x m : Int} (h : 0 < m) : x.fmod m < m := by
  rw [Int.fmod_eq_emod_of_nonneg _ (by omega)]
  exact Int.emod_lt_of_pos _ h
theorem max1 (n : Nat) : (if (n : Int) > 1 then (n : Int) else 1) = ((if n > 1 then n else 1 : Nat) : Int) := by
  split <;> split <;> omega
section
variable {P : Program} {w : World} {K : PySem.W.Frag} {mg : Str → Option Value} {base : Heap} {C : Addr}
theorem ok_law_next {f : Addr} {fd : FuncData} (T : Txt K mg) (D : DefAt K mg "_law_next" "_law_next" s_law_next ["_law_h", "_law_many"] f fd) : FnOk P w K mg base CX0 1 f fd ["_law_h", "_law_many"] spNext := by
  refine D.F.ok sc_law_next (fun vs H Q E h => ?_) (fun cdv A outer s H vs Q E hr h => ?_)
  · obtain ⟨h, c, s, k, m, cs, rfl, _⟩ := h
    rfl
  · obtain ⟨h, c, z, k, m, cs, rfl, m0, m1, A1, q⟩ := h
    refine ⟨_, (pss_cons (ps_set (i := 2) sc_law_next.nd rfl (.inl rfl) (pe_op op_modN (pe_ix ix_list (pv 0) pe_int (fun _ _ => rfl)) (pe_callB (call_max2 rfl) (by rfl) T.m_max (by decide +kernel) (pa_cons pe_int (pa_cons (pe_callB call_len_seq (by rfl) T.m_len (by decide +kernel) (pa_cons (pe_ix ix_list (pv 0) pe_int (fun _ _ => rfl)) pa_nil)) pa_nil)))))
      (pss_cons (ps_set (i := 3) sc_law_next.nd rfl (.inl rfl) (pe_ifExp (pt_cmpR (op_neD hr.units) (pe_ix ix_list (pv 0) pe_int (fun _ _ => rfl)) (pe_lst pa_nil) (nomark _)) (pe_ix ix_list (pe_ix ix_list (pv 0) pe_int (fun _ _ => rfl)) (pv 2) (fun _ _ => rfl)) pe_int))
      (pss_cons (ps_if (pt_cmpR op_ge (pv 3) (pe_op op_pow pe_int pe_int) (nomark _)) (pss_cons (ps_asg (pe_op op_fdivN (pv 3) (pv 1)) (pg_sub (pe_ix ix_list (pv 0) pe_int (fun _ _ => rfl)) (pv 2) set_list)) (pss_one (ps_ret (pe_op op_modN (pv 3) (pv 1))))) pss_nil)
      (pss_cons (ps_asg (pe_op op_mod (pe_op op_add (pe_op op_add (pe_op op_mul (pe_ix ix_list (pv 0) pe_int (fun _ _ => rfl)) pe_int) (pe_op op_mul (pv 3) pe_int)) pe_int) pe_int) (pg_sub (pv 0) pe_int set_list))
      (pss_cons (ps_asg (pe_op op_add (pe_ix ix_list (pv 0) pe_int (fun _ _ => rfl)) pe_int) (pg_sub (pv 0) pe_int set_list))
      (pss_one (ps_ret (pe_op op_modN (pe_op op_fdiv (pe_ix ix_list (pv 0) pe_int (fun _ _ => rfl)) pe_int) (pv 1))))))))), ?_⟩
    have hne := A1.ne
    have lc : (cs.map V.int).length = cs.length := List.length_map _
    -- the place: h[2] % max(1, len(h[1]))
    refine ⟨_, rfl, h, _, _, _, rfl, rfl, SqL.of A1.h, atI_nat (j := 2) rfl, _, rfl, h, _, _, _, rfl, rfl, SqL.of A1.h, atI_nat (j := 1) rfl, c, _, rfl, .inl (SqL.of A1.c), _, _, rfl, _, _, rfl, rfl, ?_, ?_⟩
    · rw [lc, max1]
      split <;> omega
    rw [lc, max1]
    have hat : ∀ x : Int, cs ≠ [] → ∃ j : Nat, x.fmod ((if cs.length > 1 then cs.length else 1 : Nat) : Int) = (j : Int) ∧ j < cs.length := fun x e => by
      have l0 : 0 < cs.length := List.length_pos_iff.mpr e
      have e1 : (if cs.length > 1 then cs.length else 1) = cs.length := by split <;> omega
      rw [e1]
      have a := fmod_lo (x := x) (m := (cs.length : Int)) (by omega)
      have b := fmod_hi (x := x) (m := (cs.length : Int)) (by omega)
      exact ⟨(x.fmod cs.length).toNat, by omega, by omega⟩
    -- the cell
    refine ⟨_, rfl, h, _, _, _, rfl, rfl, SqL.of A1.h, atI_nat (j := 1) rfl, (by show 0 ≤ sizeLine; decide), fun l hl => ?_⟩
    have sl : Same H (upd H l (.lst [])) := same_upd hl
    have A2 := A1.same sl
    have fin : ∀ (s' k' : Int) (cs' : List Int) (r : Int) (H' : Hp), 0 ≤ r → r < m → HAt H' h c s' k' cs' → But h c (upd H l (.lst [])) H' → Q (.int r) H' := fun s' k' cs' r H' r0 r1 A' B' => q s' k' cs' r H' r0 r1 A' ((Same.but sl).trans B')
    refine ⟨_, _, Dp.lst (SqL.of A2.c) (dpInts cs), Dp.lst (SqL.of upd_same) DpAll.nil, shapedInts cs, by decide, _, rfl, ite2 (fun e => ?_) (fun e => ?_)⟩
    rotate_left
    · refine ⟨_, rfl, _, _, rfl, rfl, ⟨by decide, by decide, by decide⟩, _, _, rfl, rfl, _, rfl, ite2 (fun e => absurd (of_decide_eq_true e) (by decide +kernel)) (fun e => ?_)⟩
      refine ⟨_, rfl, h, _, _, _, rfl, rfl, SqL.of A2.h, atI_nat (j := 0) rfl, _, _, rfl, rfl, .inr ⟨by decide, by decide⟩, _, rfl, _, _, rfl, rfl, .inr ⟨by decide, by decide⟩, _, _, rfl, rfl, _, _, rfl, rfl, _, _, rfl, rfl, (by show (0 : Int) < 2147483647; decide), _, rfl, h, _, _, 0, rfl, rfl, A2.h, rfl,
        _, rfl, h, _, _, _, rfl, rfl, SqL.of upd_same, atI_nat (j := 2) rfl, _, _, rfl, rfl, _, rfl, h, _, _, 2, rfl, rfl, upd_same, rfl,
        _, rfl, h, _, _, _, rfl, rfl, SqL.of upd_same, atI_nat (j := 0) rfl, _, _, rfl, rfl, ⟨by decide, by decide⟩, _, rfl, _, _, rfl, rfl, by omega, ?_⟩
      exact fin _ _ cs _ _ (fmod_lo m0) (fmod_hi m0) ⟨upd_same, by rw [upd_ne hne.symm, upd_ne hne.symm]; exact A2.c, A1.n⟩ fun b o e nb nc => by rw [upd_ne nb, upd_ne nb]; exact e
    · have e0 : cs ≠ [] := fun z => by
        subst z
        simp [PyData.eqv, PyData.eqvAll] at e
      obtain ⟨j, ej, hj⟩ := hat k e0
      have gj : (cs.map V.int)[j]? = some (.int cs[j]) := by
        rw [List.getElem?_map, List.getElem?_eq_getElem hj]
        rfl
      refine ⟨_, rfl, h, _, _, _, rfl, rfl, SqL.of A2.h, atI_nat (j := 1) rfl, _, rfl, c, _, _, _, rfl, rfl, SqL.of A2.c, at_of ej gj, _, rfl, _, _, rfl, rfl, ⟨by decide, by decide, by decide⟩, _, _, rfl, rfl, _, rfl, ite2 (fun e => ?_) (fun e => ?_)⟩
      · -- h[1][at] = cell // many; return cell % many
        refine ⟨_, rfl, _, rfl, _, _, rfl, rfl, ⟨by omega, by omega⟩, _, rfl, h, _, _, _, rfl, rfl, SqL.of A2.h, atI_nat (j := 1) rfl, _, rfl, c, _, _, j, rfl, rfl, A2.c, by rw [ej]; exact ixNat (by rw [lc]; exact hj), _, rfl, _, rfl, _, _, rfl, rfl, by omega, ?_⟩
        exact fin z k (cs.set j (cs[j].fdiv m)) _ _ (fmod_lo m0) (fmod_hi m0) ⟨by rw [upd_ne hne]; exact A2.h, by rw [upd_same, List.map_set], by rw [List.length_set]; exact A1.n⟩ fun b o e nb nc => by rw [upd_ne nc]; exact e
      · refine ⟨_, rfl, h, _, _, _, rfl, rfl, SqL.of A2.h, atI_nat (j := 0) rfl, _, _, rfl, rfl, .inr ⟨by decide, by decide⟩, _, rfl, _, _, rfl, rfl, .inr ⟨by decide, by decide⟩, _, _, rfl, rfl, _, _, rfl, rfl, _, _, rfl, rfl, (by show (0 : Int) < 2147483647; decide), _, rfl, h, _, _, 0, rfl, rfl, A2.h, rfl,
          _, rfl, h, _, _, _, rfl, rfl, SqL.of upd_same, atI_nat (j := 2) rfl, _, _, rfl, rfl, _, rfl, h, _, _, 2, rfl, rfl, upd_same, rfl,
          _, rfl, h, _, _, _, rfl, rfl, SqL.of upd_same, atI_nat (j := 0) rfl, _, _, rfl, rfl, ⟨by decide, by decide⟩, _, rfl, _, _, rfl, rfl, by omega, ?_⟩
        exact fin _ _ cs _ _ (fmod_lo m0) (fmod_hi m0) ⟨upd_same, by rw [upd_ne hne.symm, upd_ne hne.symm]; exact A2.c, A1.n⟩ fun b o e nb nc => by rw [upd_ne nb, upd_ne nb]; exact e
end
theorem HAt.set {H : Hp} {h c l : Addr} {s k : Int} {cs : List Int} {o : HO} (D : HAt H h c s k cs) (nh : l ≠ h) (nc : l ≠ c) : HAt (upd H l o) h c s k cs := ⟨by rw [upd_ne nh.symm]; exact D.h, by rw [upd_ne nc.symm]; exact D.c, D.n⟩
/-! ### folds -/
inductive Srt where | n | r | t | o
structure Sl where
  x : Int
  y : Int
  z : Int
  r : List Int
def Sl.at (S : Sl) : Nat → Int
  | 0 => S.x
  | 1 => S.y
  | _ => S.z
abbrev Val : Srt → Type
  | .n => Int
  | .r => List Int
  | .t => Sl
  | .o => List Int
inductive Fo : Srt → Type where
  | num (k : Int) : Fo .n
  | slot (k : Nat) : Fo .n
  | less (a : Fo .n) : Fo .n
  | add (a b : Fo .n) : Fo .n
  | mul (a b : Fo .n) : Fo .n
  | none : Fo .r
  | slot3 : Fo .r
  | more (a : Fo .r) (b : Fo .n) : Fo .r
  | tup (a b c : Fo .n) (d : Fo .r) : Fo .t
  | one : Fo .o
  | whr {s : Srt} (c : Fo .n) (a b : Fo s) : Fo s
  | wth {s : Srt} (T : Fo .t) (a : Fo s) : Fo s
  | fold (n : Fo .n) (T g : Fo .t) : Fo .t
def iter {α : Type} (f : α → α) : Nat → α → α
  | 0, x => x
  | k + 1, x => iter f k (f x)
def ev : {s : Srt} → Fo s → Sl → Val s
  | _, .num k, _ => k
  | _, .slot k, S => S.at k
  | _, .less a, S => if ev a S > 0 then ev a S - 1 else 0
  | _, .add a b, S => ev a S + ev b S
  | _, .mul a b, S => ev a S * ev b S
  | _, .none, _ => []
  | _, .slot3, S => S.r
  | _, .more a b, S => ev a S ++ [ev b S]
  | _, .tup a b c d, S => ⟨ev a S, ev b S, ev c S, ev d S⟩
  | _, .one, S => S.r
  | _, .whr c a b, S => if ev c S ≠ 0 then ev a S else ev b S
  | _, .wth T a, S => ev a (ev T S)
  | _, .fold n T g, S => iter (ev g) (ev n S).toNat (ev T S)
def FoAt (K : PySem.W.Frag) (H : Hp) : {s : Srt} → Addr → Fo s → Prop
  | _, p, .num k => SqT K H p [.str "num", .int k]
  | _, p, .slot k => SqT K H p [.str "slot", .int (k : Int)]
  | _, p, .less a => ∃ q : Addr, SqT K H p [.str "less", .ref q] ∧ FoAt K H q a
  | _, p, .add a b => ∃ q r : Addr, SqT K H p [.str "add", .ref q, .ref r] ∧ FoAt K H q a ∧ FoAt K H r b
  | _, p, .mul a b => ∃ q r : Addr, SqT K H p [.str "times", .ref q, .ref r] ∧ FoAt K H q a ∧ FoAt K H r b
  | _, p, .none => SqT K H p [.str "none"]
  | _, p, .slot3 => SqT K H p [.str "slot", .int 3]
  | _, p, .more a b => ∃ q r : Addr, SqT K H p [.str "more", .ref q, .ref r] ∧ FoAt K H q a ∧ FoAt K H r b
  | _, p, .tup a b c d => ∃ t q1 q2 q3 q4 : Addr, SqT K H p [.str "tuple", .ref t] ∧ SqT K H t [.ref q1, .ref q2, .ref q3, .ref q4] ∧ FoAt K H q1 a ∧ FoAt K H q2 b ∧ FoAt K H q3 c ∧ FoAt K H q4 d
  | _, p, .one => ∃ t q1 : Addr, SqT K H p [.str "tuple", .ref t] ∧ SqT K H t [.ref q1] ∧ SqT K H q1 [.str "slot", .int 3]
  | _, p, .whr c a b => ∃ q1 q2 q3 : Addr, SqT K H p [.str "where", .ref q1, .ref q2, .ref q3] ∧ FoAt K H q1 c ∧ FoAt K H q2 a ∧ FoAt K H q3 b
  | _, p, .wth T a => ∃ q r : Addr, SqT K H p [.str "with", .ref q, .ref r] ∧ FoAt K H q T ∧ FoAt K H r a
  | _, p, .fold n T g => ∃ q1 q2 q3 : Addr, SqT K H p [.str "fold", .ref q1, .ref q2, .ref q3] ∧ FoAt K H q1 n ∧ FoAt K H q2 T ∧ FoAt K H q3 g
theorem FoAt.stay {K : PySem.W.Frag} {H H' : Hp} (u : TupsStay H H') {s : Srt} {f : Fo s} : ∀ {p : Addr}, FoAt K H p f → FoAt K H' p f := by
  induction f with
  | num k => exact fun h => SqT.keeps h u
  | slot k => exact fun h => SqT.keeps h u
  | less a ih =>
    rintro p ⟨q, x, y⟩
    exact ⟨q, SqT.keeps x u, ih y⟩
  | add a b i1 i2 =>
    rintro p ⟨q, r, x, y, z⟩
    exact ⟨q, r, SqT.keeps x u, i1 y, i2 z⟩
  | mul a b i1 i2 =>
    rintro p ⟨q, r, x, y, z⟩
    exact ⟨q, r, SqT.keeps x u, i1 y, i2 z⟩
  | none => exact fun h => SqT.keeps h u
  | slot3 => exact fun h => SqT.keeps h u
  | more a b i1 i2 =>
    rintro p ⟨q, r, x, y, z⟩
    exact ⟨q, r, SqT.keeps x u, i1 y, i2 z⟩
  | tup a b c d i1 i2 i3 i4 =>
    rintro p ⟨t, q1, q2, q3, q4, x, y, z1, z2, z3, z4⟩
    exact ⟨t, q1, q2, q3, q4, SqT.keeps x u, SqT.keeps y u, i1 z1, i2 z2, i3 z3, i4 z4⟩
  | one =>
    rintro p ⟨t, q1, x, y, z⟩
    exact ⟨t, q1, SqT.keeps x u, SqT.keeps y u, SqT.keeps z u⟩
  | whr c a b i1 i2 i3 =>
    rintro p ⟨q1, q2, q3, x, y, z, w⟩
    exact ⟨q1, q2, q3, SqT.keeps x u, i1 y, i2 z, i3 w⟩
  | wth T a i1 i2 =>
    rintro p ⟨q, r, x, y, z⟩
    exact ⟨q, r, SqT.keeps x u, i1 y, i2 z⟩
  | fold n T g i1 i2 i3 =>
    rintro p ⟨q1, q2, q3, x, y, z, w⟩
    exact ⟨q1, q2, q3, SqT.keeps x u, i1 y, i2 z, i3 w⟩
/-- the slots, at sp, its row at rp -/
structure SlAt (K : PySem.W.Frag) (H : Hp) (sp rp : Addr) (S : Sl) : Prop where
  q : SqT K H sp [.int S.x, .int S.y, .int S.z, .ref rp]
  r : H rp = some (.lst (S.r.map V.int))
theorem SlAt.same {K : PySem.W.Frag} {H H' : Hp} {sp rp : Addr} {S : Sl} (h : SlAt K H sp rp S) (u : Same H H') : SlAt K H' sp rp S := ⟨SqT.keeps h.q (TupsStay.same u), u _ _ h.r⟩
def RelVal (K : PySem.W.Frag) (H : Hp) (R : Addr → Prop) : (s : Srt) → V → Val s → Prop
  | .n, v, k => v = .int k
  | .r, v, l => ∃ q : Addr, v = .ref q ∧ H q = some (.lst (l.map V.int)) ∧ R q
  | .t, v, S => ∃ sp rp : Addr, v = .ref sp ∧ SlAt K H sp rp S ∧ R rp
  | .o, v, l => ∃ sp rp : Addr, v = .ref sp ∧ SqT K H sp [.ref rp] ∧ H rp = some (.lst (l.map V.int)) ∧ R rp
theorem RelVal.to {K : PySem.W.Frag} {H : Hp} {R R' : Addr → Prop} (h : ∀ q, R q → R' q) : ∀ {s : Srt} {v : V} {x : Val s}, RelVal K H R s v x → RelVal K H R' s v x
  | .n, _, _, a => a
  | .r, _, _, ⟨q, a, b, c⟩ => ⟨q, a, b, h _ c⟩
  | .t, _, _, ⟨sp, rp, a, b, c⟩ => ⟨sp, rp, a, b, h _ c⟩
  | .o, _, _, ⟨sp, rp, a, b, c, d⟩ => ⟨sp, rp, a, b, c, h _ d⟩
theorem un0 {H H' : Hp} (u : Same H H') {q : Addr} (h : H' q = none) : H q = none := by
  cases e : H q with
  | none => rfl
  | some o =>
    rw [u _ _ e] at h
    cases h
/-! bits, rows' lengths, depth -/
def bt : {s : Srt} → Fo s → Nat → Nat
  | _, .num _, B => B
  | _, .slot _, B => B
  | _, .less a, B => bt a B
  | _, .add a b, B => max (bt a B) (bt b B) + 1
  | _, .mul a b, B => bt a B + bt b B
  | _, .none, B => B
  | _, .slot3, B => B
  | _, .more a b, B => max (bt a B) (bt b B)
  | _, .tup a b c d, B => max (max (bt a B) (bt b B)) (max (bt c B) (bt d B))
  | _, .one, B => B
  | _, .whr _ a b, B => max (bt a B) (bt b B)
  | _, .wth T a, B => bt a (bt T B)
  | _, .fold _ T _, B => bt T B + 4
def ln : {s : Srt} → Fo s → Nat → Nat
  | _, .num _, L => L
  | _, .slot _, L => L
  | _, .less a, L => L
  | _, .add a b, L => L
  | _, .mul a b, L => L
  | _, .none, L => L
  | _, .slot3, L => L
  | _, .more a b, L => ln a L + 1
  | _, .tup a b c d, L => ln d L
  | _, .one, L => L
  | _, .whr _ a b, L => max (ln a L) (ln b L)
  | _, .wth T a, L => ln a (ln T L)
  | _, .fold _ T _, L => ln T L + 4
structure SlB (B L : Nat) (S : Sl) : Prop where
  x : 0 ≤ S.x ∧ S.x < 2 ^ B
  y : 0 ≤ S.y ∧ S.y < 2 ^ B
  z : 0 ≤ S.z ∧ S.z < 2 ^ B
  r : S.r.length ≤ L
def ValB (B L : Nat) : (s : Srt) → Val s → Prop
  | .n, k => 0 ≤ k ∧ k < 2 ^ B
  | .r, l => l.length ≤ L
  | .t, S => SlB B L S
  | .o, l => l.length ≤ L
/-- grows by little: no number by more than two, the row by one -/
def Flat (g : Fo .t) : Prop := ∀ (B L : Nat) (S : Sl) (k : Nat), 4 ≤ B → S.r.length ≤ L + k → (0 ≤ S.x ∧ S.x < (2 : Int) ^ B + 2 * (k : Int)) → (0 ≤ S.y ∧ S.y < (2 : Int) ^ B + 2 * (k : Int)) → (0 ≤ S.z ∧ S.z < (2 : Int) ^ B + 2 * (k : Int)) →
  (ev g S).r.length ≤ L + k + 1 ∧ (0 ≤ (ev g S).x ∧ (ev g S).x < (2 : Int) ^ B + 2 * (k : Int) + 2) ∧ (0 ≤ (ev g S).y ∧ (ev g S).y < (2 : Int) ^ B + 2 * (k : Int) + 2) ∧ (0 ≤ (ev g S).z ∧ (ev g S).z < (2 : Int) ^ B + 2 * (k : Int) + 2)
/-- what a law draws, at most d deep -/
def FoOk : {s : Srt} → Nat → Fo s → Prop
  | _, _, .num k => 0 ≤ k ∧ k < 5
  | _, _, .slot k => k < 3
  | _, d + 1, .less a => FoOk d a
  | _, d + 1, .add a b => FoOk d a ∧ FoOk d b
  | _, d + 1, .mul a b => FoOk d a ∧ FoOk d b
  | _, _, .none => True
  | _, _, .slot3 => True
  | _, d + 1, .more a b => FoOk d a ∧ FoOk d b
  | _, d + 1, .tup a b c e => FoOk d a ∧ FoOk d b ∧ FoOk d c ∧ FoOk d e
  | _, _ + 1, .one => True
  | _, d + 1, .whr c a b => FoOk d c ∧ FoOk d a ∧ FoOk d b
  | _, d + 1, .wth T a => FoOk d T ∧ FoOk d a
  | _, d + 1, .fold n T g => FoOk d n ∧ FoOk d T ∧ FoOk d g ∧ (∀ S, ev n S ≤ 4) ∧ Flat g
  | _, 0, _ => False
/-- products and rows stay small enough -/
def Lim : {s : Srt} → Fo s → Nat → Nat → Prop
  | _, .less a, B, L => Lim a B L
  | _, .add a b, B, L => Lim a B L ∧ Lim b B L
  | _, .mul a b, B, L => Lim a B L ∧ Lim b B L ∧ bt a B + bt b B ≤ 1000000
  | _, .more a b, B, L => Lim a B L ∧ Lim b B L ∧ ln a L + 1 ≤ 100000
  | _, .tup a b c d, B, L => Lim a B L ∧ Lim b B L ∧ Lim c B L ∧ Lim d B L
  | _, .whr c a b, B, L => Lim c B L ∧ Lim a B L ∧ Lim b B L
  | _, .wth T a, B, L => Lim T B L ∧ Lim a (bt T B) (ln T L)
  | _, .fold n T g, B, L => Lim n B L ∧ Lim T B L ∧ Lim g (bt T B + 4) (ln T L + 4)
  | _, _, _, _ => True
def evI (f : Fo .n) (S : Sl) : Int := ev f S
theorem ip {a b : Nat} (h : a ≤ b) : (2 : Int) ^ a ≤ 2 ^ b := by
  have : (2 : Nat) ^ a ≤ 2 ^ b := Nat.pow_le_pow_right (by decide) h
  exact_mod_cast this
theorem ValB.up {B B' L L' : Nat} (h : B ≤ B') (l : L ≤ L') : ∀ {s : Srt} {x : Val s}, ValB B L s x → ValB B' L' s x
  | .n, _, ⟨a, b⟩ => ⟨a, Int.lt_of_lt_of_le b (ip h)⟩
  | .r, _, a => Nat.le_trans a l
  | .t, _, ⟨a, b, c, d⟩ => ⟨⟨a.1, Int.lt_of_lt_of_le a.2 (ip h)⟩, ⟨b.1, Int.lt_of_lt_of_le b.2 (ip h)⟩, ⟨c.1, Int.lt_of_lt_of_le c.2 (ip h)⟩, Nat.le_trans d l⟩
  | .o, _, a => Nat.le_trans a l
theorem bt_ge {s : Srt} (f : Fo s) : ∀ B, B ≤ bt f B := by
  induction f with
  | num k => exact fun B => Nat.le_refl _
  | slot k => exact fun B => Nat.le_refl _
  | less a ih => exact ih
  | add a b i1 i2 =>
    intro B
    have := i1 B
    show B ≤ max (bt a B) (bt b B) + 1
    omega
  | mul a b i1 i2 =>
    intro B
    have := i1 B
    show B ≤ bt a B + bt b B
    omega
  | none => exact fun B => Nat.le_refl _
  | slot3 => exact fun B => Nat.le_refl _
  | more a b i1 i2 =>
    intro B
    have := i1 B
    show B ≤ max (bt a B) (bt b B)
    omega
  | tup a b c d i1 i2 i3 i4 =>
    intro B
    have := i1 B
    show B ≤ max (max (bt a B) (bt b B)) (max (bt c B) (bt d B))
    omega
  | one => exact fun B => Nat.le_refl _
  | whr c a b i1 i2 i3 =>
    intro B
    have := i2 B
    show B ≤ max (bt a B) (bt b B)
    omega
  | wth T a i1 i2 => exact fun B => Nat.le_trans (i1 B) (i2 _)
  | fold n T g i1 i2 i3 =>
    intro B
    have := i2 B
    show B ≤ bt T B + 4
    omega
theorem pow4 {B : Nat} (h : 4 ≤ B) : (16 : Int) ≤ 2 ^ B := Int.le_trans (by decide) (ip h)
theorem iter_flat {g : Fo .t} (hg : Flat g) {B L : Nat} (hB : 4 ≤ B) : ∀ (m k : Nat) (S : Sl), S.r.length ≤ L + k → (0 ≤ S.x ∧ S.x < (2 : Int) ^ B + 2 * (k : Int)) → (0 ≤ S.y ∧ S.y < (2 : Int) ^ B + 2 * (k : Int)) → (0 ≤ S.z ∧ S.z < (2 : Int) ^ B + 2 * (k : Int)) →
    (iter (ev g) m S).r.length ≤ L + k + m ∧ (0 ≤ (iter (ev g) m S).x ∧ (iter (ev g) m S).x < (2 : Int) ^ B + 2 * (k : Int) + 2 * (m : Int)) ∧ (0 ≤ (iter (ev g) m S).y ∧ (iter (ev g) m S).y < (2 : Int) ^ B + 2 * (k : Int) + 2 * (m : Int)) ∧ (0 ≤ (iter (ev g) m S).z ∧ (iter (ev g) m S).z < (2 : Int) ^ B + 2 * (k : Int) + 2 * (m : Int))
  | 0, k, S, hr, hx, hy, hz => ⟨by show S.r.length ≤ _; omega, by show 0 ≤ S.x ∧ S.x < _; omega, by show 0 ≤ S.y ∧ S.y < _; omega, by show 0 ≤ S.z ∧ S.z < _; omega⟩
  | m + 1, k, S, hr, hx, hy, hz => by
    obtain ⟨a, b, c, d⟩ := hg B L S k hB hr hx hy hz
    have e : ((k + 1 : Nat) : Int) = (k : Int) + 1 := by omega
    obtain ⟨a2, b2, c2, d2⟩ := iter_flat hg hB m (k + 1) (ev g S) (by omega) (by rw [e]; omega) (by rw [e]; omega) (by rw [e]; omega)
    rw [e] at b2 c2 d2
    refine ⟨by show (iter (ev g) m (ev g S)).r.length ≤ _; omega, by show 0 ≤ (iter (ev g) m (ev g S)).x ∧ (iter (ev g) m (ev g S)).x < _; omega, by show 0 ≤ (iter (ev g) m (ev g S)).y ∧ (iter (ev g) m (ev g S)).y < _; omega, by show 0 ≤ (iter (ev g) m (ev g S)).z ∧ (iter (ev g) m (ev g S)).z < _; omega⟩
theorem ev_bd {s : Srt} (f : Fo s) : ∀ {d B L : Nat} {S : Sl}, FoOk d f → 4 ≤ B → SlB B L S → ValB (bt f B) (ln f L) s (ev f S) := by
  induction f with
  | num k =>
    intro d B L S h hB hS
    have h : 0 ≤ k ∧ k < 5 := by cases d <;> exact h
    have := pow4 hB
    exact ⟨h.1, by show k < 2 ^ B; omega⟩
  | slot k =>
    intro d B L S h hB hS
    have h : k < 3 := by cases d <;> exact h
    show 0 ≤ S.at k ∧ S.at k < 2 ^ B
    have : k = 0 ∨ k = 1 ∨ k = 2 := by omega
    rcases this with z | z | z <;> subst z
    · exact hS.x
    · exact hS.y
    · exact hS.z
  | less a ih =>
    intro d B L S h hB hS
    cases d with
    | zero => exact False.elim h
    | succ d =>
      have q : 0 ≤ evI a S ∧ evI a S < 2 ^ bt a B := ih h hB hS
      show 0 ≤ (if evI a S > 0 then evI a S - 1 else 0) ∧ (if evI a S > 0 then evI a S - 1 else 0) < 2 ^ bt a B
      split <;> omega
  | add a b i1 i2 =>
    intro d B L S h hB hS
    cases d with
    | zero => exact False.elim h
    | succ d =>
      have q1 : 0 ≤ evI a S ∧ evI a S < 2 ^ bt a B := i1 h.1 hB hS
      have q2 : 0 ≤ evI b S ∧ evI b S < 2 ^ bt b B := i2 h.2 hB hS
      have p1 := ip (show bt a B ≤ max (bt a B) (bt b B) by omega)
      have p2 := ip (show bt b B ≤ max (bt a B) (bt b B) by omega)
      show 0 ≤ evI a S + evI b S ∧ evI a S + evI b S < 2 ^ (max (bt a B) (bt b B) + 1)
      rw [Int.pow_succ]
      omega
  | mul a b i1 i2 =>
    intro d B L S h hB hS
    cases d with
    | zero => exact False.elim h
    | succ d =>
      have q1 : 0 ≤ evI a S ∧ evI a S < 2 ^ bt a B := i1 h.1 hB hS
      have q2 : 0 ≤ evI b S ∧ evI b S < 2 ^ bt b B := i2 h.2 hB hS
      show 0 ≤ evI a S * evI b S ∧ evI a S * evI b S < 2 ^ (bt a B + bt b B)
      refine ⟨Int.mul_nonneg q1.1 q2.1, ?_⟩
      rw [Int.pow_add]
      have t1 : evI a S * evI b S ≤ evI a S * 2 ^ bt b B := Int.mul_le_mul_of_nonneg_left (Int.le_of_lt q2.2) q1.1
      have p0 : (0 : Int) < 2 ^ bt b B := by omega
      exact Int.lt_of_le_of_lt t1 (Int.mul_lt_mul_of_pos_right q1.2 p0)
  | none => exact fun _ _ _ => Nat.zero_le _
  | slot3 => exact fun _ _ hS => hS.r
  | more a b i1 i2 =>
    intro d B L S h hB hS
    cases d with
    | zero => exact False.elim h
    | succ d =>
      have q1 : (ev a S).length ≤ ln a L := i1 h.1 hB hS
      show (ev a S ++ [ev b S]).length ≤ ln a L + 1
      rw [List.length_append, List.length_singleton]
      omega
  | tup a b c e i1 i2 i3 i4 =>
    intro d B L S h hB hS
    cases d with
    | zero => exact False.elim h
    | succ d =>
      obtain ⟨h1, h2, h3, h4⟩ := h
      have up : ∀ {k : Nat} {x : Int}, k ≤ max (max (bt a B) (bt b B)) (max (bt c B) (bt e B)) → (0 ≤ x ∧ x < 2 ^ k) → 0 ≤ x ∧ x < 2 ^ max (max (bt a B) (bt b B)) (max (bt c B) (bt e B)) := fun l q => ⟨q.1, Int.lt_of_lt_of_le q.2 (ip l)⟩
      exact ⟨up (by omega) (i1 h1 hB hS), up (by omega) (i2 h2 hB hS), up (by omega) (i3 h3 hB hS), i4 h4 hB hS⟩
  | one => exact fun _ _ hS => hS.r
  | whr c a b i1 i2 i3 =>
    intro d B L S h hB hS
    cases d with
    | zero => exact False.elim h
    | succ d =>
      show ValB (max (bt a B) (bt b B)) (max (ln a L) (ln b L)) _ (if ev c S ≠ 0 then ev a S else ev b S)
      split
      · exact (i2 h.2.1 hB hS).up (by omega) (by omega)
      · exact (i3 h.2.2 hB hS).up (by omega) (by omega)
  | wth T a i1 i2 =>
    intro d B L S h hB hS
    cases d with
    | zero => exact False.elim h
    | succ d =>
      have q : SlB (bt T B) (ln T L) (ev T S) := i1 h.1 hB hS
      exact i2 h.2 (Nat.le_trans hB (bt_ge T B)) q
  | fold n T g i1 i2 i3 =>
    intro d B L S h hB hS
    cases d with
    | zero => exact False.elim h
    | succ d =>
      obtain ⟨h1, h2, h3, h4, h5⟩ := h
      have q : SlB (bt T B) (ln T L) (ev T S) := i2 h2 hB hS
      have b4 : 4 ≤ bt T B := Nat.le_trans hB (bt_ge T B)
      have m4 : (ev n S).toNat ≤ 4 := by
        have : evI n S ≤ 4 := h4 S
        show (evI n S).toNat ≤ 4
        omega
      obtain ⟨a, b, c, e⟩ := iter_flat h5 (L := ln T L) b4 (ev n S).toNat 0 (ev T S) q.r (by have := q.x; omega) (by have := q.y; omega) (by have := q.z; omega)
      have p4 := pow4 b4
      have pp : (2 : Int) ^ (bt T B + 4) = 2 ^ bt T B * 16 := by rw [Int.pow_add]; rfl
      show SlB (bt T B + 4) (ln T L + 4) (iter (ev g) (ev n S).toNat (ev T S))
      refine ⟨?_, ?_, ?_, by omega⟩ <;> rw [pp] <;> omega
/-! ### what the program tells of a fold -/
theorem FoOk.up {s : Srt} (f : Fo s) : ∀ {d : Nat}, FoOk d f → FoOk (d + 1) f := by
  induction f with
  | num k => intro d h; cases d <;> exact h
  | slot k => intro d h; cases d <;> exact h
  | less a ih =>
    intro d h
    cases d with
    | zero => exact False.elim h
    | succ d => exact ih h
  | add a b i1 i2 =>
    intro d h
    cases d with
    | zero => exact False.elim h
    | succ d => exact ⟨i1 h.1, i2 h.2⟩
  | mul a b i1 i2 =>
    intro d h
    cases d with
    | zero => exact False.elim h
    | succ d => exact ⟨i1 h.1, i2 h.2⟩
  | none => intro d h; cases d <;> exact h
  | slot3 => intro d h; cases d <;> exact h
  | more a b i1 i2 =>
    intro d h
    cases d with
    | zero => exact False.elim h
    | succ d => exact ⟨i1 h.1, i2 h.2⟩
  | tup a b c e i1 i2 i3 i4 =>
    intro d h
    cases d with
    | zero => exact False.elim h
    | succ d => exact ⟨i1 h.1, i2 h.2.1, i3 h.2.2.1, i4 h.2.2.2⟩
  | one =>
    intro d h
    cases d with
    | zero => exact False.elim h
    | succ d => exact True.intro
  | whr c a b i1 i2 i3 =>
    intro d h
    cases d with
    | zero => exact False.elim h
    | succ d => exact ⟨i1 h.1, i2 h.2.1, i3 h.2.2⟩
  | wth T a i1 i2 =>
    intro d h
    cases d with
    | zero => exact False.elim h
    | succ d => exact ⟨i1 h.1, i2 h.2⟩
  | fold n T g i1 i2 i3 =>
    intro d h
    cases d with
    | zero => exact False.elim h
    | succ d => exact ⟨i1 h.1, i2 h.2.1, i3 h.2.2.1, h.2.2.2⟩
theorem FoOk.ups {s : Srt} {f : Fo s} {d k : Nat} (h : FoOk d f) (l : d ≤ k) : FoOk k f := by
  induction l with
  | refl => exact h
  | step _ ih => exact FoOk.up f ih
/-- a fold and its slots, as they are handed in -/
structure FIn (K : PySem.W.Frag) (H : Hp) (p sp rp : Addr) {s : Srt} (f : Fo s) (S : Sl) (d B L : Nat) : Prop where
  at_ : FoAt K H p f
  ok : FoOk d f
  sl : SlAt K H sp rp S
  b : 10 ≤ B
  sb : SlB B L S
  mu : Lim f B L
theorem FIn.same {K : PySem.W.Frag} {H H' : Hp} {p sp rp : Addr} {s : Srt} {f : Fo s} {S : Sl} {d B L : Nat} (h : FIn K H p sp rp f S d B L) (u : Same H H') : FIn K H' p sp rp f S d B L := ⟨h.at_.stay (TupsStay.same u), h.ok, h.sl.same u, h.b, h.sb, h.mu⟩
section
variable {P : Program} {w : World} {K : PySem.W.Frag} {mg : Str → Option Value} {base : Heap}
def Tells (K : PySem.W.Frag) (H : Hp) (Q : VK) (rp : Addr) {s : Srt} (x : Val s) : Prop := ∀ v H', RelVal K H' (fun q => q = rp ∨ H q = none) s v x → Same H H' → Q v H'
def spTold (K : PySem.W.Frag) : Nat → Sp
  | 0 => fun _ _ _ _ => False
  | d + 1 => fun vs H Q _ => ∃ (p sp rp : Addr) (s : Srt) (f : Fo s) (S : Sl) (B L : Nat), vs = [.ref p, .ref sp] ∧ FIn K H p sp rp f S d B L ∧ Tells K H Q rp (ev f S)
/-- the folds that are reckoned with numbers alone -/
def IsNum : Fo .n → Prop
  | .num _ => True
  | .less _ => True
  | .add _ _ => True
  | .mul _ _ => True
  | _ => False
def spNum (K : PySem.W.Frag) (d : Nat) : Sp := fun vs H Q _ => ∃ (p sp rp : Addr) (f : Fo .n) (S : Sl) (B L : Nat), vs = [.ref p, .ref sp] ∧ FIn K H p sp rp f S d B L ∧ IsNum f ∧ Tells K H Q rp (ev f S)
theorem nat_bits {x : Int} {b : Nat} (h : 0 ≤ x ∧ x < 2 ^ b) : x.natAbs < 2 ^ b := by
  have h1 : ((x.natAbs : Nat) : Int) < ((2 ^ b : Nat) : Int) := by
    rw [Int.natAbs_of_nonneg h.1]
    exact_mod_cast h.2
  exact_mod_cast h1
theorem ok_number_told {f f2 : Addr} {fd fd2 : FuncData} (T : Txt K mg) (F : DefAt K mg "_number_told" "_number_told" s_number_told ["fold", "slots"] f fd) (D_told : DefAt K mg "_told" "_told" s_told ["fold", "slots"] f2 fd2) {d k : Nat}
    (G_told : FnOk P w K mg base CX0 k f2 fd2 ["fold", "slots"] (spTold K d)) : FnOk P w K mg base CX0 (k + 1) f fd ["fold", "slots"] (spNum K d) := by
  refine F.F.ok sc_number_told (fun vs H Q E h => ?_) (fun cdv A outer z H vs Q E hr h => ?_)
  · obtain ⟨p, sp, rp, f, S, B, L, rfl, _⟩ := h
    rfl
  · obtain ⟨p, sp, rp, f, S, B, L, rfl, I, isn, q⟩ := h
    refine ⟨_, (pss_cons (ps_set (i := 2) sc_number_told.nd rfl (.inl rfl) (pe_ix ix_tup (pv 0) pe_int (fun _ _ => rfl)))
      (pss_cons (ps_if (pt_cmpR op_eq (pv 2) pe_str (nomark _)) (pss_one (ps_ret (pe_ix ix_tup (pv 0) pe_int (fun _ _ => rfl)))) pss_nil)
      (pss_cons (ps_set (i := 3) sc_number_told.nd rfl (.inl rfl) (pe_call G_told (hr.mono (by omega)) (by rfl) D_told.g D_told.F.kp D_told.b .nil pass0 (pa_cons (pe_ix ix_tup (pv 0) pe_int (fun _ _ => rfl)) (pa_cons (pv 1) pa_nil))))
      (pss_cons (ps_if (pt_cmpR op_eq (pv 2) pe_str (nomark _)) (pss_one (ps_ret (pe_callB (call_max2 rfl) (by rfl) T.m_max (by decide +kernel) (pa_cons pe_int (pa_cons (pe_op op_sub (pv 3) pe_int) pa_nil))))) pss_nil)
      (pss_cons (ps_set (i := 4) sc_number_told.nd rfl (.inl rfl) (pe_call G_told (hr.mono (by omega)) (by rfl) D_told.g D_told.F.kp D_told.b .nil pass0 (pa_cons (pe_ix ix_tup (pv 0) pe_int (fun _ _ => rfl)) (pa_cons (pv 1) pa_nil))))
      (pss_cons (ps_if (pt_cmpR op_eq (pv 2) pe_str (nomark _)) (pss_one (ps_ret (pe_op op_add (pv 3) (pv 4)))) pss_nil)
      (pss_one (ps_ret (pe_op op_mulW (pv 3) (pv 4)))))))))), ?_⟩
    cases f with
    | num k =>
      refine ⟨_, rfl, p, _, _, _, rfl, rfl, I.at_, atI_nat (j := 0) rfl, ?_⟩
      refine ⟨_, rfl, rfl, _, rfl, ite2 (fun c => ?_) (fun c => absurd (by decide) c)⟩
      exact ⟨_, rfl, p, _, _, _, rfl, rfl, I.at_, atI_nat (j := 1) rfl, q _ H rfl (fun _ _ e => e)⟩
    | slot k => exact False.elim isn
    | whr c a b => exact False.elim isn
    | wth T a => exact False.elim isn
    | less a =>
      cases d with
      | zero => exact False.elim I.ok
      | succ d =>
        obtain ⟨pa, tp, ta⟩ := I.at_
        refine ⟨_, rfl, p, _, _, _, rfl, rfl, tp, atI_nat (j := 0) rfl, ?_⟩
        refine ⟨_, rfl, rfl, _, rfl, ite2 (fun c => absurd c (by decide)) (fun c => ?_)⟩
        refine ⟨_, rfl, p, _, _, _, rfl, rfl, tp, atI_nat (j := 1) rfl, _, rfl, pa, sp, rp, .n, a, S, B, L, rfl, ⟨ta, I.ok, I.sl, I.b, I.sb, I.mu⟩, fun v H1 rv s1 => ?_⟩
        have rv : v = .int (evI a S) := rv
        subst rv
        refine ⟨_, rfl, rfl, _, rfl, ite2 (fun c => ?_) (fun c => absurd (by decide) c)⟩
        refine ⟨_, rfl, _, _, rfl, rfl, _, _, rfl, ?_⟩
        have e : (if evI a S - 1 > 0 then evI a S - 1 else 0) = evI (.less a) S := by
          show _ = (if evI a S > 0 then evI a S - 1 else 0)
          split <;> split <;> omega
        rw [e]
        exact q _ H1 rfl s1
    | add a b =>
      cases d with
      | zero => exact False.elim I.ok
      | succ d =>
        obtain ⟨pa, pb, tp, ta, tb⟩ := I.at_
        obtain ⟨o1, o2⟩ := I.ok
        obtain ⟨m1, m2⟩ := I.mu
        refine ⟨_, rfl, p, _, _, _, rfl, rfl, tp, atI_nat (j := 0) rfl, ?_⟩
        refine ⟨_, rfl, rfl, _, rfl, ite2 (fun c => absurd c (by decide)) (fun c => ?_)⟩
        refine ⟨_, rfl, p, _, _, _, rfl, rfl, tp, atI_nat (j := 1) rfl, _, rfl, pa, sp, rp, .n, a, S, B, L, rfl, ⟨ta, o1, I.sl, I.b, I.sb, m1⟩, fun v H1 rv s1 => ?_⟩
        have rv : v = .int (evI a S) := rv
        subst rv
        refine ⟨_, rfl, rfl, _, rfl, ite2 (fun c => absurd c (by decide)) (fun c => ?_)⟩
        have t1 := TupsStay.same s1
        refine ⟨_, rfl, p, _, _, _, rfl, rfl, SqT.keeps tp t1, atI_nat (j := 2) rfl, _, rfl, pb, sp, rp, .n, b, S, B, L, rfl, ⟨tb.stay t1, o2, I.sl.same s1, I.b, I.sb, m2⟩, fun v2 H2 rv2 s2 => ?_⟩
        have rv2 : v2 = .int (evI b S) := rv2
        subst rv2
        refine ⟨_, rfl, rfl, _, rfl, ite2 (fun c => ?_) (fun c => absurd (by decide) c)⟩
        exact ⟨_, rfl, _, rfl, _, _, rfl, rfl, q _ H2 rfl (s1.trans s2)⟩
    | mul a b =>
      cases d with
      | zero => exact False.elim I.ok
      | succ d =>
        obtain ⟨pa, pb, tp, ta, tb⟩ := I.at_
        obtain ⟨o1, o2⟩ := I.ok
        obtain ⟨m1, m2, m3⟩ := I.mu
        refine ⟨_, rfl, p, _, _, _, rfl, rfl, tp, atI_nat (j := 0) rfl, ?_⟩
        refine ⟨_, rfl, rfl, _, rfl, ite2 (fun c => absurd c (by decide)) (fun c => ?_)⟩
        refine ⟨_, rfl, p, _, _, _, rfl, rfl, tp, atI_nat (j := 1) rfl, _, rfl, pa, sp, rp, .n, a, S, B, L, rfl, ⟨ta, o1, I.sl, I.b, I.sb, m1⟩, fun v H1 rv s1 => ?_⟩
        have rv : v = .int (evI a S) := rv
        subst rv
        refine ⟨_, rfl, rfl, _, rfl, ite2 (fun c => absurd c (by decide)) (fun c => ?_)⟩
        have t1 := TupsStay.same s1
        refine ⟨_, rfl, p, _, _, _, rfl, rfl, SqT.keeps tp t1, atI_nat (j := 2) rfl, _, rfl, pb, sp, rp, .n, b, S, B, L, rfl, ⟨tb.stay t1, o2, I.sl.same s1, I.b, I.sb, m2⟩, fun v2 H2 rv2 s2 => ?_⟩
        have rv2 : v2 = .int (evI b S) := rv2
        subst rv2
        refine ⟨_, rfl, rfl, _, rfl, ite2 (fun c => absurd c (by decide)) (fun c => ?_)⟩
        have b1 : 0 ≤ evI a S ∧ evI a S < 2 ^ bt a B := ev_bd a o1 (by have := I.b; omega) I.sb
        have b2 : 0 ≤ evI b S ∧ evI b S < 2 ^ bt b B := ev_bd b o2 (by have := I.b; omega) I.sb
        have g1 := bt_ge a B
        have g2 := bt_ge b B
        have gb := I.b
        exact ⟨_, rfl, _, rfl, _, _, rfl, rfl, mulOk (nat_bits b1) (nat_bits b2) (by omega) (by omega) m3, q _ H2 rfl (s1.trans s2)⟩
end
/-! ### a fold by its turns -/
theorem iter_fix {α : Type} {f : α → α} {x : α} (h : f x = x) : ∀ k, iter f k x = x
  | 0 => rfl
  | k + 1 => by
    show iter f k (f x) = x
    rw [h]
    exact iter_fix h k
def pdS (S : Sl) : PyData := .tuple [.int S.x, .int S.y, .int S.z, .list (S.r.map PyData.int)]
theorem shapedS (S : Sl) : SeqAt.shaped (pdS S) = true := by
  simp [pdS, SeqAt.shaped, PyData.canLay0, PyData.canLayAll0, PyData.depth, PyData.depthAll, canLayInts, depthInts]
theorem eqvAll_ints : ∀ xs ys : List Int, PyData.eqvAll (xs.map PyData.int) (ys.map PyData.int) = true → xs = ys
  | [], [], _ => rfl
  | [], y :: r, h => by simp [PyData.eqvAll] at h
  | x :: r, [], h => by simp [PyData.eqvAll] at h
  | x :: r, y :: t, h => by
    simp [PyData.eqvAll, PyData.eqv] at h
    rw [h.1, eqvAll_ints r t h.2]
theorem eqvS {S S' : Sl} (h : PyData.eqv (pdS S) (pdS S') = true) : S = S' := by
  simp [pdS, PyData.eqv, PyData.eqvAll] at h
  obtain ⟨h1, h2, h3, h4⟩ := h
  have h5 := eqvAll_ints _ _ h4
  cases S
  cases S'
  simp at h1 h2 h3 h5
  rw [h1, h2, h3, h5]
theorem dpS {K : PySem.W.Frag} {H : Hp} {sp rp : Addr} {S : Sl} (h : SlAt K H sp rp S) : Dp K H (.ref sp) (pdS S) :=
  .tup h.q (.cons (.int _) (.cons (.int _) (.cons (.int _) (.cons (.lst (SqL.of h.r) (dpInts _)) .nil))))
section
variable {P : Program} {w : World} {K : PySem.W.Frag} {mg : Str → Option Value} {base : Heap}
def spTurnsF (K : PySem.W.Frag) (d : Nat) : Sp := fun vs H Q _ => ∃ (p sp rp : Addr) (n : Fo .n) (T g : Fo .t) (S : Sl) (B L : Nat), vs = [.ref p, .ref sp] ∧ FIn K H p sp rp (.fold n T g) S d B L ∧ Tells K H Q rp (ev (.fold n T g) S)
/-- behind i turns -/
structure Mid (T g : Fo .t) (B L i : Nat) (S' : Sl) : Prop where
  r : S'.r.length ≤ ln T L + i
  x : 0 ≤ S'.x ∧ S'.x < (2 : Int) ^ bt T B + 2 * (i : Int)
  y : 0 ≤ S'.y ∧ S'.y < (2 : Int) ^ bt T B + 2 * (i : Int)
  z : 0 ≤ S'.z ∧ S'.z < (2 : Int) ^ bt T B + 2 * (i : Int)
theorem Mid.sb {T g : Fo .t} {B L i : Nat} {S' : Sl} (h : Mid T g B L i S') (hi : i ≤ 4) (hB : 4 ≤ B) : SlB (bt T B + 4) (ln T L + 4) S' := by
  have b4 : 4 ≤ bt T B := Nat.le_trans hB (bt_ge T B)
  have p4 := pow4 b4
  have pp : (2 : Int) ^ (bt T B + 4) = 2 ^ bt T B * 16 := by rw [Int.pow_add]; rfl
  have hr := h.r
  have hx := h.x
  have hy := h.y
  have hz := h.z
  refine ⟨?_, ?_, ?_, by omega⟩ <;> rw [pp] <;> omega
theorem Mid.go {T g : Fo .t} {B L i : Nat} {S' : Sl} (h : Mid T g B L i S') (hg : Flat g) (hB : 4 ≤ B) : Mid T g B L (i + 1) (ev g S') := by
  obtain ⟨a, b, c, e⟩ := hg (bt T B) (ln T L) S' i (Nat.le_trans hB (bt_ge T B)) h.r h.x h.y h.z
  have e1 : ((i + 1 : Nat) : Int) = (i : Int) + 1 := by omega
  exact ⟨by omega, by rw [e1]; omega, by rw [e1]; omega, by rw [e1]; omega⟩
theorem ok_told_by_turns {f f2 : Addr} {fd fd2 : FuncData} (T : Txt K mg) (F : DefAt K mg "_told_by_turns" "_told_by_turns" s_told_by_turns ["fold", "slots"] f fd) (D_told : DefAt K mg "_told" "_told" s_told ["fold", "slots"] f2 fd2) {d k : Nat}
    (G_told : FnOk P w K mg base CX0 k f2 fd2 ["fold", "slots"] (spTold K d)) : FnOk P w K mg base CX0 (k + 1) f fd ["fold", "slots"] (spTurnsF K d) := by
  refine F.F.ok sc_told_by_turns (fun vs H Q E h => ?_) (fun cdv A outer z H vs Q E hr h => ?_)
  · obtain ⟨p, sp, rp, n, T, g, S, B, L, rfl, _⟩ := h
    rfl
  · obtain ⟨p, sp, rp, n, T0, g, S, B, L, rfl, I, q⟩ := h
    refine ⟨_, (pss_cons (ps_set (i := 2) sc_told_by_turns.nd rfl (.inl rfl) (pe_call G_told (hr.mono (by omega)) (by rfl) D_told.g D_told.F.kp D_told.b .nil pass0 (pa_cons (pe_ix ix_tup (pv 0) pe_int (fun _ _ => rfl)) (pa_cons (pv 1) pa_nil))))
      (pss_cons (ps_for PassesOwn.never rfl (pi_range1 rfl T.m_range (pa_cons (pe_call G_told (hr.mono (by omega)) (by rfl) D_told.g D_told.F.kp D_told.b .nil pass0 (pa_cons (pe_ix ix_tup (pv 0) pe_int (fun _ _ => rfl)) (pa_cons (pv 1) pa_nil))) pa_nil)) (pg_name (i := 3) sc_told_by_turns.nd rfl (.inl rfl)) (pss_cons (ps_set (i := 4) sc_told_by_turns.nd rfl (.inl rfl) (pe_call G_told (hr.mono (by omega)) (by rfl) D_told.g D_told.F.kp D_told.b .nil pass0 (pa_cons (pe_ix ix_tup (pv 0) pe_int (fun _ _ => rfl)) (pa_cons (pv 2) pa_nil)))) (pss_cons (ps_if (pt_cmpR (op_eqD hr.units) (pv 4) (pv 2) (nomark _)) (pss_one (ps_ret (pv 2))) pss_nil) (pss_one (ps_set (i := 2) sc_told_by_turns.nd rfl (.inl rfl) (pv 4))))))
      (pss_one (ps_ret (pv 2))))), ?_⟩
    cases d with
    | zero => exact False.elim I.ok
    | succ d =>
      obtain ⟨p1, p2, p3, tp, tn, tt, tg⟩ := I.at_
      obtain ⟨o1, o2, o3, o4, o5⟩ := I.ok
      obtain ⟨m1, m2, m3⟩ := I.mu
      have gb := I.b
      refine ⟨_, rfl, p, _, _, _, rfl, rfl, tp, atI_nat (j := 2) rfl, _, rfl, p2, sp, rp, .t, T0, S, B, L, rfl, ⟨tt, o2, I.sl, I.b, I.sb, m2⟩, fun v H1 rv s1 => ?_⟩
      obtain ⟨sf, rf, rfl, slf, orf⟩ := rv
      have t1 := TupsStay.same s1
      refine ⟨_, rfl, p, _, _, _, rfl, rfl, SqT.keeps tp t1, atI_nat (j := 1) rfl, _, rfl, p1, sp, rp, .n, n, S, B, L, rfl, ⟨tn.stay t1, o1, I.sl.same s1, I.b, I.sb, m1⟩, fun v2 H2 rv2 s2 => ?_⟩
      have rv2 : v2 = .int (evI n S) := rv2
      subst rv2
      have n4 : evI n S ≤ 4 := o4 S
      have nb : 0 ≤ evI n S ∧ evI n S < 2 ^ bt n B := ev_bd n o1 (by omega) I.sb
      have sbT : SlB (bt T0 B) (ln T0 L) (ev T0 S) := ev_bd T0 o2 (by omega) I.sb
      have s12 := s1.trans s2
      refine ⟨evI n S, rfl, by omega, by omega, for_range (lo := 0) (n := (evI n S).toNat) (fun i σ Hx => ∃ (v3 v4 : Option V) (sg rg : Addr) (Si : Sl), σ = [some (.ref p), some (.ref sp), some (.ref sg), v3, v4] ∧ SlAt K Hx sg rg Si ∧ (rg = rp ∨ H rg = none) ∧ Mid T0 g B L i Si ∧ iter (ev g) ((evI n S).toNat - i) Si = ev (.fold n T0 g) S ∧ Same H Hx)
        ⟨none, none, sf, rf, ev T0 S, rfl, slf.same s2, orf, ⟨sbT.r, by have := sbT.x; omega, by have := sbT.y; omega, by have := sbT.z; omega⟩, rfl, s12⟩ (fun i σ Hx hi h => ?_) (fun σ Hx h => ?_)⟩
      · obtain ⟨v3, v4, sg, rg, Si, rfl, sl, org, mi, ei, sx⟩ := h
        have hi4 : i ≤ 4 := by omega
        have tx := TupsStay.same sx
        refine ⟨_, rfl, p, _, _, _, rfl, rfl, SqT.keeps tp tx, atI_nat (j := 3) rfl, _, rfl, p3, sg, rg, .t, g, Si, bt T0 B + 4, ln T0 L + 4, rfl, ⟨tg.stay tx, o3, sl, by have := bt_ge T0 B; omega, mi.sb hi4 (by omega), m3⟩, fun v5 H5 rv5 s5 => ?_⟩
        obtain ⟨sh, rh, rfl, slh, orh⟩ := rv5
        have orh : rh = rp ∨ H rh = none := orh.elim (fun z => z ▸ org) fun z => .inr (un0 sx z)
        refine ⟨_, rfl, _, rfl, _, _, dpS slh, dpS (sl.same s5), shapedS _, shapedS _, _, rfl, ite2 (fun c => ?_) (fun _ => ?_)⟩
        · have fx : ev g Si = Si := eqvS c
          rw [iter_fix fx] at ei
          refine ⟨_, rfl, q _ H5 ⟨sg, rg, rfl, ?_, org⟩ (sx.trans s5)⟩
          rw [← ei]
          exact sl.same s5
        · refine ⟨_, rfl, _, _, sh, rh, ev g Si, rfl, slh, orh, mi.go o5 (by omega), ?_, sx.trans s5⟩
          rw [← ei]
          have : (evI n S).toNat - i = ((evI n S).toNat - (i + 1)) + 1 := by omega
          rw [this]
          rfl
      · obtain ⟨v3, v4, sg, rg, Si, rfl, sl, org, mi, ei, sx⟩ := h
        rw [Nat.sub_self] at ei
        refine ⟨_, rfl, q _ Hx ⟨sg, rg, rfl, ?_, org⟩ sx⟩
        rw [← ei]
        exact sl
end
/-! ### told -/
section
variable {P : Program} {w : World} {K : PySem.W.Frag} {mg : Str → Option Value} {base : Heap}
theorem ix_tupK {X : Cx} {K : PySem.W.Frag} (e : X.K = K) : IxR X (rIxT K) := by
  subst e
  exact ix_tup
theorem FIn.mk2 {H : Hp} {p sp rp : Addr} {s : Srt} {f : Fo s} {S : Sl} {d B L : Nat} (a : FoAt K H p f) (b : FoOk d f) (c : SlAt K H sp rp S) (e : 10 ≤ B) (g : SlB B L S) (h : Lim f B L) : FIn K H p sp rp f S d B L := ⟨a, b, c, e, g, h⟩
theorem ok_told {f f1 f2 : Addr} {fd fd1 fd2 : FuncData} (T : Txt K mg) (F : DefAt K mg "_told" "_told" s_told ["fold", "slots"] f fd) (D_number_told : DefAt K mg "_number_told" "_number_told" s_number_told ["fold", "slots"] f1 fd1) (D_told_by_turns : DefAt K mg "_told_by_turns" "_told_by_turns" s_told_by_turns ["fold", "slots"] f2 fd2) : ∀ d, FnOk P w K mg base CX0 (2 * d + 1) f fd ["fold", "slots"] (spTold K d)
  | 0 => ⟨fun _ _ _ _ h => False.elim h, fun _ _ _ _ _ _ _ _ _ _ _ _ _ h => False.elim h⟩
  | d + 1 => by
    have G_told := ok_told T F D_number_told D_told_by_turns d
    have D_told := F
    have G_number_told : FnOk P w K mg base CX0 (2 * d + 2) f1 fd1 ["fold", "slots"] (spNum K d) := ok_number_told T D_number_told F G_told
    have G_told_by_turns : FnOk P w K mg base CX0 (2 * d + 2) f2 fd2 ["fold", "slots"] (spTurnsF K d) := ok_told_by_turns T D_told_by_turns F G_told
    refine F.F.ok sc_told (fun vs H Q E h => ?_) (fun cdv A outer z H vs Q E hr h => ?_)
    · obtain ⟨p, sp, rp, s, f, S, B, L, rfl, _⟩ := h
      rfl
    · obtain ⟨p, sp, rp, s, f, S, B, L, rfl, I, q⟩ := h
      refine ⟨_, (pss_cons (ps_while PassesOwn.never (pt_cmpR op_in_seq (pe_ix ix_tup (pv 0) pe_int (fun _ _ => rfl)) (pe_tup (pa_cons pe_str (pa_cons pe_str pa_nil))) (by rfl)) (pss_cons (ps_set (i := 2) sc_told.nd rfl (.inl rfl) (pe_call G_told (hr.mono (by omega)) (by rfl) D_told.g D_told.F.kp D_told.b .nil pass0 (pa_cons (pe_ix ix_tup (pv 0) pe_int (fun _ _ => rfl)) (pa_cons (pv 1) pa_nil)))) (pss_one (ps_if (pt_cmpR op_eq (pe_ix ix_tup (pv 0) pe_int (fun _ _ => rfl)) pe_str (nomark _)) (pss_cons (ps_set (i := 1) sc_told.nd rfl (.inr rfl) (pv 2)) (pss_one (ps_set (i := 0) sc_told.nd rfl (.inl rfl) (pe_ix ix_tup (pv 0) pe_int (fun _ _ => rfl))))) (pss_one (ps_if (pt_cmpR op_ne (pv 2) pe_int (nomark _)) (pss_one (ps_set (i := 0) sc_told.nd rfl (.inl rfl) (pe_ix ix_tup (pv 0) pe_int (fun _ _ => rfl)))) (pss_one (ps_set (i := 0) sc_told.nd rfl (.inl rfl) (pe_ix ix_tup (pv 0) pe_int (fun _ _ => rfl))))))))))
      (pss_cons (ps_set (i := 3) sc_told.nd rfl (.inl rfl) (pe_ix ix_tup (pv 0) pe_int (fun _ _ => rfl)))
      (pss_cons (ps_if (pt_cmpR op_eq (pv 3) pe_str (nomark _)) (pss_one (ps_ret (pe_call G_told_by_turns (hr.mono (by omega)) (by rfl) D_told_by_turns.g D_told_by_turns.F.kp D_told_by_turns.b .nil pass0 (pa_cons (pv 0) (pa_cons (pv 1) pa_nil))))) pss_nil)
      (pss_cons (ps_if (pt_cmpR op_eq (pv 3) pe_str (nomark _)) (pss_one (ps_ret (pe_tupleOf (by rfl) T.m_tuple (pe_lc (own := [("part", 4)]) (g := gName 4) (tt := tYes) rfl sc_told.nd (pi_tup (pe_ix ix_tup (pv 0) pe_int (fun _ _ => rfl))) (blkOk_by (own := [("part", 4)]) (N := ["fold", "slots", "first", "word", "part"]) (sc := defScope s_told) (by decide +kernel)) (fun _ _ _ _ _ => pg_name (i := 4) sc_told.nd rfl (.inl rfl)) (fun _ _ _ _ _ => pts_nil) (fun _ _ _ _ _ => (pe_call G_told (hr.mono (by omega)) (by rfl) D_told.g D_told.F.kp D_told.b .nil pass0 (pa_cons (pv 4) (pa_cons (pv 1) pa_nil)))))))) pss_nil)
      (pss_cons (ps_if (pt_cmpR op_eq (pv 3) pe_str (nomark _)) (pss_one (ps_ret (pe_ix ix_tup (pv 1) (pe_ix ix_tup (pv 0) pe_int (fun _ _ => rfl)) (fun _ _ => rfl)))) pss_nil)
      (pss_cons (ps_if (pt_cmpR op_eq (pv 3) pe_str (nomark _)) (pss_one (ps_ret (pe_lst pa_nil))) pss_nil)
      (pss_cons (ps_if (pt_cmpR op_eq (pv 3) pe_str (nomark _)) (pss_one (ps_ret (pe_op op_cat (pe_call G_told (hr.mono (by omega)) (by rfl) D_told.g D_told.F.kp D_told.b .nil pass0 (pa_cons (pe_ix ix_tup (pv 0) pe_int (fun _ _ => rfl)) (pa_cons (pv 1) pa_nil))) (pe_lst (pa_cons (pe_call G_told (hr.mono (by omega)) (by rfl) D_told.g D_told.F.kp D_told.b .nil pass0 (pa_cons (pe_ix ix_tup (pv 0) pe_int (fun _ _ => rfl)) (pa_cons (pv 1) pa_nil))) pa_nil))))) pss_nil)
      (pss_one (ps_ret (pe_call G_number_told (hr.mono (by omega)) (by rfl) D_number_told.g D_number_told.F.kp D_number_told.b .nil pass0 (pa_cons (pv 0) (pa_cons (pv 1) pa_nil)))))))))))), ?_⟩
      refine ⟨fun m σ H2 => ∃ (p' sp' rp' : Addr) (f' : Fo s) (S' : Sl) (B' L' : Nat) (v2 v3 v4 : Option V), σ = [some (.ref p'), some (.ref sp'), v2, v3, v4] ∧ FIn K H2 p' sp' rp' f' S' m B' L' ∧ m ≤ d ∧ ev f' S' = ev f S ∧ (rp' = rp ∨ H rp' = none) ∧ Same H H2, ⟨d, p, sp, rp, f, S, B, L, none, none, none, rfl, I, Nat.le_refl _, rfl, .inl rfl, fun _ _ e => e⟩, ?_⟩
      rintro m σ H2 ⟨p', sp', rp', f', S', B', L', v2, v3, v4, rfl, I', lm, ee, orp, s2⟩
      cases f' with
      | num k =>
        refine ⟨_, rfl, p', _, _, _, rfl, rfl, I'.at_, atI_nat (j := 0) rfl, (by show 2 ≤ sizeLine; decide), fun t nt => ?_⟩
        have st := same_upd (o := .tup [.str "with", .str "where"]) nt
        have I' := I'.same st
        have s2 := s2.trans st
        have tt := TupsStay.same st
        refine ⟨t, _, rfl, .inr (SqT.of upd_same), rfl, rfl, _, rfl, ite2 (fun c => absurd c (by decide)) (fun _ => ?_)⟩
        clear nt
        generalize upd H2 t (.tup [.str "with", .str "where"]) = H3 at *
        refine ⟨_, rfl, p', _, _, _, rfl, rfl, I'.at_, atI_nat (j := 0) rfl, ?_⟩
        refine ⟨_, rfl, rfl, _, rfl, ite2 (fun c => absurd c (by decide)) (fun c => ?_)⟩
        refine ⟨_, rfl, rfl, _, rfl, ite2 (fun c => absurd c (by decide)) (fun c => ?_)⟩
        refine ⟨_, rfl, rfl, _, rfl, ite2 (fun c => absurd c (by decide)) (fun c => ?_)⟩
        refine ⟨_, rfl, rfl, _, rfl, ite2 (fun c => absurd c (by decide)) (fun c => ?_)⟩
        refine ⟨_, rfl, rfl, _, rfl, ite2 (fun c => absurd c (by decide)) (fun c => ?_)⟩
        refine ⟨_, rfl, _, rfl, p', sp', rp', _, S', B', L', rfl, ⟨I'.at_, I'.ok.ups lm, I'.sl, I'.b, I'.sb, I'.mu⟩, True.intro, fun v H4 rv s4 => q v H4 (by rw [← ee]; exact rv.to fun _ z => z.elim (fun z => z ▸ orp) fun z => .inr (un0 s2 z)) (s2.trans s4)⟩
      | slot k =>
        have ok := I'.ok
        have hk : k < 3 := by cases m <;> exact ok
        refine ⟨_, rfl, p', _, _, _, rfl, rfl, I'.at_, atI_nat (j := 0) rfl, (by show 2 ≤ sizeLine; decide), fun t nt => ?_⟩
        have st := same_upd (o := .tup [.str "with", .str "where"]) nt
        have I' := I'.same st
        have s2 := s2.trans st
        have tt := TupsStay.same st
        refine ⟨t, _, rfl, .inr (SqT.of upd_same), rfl, rfl, _, rfl, ite2 (fun c => absurd c (by decide)) (fun _ => ?_)⟩
        clear nt
        generalize upd H2 t (.tup [.str "with", .str "where"]) = H3 at *
        refine ⟨_, rfl, p', _, _, _, rfl, rfl, I'.at_, atI_nat (j := 0) rfl, ?_⟩
        refine ⟨_, rfl, rfl, _, rfl, ite2 (fun c => absurd c (by decide)) (fun c => ?_)⟩
        refine ⟨_, rfl, rfl, _, rfl, ite2 (fun c => absurd c (by decide)) (fun c => ?_)⟩
        refine ⟨_, rfl, rfl, _, rfl, ite2 (fun c => ?_) (fun c => absurd (by decide) c)⟩
        have e3 : k = 0 ∨ k = 1 ∨ k = 2 := by omega
        have slq := I'.sl.q
        rcases e3 with z | z | z <;> subst z
        · exact ⟨_, rfl, _, rfl, p', _, _, _, rfl, rfl, I'.at_, atI_nat (j := 1) rfl, sp', _, _, _, rfl, rfl, slq, atI_nat (j := 0) rfl, q _ H3 (by rw [← ee]; rfl) s2⟩
        · exact ⟨_, rfl, _, rfl, p', _, _, _, rfl, rfl, I'.at_, atI_nat (j := 1) rfl, sp', _, _, _, rfl, rfl, slq, atI_nat (j := 1) rfl, q _ H3 (by rw [← ee]; rfl) s2⟩
        · exact ⟨_, rfl, _, rfl, p', _, _, _, rfl, rfl, I'.at_, atI_nat (j := 1) rfl, sp', _, _, _, rfl, rfl, slq, atI_nat (j := 2) rfl, q _ H3 (by rw [← ee]; rfl) s2⟩
      | less a =>
        obtain ⟨pa, tp, ta⟩ := id I'.at_
        refine ⟨_, rfl, p', _, _, _, rfl, rfl, tp, atI_nat (j := 0) rfl, (by show 2 ≤ sizeLine; decide), fun t nt => ?_⟩
        have st := same_upd (o := .tup [.str "with", .str "where"]) nt
        have I' := I'.same st
        have s2 := s2.trans st
        have tt := TupsStay.same st
        refine ⟨t, _, rfl, .inr (SqT.of upd_same), rfl, rfl, _, rfl, ite2 (fun c => absurd c (by decide)) (fun _ => ?_)⟩
        clear nt
        generalize upd H2 t (.tup [.str "with", .str "where"]) = H3 at *
        refine ⟨_, rfl, p', _, _, _, rfl, rfl, SqT.keeps tp tt, atI_nat (j := 0) rfl, ?_⟩
        refine ⟨_, rfl, rfl, _, rfl, ite2 (fun c => absurd c (by decide)) (fun c => ?_)⟩
        refine ⟨_, rfl, rfl, _, rfl, ite2 (fun c => absurd c (by decide)) (fun c => ?_)⟩
        refine ⟨_, rfl, rfl, _, rfl, ite2 (fun c => absurd c (by decide)) (fun c => ?_)⟩
        refine ⟨_, rfl, rfl, _, rfl, ite2 (fun c => absurd c (by decide)) (fun c => ?_)⟩
        refine ⟨_, rfl, rfl, _, rfl, ite2 (fun c => absurd c (by decide)) (fun c => ?_)⟩
        refine ⟨_, rfl, _, rfl, p', sp', rp', _, S', B', L', rfl, ⟨I'.at_, I'.ok.ups lm, I'.sl, I'.b, I'.sb, I'.mu⟩, True.intro, fun v H4 rv s4 => q v H4 (by rw [← ee]; exact rv.to fun _ z => z.elim (fun z => z ▸ orp) fun z => .inr (un0 s2 z)) (s2.trans s4)⟩
      | add a b =>
        obtain ⟨pa, pb, tp, ta, tb⟩ := id I'.at_
        refine ⟨_, rfl, p', _, _, _, rfl, rfl, tp, atI_nat (j := 0) rfl, (by show 2 ≤ sizeLine; decide), fun t nt => ?_⟩
        have st := same_upd (o := .tup [.str "with", .str "where"]) nt
        have I' := I'.same st
        have s2 := s2.trans st
        have tt := TupsStay.same st
        refine ⟨t, _, rfl, .inr (SqT.of upd_same), rfl, rfl, _, rfl, ite2 (fun c => absurd c (by decide)) (fun _ => ?_)⟩
        clear nt
        generalize upd H2 t (.tup [.str "with", .str "where"]) = H3 at *
        refine ⟨_, rfl, p', _, _, _, rfl, rfl, SqT.keeps tp tt, atI_nat (j := 0) rfl, ?_⟩
        refine ⟨_, rfl, rfl, _, rfl, ite2 (fun c => absurd c (by decide)) (fun c => ?_)⟩
        refine ⟨_, rfl, rfl, _, rfl, ite2 (fun c => absurd c (by decide)) (fun c => ?_)⟩
        refine ⟨_, rfl, rfl, _, rfl, ite2 (fun c => absurd c (by decide)) (fun c => ?_)⟩
        refine ⟨_, rfl, rfl, _, rfl, ite2 (fun c => absurd c (by decide)) (fun c => ?_)⟩
        refine ⟨_, rfl, rfl, _, rfl, ite2 (fun c => absurd c (by decide)) (fun c => ?_)⟩
        refine ⟨_, rfl, _, rfl, p', sp', rp', _, S', B', L', rfl, ⟨I'.at_, I'.ok.ups lm, I'.sl, I'.b, I'.sb, I'.mu⟩, True.intro, fun v H4 rv s4 => q v H4 (by rw [← ee]; exact rv.to fun _ z => z.elim (fun z => z ▸ orp) fun z => .inr (un0 s2 z)) (s2.trans s4)⟩
      | mul a b =>
        obtain ⟨pa, pb, tp, ta, tb⟩ := id I'.at_
        refine ⟨_, rfl, p', _, _, _, rfl, rfl, tp, atI_nat (j := 0) rfl, (by show 2 ≤ sizeLine; decide), fun t nt => ?_⟩
        have st := same_upd (o := .tup [.str "with", .str "where"]) nt
        have I' := I'.same st
        have s2 := s2.trans st
        have tt := TupsStay.same st
        refine ⟨t, _, rfl, .inr (SqT.of upd_same), rfl, rfl, _, rfl, ite2 (fun c => absurd c (by decide)) (fun _ => ?_)⟩
        clear nt
        generalize upd H2 t (.tup [.str "with", .str "where"]) = H3 at *
        refine ⟨_, rfl, p', _, _, _, rfl, rfl, SqT.keeps tp tt, atI_nat (j := 0) rfl, ?_⟩
        refine ⟨_, rfl, rfl, _, rfl, ite2 (fun c => absurd c (by decide)) (fun c => ?_)⟩
        refine ⟨_, rfl, rfl, _, rfl, ite2 (fun c => absurd c (by decide)) (fun c => ?_)⟩
        refine ⟨_, rfl, rfl, _, rfl, ite2 (fun c => absurd c (by decide)) (fun c => ?_)⟩
        refine ⟨_, rfl, rfl, _, rfl, ite2 (fun c => absurd c (by decide)) (fun c => ?_)⟩
        refine ⟨_, rfl, rfl, _, rfl, ite2 (fun c => absurd c (by decide)) (fun c => ?_)⟩
        refine ⟨_, rfl, _, rfl, p', sp', rp', _, S', B', L', rfl, ⟨I'.at_, I'.ok.ups lm, I'.sl, I'.b, I'.sb, I'.mu⟩, True.intro, fun v H4 rv s4 => q v H4 (by rw [← ee]; exact rv.to fun _ z => z.elim (fun z => z ▸ orp) fun z => .inr (un0 s2 z)) (s2.trans s4)⟩
      | none =>
        refine ⟨_, rfl, p', _, _, _, rfl, rfl, I'.at_, atI_nat (j := 0) rfl, (by show 2 ≤ sizeLine; decide), fun t nt => ?_⟩
        have st := same_upd (o := .tup [.str "with", .str "where"]) nt
        have I' := I'.same st
        have s2 := s2.trans st
        have tt := TupsStay.same st
        refine ⟨t, _, rfl, .inr (SqT.of upd_same), rfl, rfl, _, rfl, ite2 (fun c => absurd c (by decide)) (fun _ => ?_)⟩
        clear nt
        generalize upd H2 t (.tup [.str "with", .str "where"]) = H3 at *
        refine ⟨_, rfl, p', _, _, _, rfl, rfl, I'.at_, atI_nat (j := 0) rfl, ?_⟩
        refine ⟨_, rfl, rfl, _, rfl, ite2 (fun c => absurd c (by decide)) (fun c => ?_)⟩
        refine ⟨_, rfl, rfl, _, rfl, ite2 (fun c => absurd c (by decide)) (fun c => ?_)⟩
        refine ⟨_, rfl, rfl, _, rfl, ite2 (fun c => absurd c (by decide)) (fun c => ?_)⟩
        refine ⟨_, rfl, rfl, _, rfl, ite2 (fun c => ?_) (fun c => absurd (by decide) c)⟩
        exact ⟨(by show 0 ≤ sizeLine; decide), fun l nl => q _ _ ⟨l, rfl, by rw [upd_same, ← ee]; rfl, .inr (un0 s2 nl)⟩ (s2.trans (same_upd nl))⟩
      | slot3 =>
        refine ⟨_, rfl, p', _, _, _, rfl, rfl, I'.at_, atI_nat (j := 0) rfl, (by show 2 ≤ sizeLine; decide), fun t nt => ?_⟩
        have st := same_upd (o := .tup [.str "with", .str "where"]) nt
        have I' := I'.same st
        have s2 := s2.trans st
        have tt := TupsStay.same st
        refine ⟨t, _, rfl, .inr (SqT.of upd_same), rfl, rfl, _, rfl, ite2 (fun c => absurd c (by decide)) (fun _ => ?_)⟩
        clear nt
        generalize upd H2 t (.tup [.str "with", .str "where"]) = H3 at *
        refine ⟨_, rfl, p', _, _, _, rfl, rfl, I'.at_, atI_nat (j := 0) rfl, ?_⟩
        refine ⟨_, rfl, rfl, _, rfl, ite2 (fun c => absurd c (by decide)) (fun c => ?_)⟩
        refine ⟨_, rfl, rfl, _, rfl, ite2 (fun c => absurd c (by decide)) (fun c => ?_)⟩
        refine ⟨_, rfl, rfl, _, rfl, ite2 (fun c => ?_) (fun c => absurd (by decide) c)⟩
        exact ⟨_, rfl, _, rfl, p', _, _, _, rfl, rfl, I'.at_, atI_nat (j := 1) rfl, sp', _, _, _, rfl, rfl, I'.sl.q, atI_nat (j := 3) rfl, q _ H3 ⟨rp', rfl, by rw [← ee]; exact I'.sl.r, orp⟩ s2⟩
      | more a b =>
        cases m with
        | zero => exact False.elim I'.ok
        | succ m =>
        cases d with
        | zero => omega
        | succ d =>
        obtain ⟨pa, pb, tp, ta, tb⟩ := id I'.at_
        refine ⟨_, rfl, p', _, _, _, rfl, rfl, tp, atI_nat (j := 0) rfl, (by show 2 ≤ sizeLine; decide), fun t nt => ?_⟩
        have st := same_upd (o := .tup [.str "with", .str "where"]) nt
        have I' := I'.same st
        have s2 := s2.trans st
        have tt := TupsStay.same st
        refine ⟨t, _, rfl, .inr (SqT.of upd_same), rfl, rfl, _, rfl, ite2 (fun c => absurd c (by decide)) (fun _ => ?_)⟩
        clear nt
        generalize upd H2 t (.tup [.str "with", .str "where"]) = H3 at *
        refine ⟨_, rfl, p', _, _, _, rfl, rfl, SqT.keeps tp tt, atI_nat (j := 0) rfl, ?_⟩
        refine ⟨_, rfl, rfl, _, rfl, ite2 (fun c => absurd c (by decide)) (fun c => ?_)⟩
        refine ⟨_, rfl, rfl, _, rfl, ite2 (fun c => absurd c (by decide)) (fun c => ?_)⟩
        refine ⟨_, rfl, rfl, _, rfl, ite2 (fun c => absurd c (by decide)) (fun c => ?_)⟩
        refine ⟨_, rfl, rfl, _, rfl, ite2 (fun c => absurd c (by decide)) (fun c => ?_)⟩
        refine ⟨_, rfl, rfl, _, rfl, ite2 (fun c => ?_) (fun c => absurd (by decide) c)⟩
        obtain ⟨pa, pb, tp, ta, tb⟩ := I'.at_
        obtain ⟨o1, o2⟩ := I'.ok
        obtain ⟨m1, m2, m3⟩ := I'.mu
        have gb := I'.b
        have lr : (ev a S').length ≤ ln a L' := ev_bd a o1 (by omega) I'.sb
        refine ⟨_, rfl, p', _, _, _, rfl, rfl, tp, atI_nat (j := 1) rfl, _, rfl, pa, sp', rp', .r, a, S', B', L', rfl, ⟨ta, o1.ups (by omega), I'.sl, I'.b, I'.sb, m1⟩, fun v H4 rv s4 => ?_⟩
        obtain ⟨qa, rfl, ea, _⟩ := rv
        have t4 := TupsStay.same s4
        refine ⟨_, rfl, p', _, _, _, rfl, rfl, SqT.keeps tp t4, atI_nat (j := 2) rfl, _, rfl, pb, sp', rp', .n, b, S', B', L', rfl, ⟨tb.stay t4, o2.ups (by omega), I'.sl.same s4, I'.b, I'.sb, m2⟩, fun v5 H5 rv5 s5 => ?_⟩
        have rv5 : v5 = .int (evI b S') := rv5
        subst rv5
        refine ⟨(by show 1 ≤ sizeLine; decide), fun l nl => ?_⟩
        have s6 := same_upd (o := .lst [.int (evI b S')]) nl
        refine ⟨qa, l, _, _, rfl, rfl, s6 _ _ (s5 _ _ ea), upd_same, by rw [List.length_map, sizeLine_eq, List.length_singleton]; omega, fun pn npn => ?_⟩
        refine q _ _ ⟨pn, rfl, ?_, .inr (un0 (s2.trans (s4.trans (s5.trans s6))) npn)⟩ (s2.trans ((s4.trans (s5.trans s6)).trans (same_upd npn)))
        rw [upd_same, ← ee]
        show some (HO.lst ((ev a S').map V.int ++ [.int (evI b S')])) = some (HO.lst ((ev a S' ++ [ev b S']).map V.int))
        rw [List.map_append]
        rfl
      | tup a b c3 e =>
        cases m with
        | zero => exact False.elim I'.ok
        | succ m =>
        cases d with
        | zero => omega
        | succ d =>
        obtain ⟨t0, q1, q2, q3, q4, tp, ts, f1', f2', f3', f4'⟩ := id I'.at_
        refine ⟨_, rfl, p', _, _, _, rfl, rfl, tp, atI_nat (j := 0) rfl, (by show 2 ≤ sizeLine; decide), fun t nt => ?_⟩
        have st := same_upd (o := .tup [.str "with", .str "where"]) nt
        have I' := I'.same st
        have s2 := s2.trans st
        have tt := TupsStay.same st
        refine ⟨t, _, rfl, .inr (SqT.of upd_same), rfl, rfl, _, rfl, ite2 (fun c => absurd c (by decide)) (fun _ => ?_)⟩
        clear nt
        generalize upd H2 t (.tup [.str "with", .str "where"]) = H3 at *
        refine ⟨_, rfl, p', _, _, _, rfl, rfl, SqT.keeps tp tt, atI_nat (j := 0) rfl, ?_⟩
        refine ⟨_, rfl, rfl, _, rfl, ite2 (fun c => absurd c (by decide)) (fun c => ?_)⟩
        refine ⟨_, rfl, rfl, _, rfl, ite2 (fun c => ?_) (fun c => absurd (by decide) c)⟩
        have I3 := I'
        obtain ⟨o1, o2, o3, o4⟩ := I'.ok
        obtain ⟨m1, m2, m3, m4⟩ := I'.mu
        have tp := SqT.keeps tp tt
        have ts := SqT.keeps ts tt
        have f1' := f1'.stay tt
        have f2' := f2'.stay tt
        have f3' := f3'.stay tt
        have f4' := f4'.stay tt
        refine ⟨_, rfl, p', _, _, _, rfl, rfl, tp, atI_nat (j := 1) rfl, t0, rfl, ⟨_, ts⟩, fun D nD => lc_tup (K := K) (a := t0) (xs := [V.ref q1, .ref q2, .ref q3, .ref q4]) (fun i Hx => ∃ acc : List V, Hx D = some (.lst acc) ∧ Same H3 Hx ∧ (i = 0 → acc = []) ∧ (i = 1 → acc = [.int (evI a S')]) ∧ (i = 2 → acc = [.int (evI a S'), .int (evI b S')]) ∧ (i = 3 → acc = [.int (evI a S'), .int (evI b S'), .int (evI c3 S')]) ∧ (i = 4 → ∃ rq : Addr, acc = [.int (evI a S'), .int (evI b S'), .int (evI c3 S'), .ref rq] ∧ Hx rq = some (.lst ((ev e S').map V.int)) ∧ (rq = rp ∨ H rq = none)))
          ⟨[], upd_same, same_upd nD, fun _ => rfl, fun z => by omega, fun z => by omega, fun z => by omega, fun z => by omega⟩ (fun i Hx _ ⟨_, _, u, _⟩ => SqT.keeps ts (TupsStay.same u)) (fun i x Hx hx ⟨acc, e1, u, a0, a1, a2, a3, _⟩ => ?_) (fun Hx ⟨acc, e1, u, _, _, _, _, a4⟩ => ?_)⟩
        · have tu := TupsStay.same u
          have nof : ∀ {Hy : Hp} {o : HO}, Same Hx Hy → Same H3 (upd Hy D o) := fun {Hy o} v b o' e' => by
            rw [upd_ne (ne_of_none e' nD)]
            exact v _ _ (u _ _ e')
          match i, hx with
          | 0, hx =>
            injection hx with hx
            subst hx
            refine ⟨rfl, _, rfl, _, rfl, q1, sp', rp', .n, a, S', B', L', rfl, ⟨f1'.stay tu, o1.ups (by omega), I3.sl.same u, I3.b, I3.sb, m1⟩, fun v H4 rv s4 => ?_⟩
            have rv : v = .int (evI a S') := rv
            subst rv
            exact ⟨acc, s4 _ _ e1, by rw [a0 rfl]; decide, _, upd_same, nof s4, fun z => by omega, fun _ => by rw [a0 rfl]; rfl, fun z => by omega, fun z => by omega, fun z => by omega⟩
          | 1, hx =>
            injection hx with hx
            subst hx
            refine ⟨rfl, _, rfl, _, rfl, q2, sp', rp', .n, b, S', B', L', rfl, ⟨f2'.stay tu, o2.ups (by omega), I3.sl.same u, I3.b, I3.sb, m2⟩, fun v H4 rv s4 => ?_⟩
            have rv : v = .int (evI b S') := rv
            subst rv
            exact ⟨acc, s4 _ _ e1, by rw [a1 rfl]; show 1 < sizeLine; decide, _, upd_same, nof s4, fun z => by omega, fun z => by omega, fun _ => by rw [a1 rfl]; rfl, fun z => by omega, fun z => by omega⟩
          | 2, hx =>
            injection hx with hx
            subst hx
            refine ⟨rfl, _, rfl, _, rfl, q3, sp', rp', .n, c3, S', B', L', rfl, ⟨f3'.stay tu, o3.ups (by omega), I3.sl.same u, I3.b, I3.sb, m3⟩, fun v H4 rv s4 => ?_⟩
            have rv : v = .int (evI c3 S') := rv
            subst rv
            exact ⟨acc, s4 _ _ e1, by rw [a2 rfl]; show 2 < sizeLine; decide, _, upd_same, nof s4, fun z => by omega, fun z => by omega, fun z => by omega, fun _ => by rw [a2 rfl]; rfl, fun z => by omega⟩
          | 3, hx =>
            injection hx with hx
            subst hx
            refine ⟨rfl, _, rfl, _, rfl, q4, sp', rp', .r, e, S', B', L', rfl, ⟨f4'.stay tu, o4.ups (by omega), I3.sl.same u, I3.b, I3.sb, m4⟩, fun v H4 rv s4 => ?_⟩
            obtain ⟨rq, rfl, er, orq⟩ := rv
            have nrD : rq ≠ D := orq.elim (fun z => z ▸ ne_of_none I3.sl.r nD) fun z k => by rw [k, e1] at z; cases z
            have orq2 : rq = rp ∨ H rq = none := orq.elim (fun z => z ▸ orp) fun z => .inr (un0 (s2.trans u) z)
            exact ⟨acc, s4 _ _ e1, by rw [a3 rfl]; show 3 < sizeLine; decide, _, upd_same, nof s4, fun z => by omega, fun z => by omega, fun z => by omega, fun z => by omega, fun _ => ⟨rq, by rw [a3 rfl]; rfl, by rw [upd_ne nrD]; exact er, orq2⟩⟩
          | i + 4, hx => cases hx
        · obtain ⟨rq, a4, er, orq⟩ := a4 rfl
          subst a4
          refine .inl ⟨D, _, rfl, SqL.of e1, fun qn nq => ?_⟩
          have su := same_upd (o := .tup [.int (evI a S'), .int (evI b S'), .int (evI c3 S'), .ref rq]) nq
          exact q _ _ ⟨qn, rq, rfl, by rw [← ee]; exact ⟨SqT.of upd_same, su _ _ er⟩, orq⟩ (s2.trans (u.trans su))
      | one =>
        obtain ⟨t0, q1, tp, ts, f1'⟩ := id I'.at_
        refine ⟨_, rfl, p', _, _, _, rfl, rfl, tp, atI_nat (j := 0) rfl, (by show 2 ≤ sizeLine; decide), fun t nt => ?_⟩
        have st := same_upd (o := .tup [.str "with", .str "where"]) nt
        have I' := I'.same st
        have s2 := s2.trans st
        have tt := TupsStay.same st
        refine ⟨t, _, rfl, .inr (SqT.of upd_same), rfl, rfl, _, rfl, ite2 (fun c => absurd c (by decide)) (fun _ => ?_)⟩
        clear nt
        generalize upd H2 t (.tup [.str "with", .str "where"]) = H3 at *
        refine ⟨_, rfl, p', _, _, _, rfl, rfl, SqT.keeps tp tt, atI_nat (j := 0) rfl, ?_⟩
        refine ⟨_, rfl, rfl, _, rfl, ite2 (fun c => absurd c (by decide)) (fun c => ?_)⟩
        refine ⟨_, rfl, rfl, _, rfl, ite2 (fun c => ?_) (fun c => absurd (by decide) c)⟩
        have I3 := I'
        have tp := SqT.keeps tp tt
        have ts := SqT.keeps ts tt
        have f1' : FoAt K H3 q1 .slot3 := SqT.keeps f1' tt
        refine ⟨_, rfl, p', _, _, _, rfl, rfl, tp, atI_nat (j := 1) rfl, t0, rfl, ⟨_, ts⟩, fun D nD => lc_tup (K := K) (a := t0) (xs := [V.ref q1]) (fun i Hx => ∃ acc : List V, Hx D = some (.lst acc) ∧ Same H3 Hx ∧ (i = 0 → acc = []) ∧ (i = 1 → ∃ rq : Addr, acc = [.ref rq] ∧ Hx rq = some (.lst (S'.r.map V.int)) ∧ (rq = rp ∨ H rq = none)))
          ⟨[], upd_same, same_upd nD, fun _ => rfl, fun z => by omega⟩ (fun i Hx _ ⟨_, _, u, _⟩ => SqT.keeps ts (TupsStay.same u)) (fun i x Hx hx ⟨acc, e1, u, a0, _⟩ => ?_) (fun Hx ⟨acc, e1, u, _, a4⟩ => ?_)⟩
        · have tu := TupsStay.same u
          have nof : ∀ {Hy : Hp} {o : HO}, Same Hx Hy → Same H3 (upd Hy D o) := fun {Hy o} v b o' e' => by
            rw [upd_ne (ne_of_none e' nD)]
            exact v _ _ (u _ _ e')
          match i, hx with
          | 0, hx =>
            injection hx with hx
            subst hx
            cases d with
            | zero =>
              have : m = 0 := by omega
              subst this
              exact False.elim I3.ok
            | succ d =>
            refine ⟨rfl, _, rfl, _, rfl, q1, sp', rp', .r, .slot3, S', B', L', rfl, ⟨f1'.stay tu, (by cases d <;> exact True.intro), I3.sl.same u, I3.b, I3.sb, True.intro⟩, fun v H4 rv s4 => ?_⟩
            obtain ⟨rq, rfl, er, orq⟩ := rv
            have nrD : rq ≠ D := orq.elim (fun z => z ▸ ne_of_none I3.sl.r nD) fun z k => by rw [k, e1] at z; cases z
            have orq2 : rq = rp ∨ H rq = none := orq.elim (fun z => z ▸ orp) fun z => .inr (un0 (s2.trans u) z)
            exact ⟨acc, s4 _ _ e1, by rw [a0 rfl]; decide, _, upd_same, nof s4, fun z => by omega, fun _ => ⟨rq, by rw [a0 rfl]; rfl, by rw [upd_ne nrD]; exact er, orq2⟩⟩
          | i + 1, hx => cases hx
        · obtain ⟨rq, a4, er, orq⟩ := a4 rfl
          subst a4
          refine .inl ⟨D, _, rfl, SqL.of e1, fun qn nq => ?_⟩
          have su := same_upd (o := .tup [.ref rq]) nq
          exact q _ _ ⟨qn, rq, rfl, SqT.of upd_same, by rw [← ee]; exact su _ _ er, orq⟩ (s2.trans (u.trans su))
      | whr c a b =>
        cases m with
        | zero => exact False.elim I'.ok
        | succ m =>
        cases d with
        | zero => omega
        | succ d =>
        obtain ⟨q1, q2, q3, tp, tc, ta, tb⟩ := id I'.at_
        refine ⟨_, rfl, p', _, _, _, rfl, rfl, tp, atI_nat (j := 0) rfl, (by show 2 ≤ sizeLine; decide), fun t nt => ?_⟩
        have st := same_upd (o := .tup [.str "with", .str "where"]) nt
        have I' := I'.same st
        have s2 := s2.trans st
        have tt := TupsStay.same st
        refine ⟨t, _, rfl, .inr (SqT.of upd_same), rfl, rfl, _, rfl, ite2 (fun _ => ?_) (fun c => absurd (by decide) c)⟩
        clear nt
        generalize upd H2 t (.tup [.str "with", .str "where"]) = H3 at *
        refine ⟨fun σ H2 => ∃ (p' sp' rp' : Addr) (f' : Fo s) (S' : Sl) (B' L' : Nat) (v2 v3 v4 : Option V), σ = [some (.ref p'), some (.ref sp'), v2, v3, v4] ∧ FIn K H2 p' sp' rp' f' S' m B' L' ∧ m ≤ d + 1 ∧ ev f' S' = ev f S ∧ (rp' = rp ∨ H rp' = none) ∧ Same H H2, fun σ' H' h => ⟨m, Nat.lt_succ_self m, h⟩, ?_⟩
        obtain ⟨o1, o2, o3⟩ := I'.ok
        obtain ⟨m1, m2, m3⟩ := I'.mu
        have tp := SqT.keeps tp tt
        refine ⟨_, rfl, p', _, _, _, rfl, rfl, tp, atI_nat (j := 1) rfl, _, rfl, q1, sp', rp', .n, c, S', B', L', rfl, ⟨tc.stay tt, o1.ups (by omega), I'.sl, I'.b, I'.sb, m1⟩, fun v H4 rv s4 => ?_⟩
        have rv : v = .int (evI c S') := rv
        subst rv
        have t4 := TupsStay.same s4
        have tp4 := SqT.keeps tp t4
        have e0 : ev (.whr c a b) S' = if evI c S' ≠ 0 then ev a S' else ev b S' := rfl
        refine ⟨_, rfl, p', _, _, _, rfl, rfl, tp4, atI_nat (j := 0) rfl, rfl, _, rfl, ite2 (fun c => absurd c (by decide)) (fun _ => ?_)⟩
        refine ⟨_, rfl, rfl, _, rfl, ite2 (fun cc => ?_) (fun cc => ?_)⟩
        · have nz : evI c S' ≠ 0 := fun z => by
            rw [z] at cc
            exact absurd cc (by decide)
          rw [e0, if_pos nz] at ee
          exact ⟨_, rfl, p', _, _, _, rfl, rfl, tp4, atI_nat (j := 2) rfl, q2, sp', rp', a, S', B', L', _, _, _, rfl, ⟨(ta.stay tt).stay t4, o2, I'.sl.same s4, I'.b, I'.sb, m2⟩, by omega, ee, orp, s2.trans s4⟩
        · have nz : ¬ evI c S' ≠ 0 := fun z => cc (by
            have : decide (V.int (evI c S') = V.int 0) = false := decide_eq_false fun e => z (by injection e)
            rw [this]
            rfl)
          rw [e0, if_neg nz] at ee
          exact ⟨_, rfl, p', _, _, _, rfl, rfl, tp4, atI_nat (j := 3) rfl, q3, sp', rp', b, S', B', L', _, _, _, rfl, ⟨(tb.stay tt).stay t4, o3, I'.sl.same s4, I'.b, I'.sb, m3⟩, by omega, ee, orp, s2.trans s4⟩
      | wth T0 a =>
        cases m with
        | zero => exact False.elim I'.ok
        | succ m =>
        cases d with
        | zero => omega
        | succ d =>
        obtain ⟨q1, q2, tp, tT, ta⟩ := id I'.at_
        refine ⟨_, rfl, p', _, _, _, rfl, rfl, tp, atI_nat (j := 0) rfl, (by show 2 ≤ sizeLine; decide), fun t nt => ?_⟩
        have st := same_upd (o := .tup [.str "with", .str "where"]) nt
        have I' := I'.same st
        have s2 := s2.trans st
        have tt := TupsStay.same st
        refine ⟨t, _, rfl, .inr (SqT.of upd_same), rfl, rfl, _, rfl, ite2 (fun _ => ?_) (fun c => absurd (by decide) c)⟩
        clear nt
        generalize upd H2 t (.tup [.str "with", .str "where"]) = H3 at *
        refine ⟨fun σ H2 => ∃ (p' sp' rp' : Addr) (f' : Fo s) (S' : Sl) (B' L' : Nat) (v2 v3 v4 : Option V), σ = [some (.ref p'), some (.ref sp'), v2, v3, v4] ∧ FIn K H2 p' sp' rp' f' S' m B' L' ∧ m ≤ d + 1 ∧ ev f' S' = ev f S ∧ (rp' = rp ∨ H rp' = none) ∧ Same H H2, fun σ' H' h => ⟨m, Nat.lt_succ_self m, h⟩, ?_⟩
        obtain ⟨o1, o2⟩ := I'.ok
        obtain ⟨m1, m2⟩ := I'.mu
        have tp := SqT.keeps tp tt
        have gb := I'.b
        refine ⟨_, rfl, p', _, _, _, rfl, rfl, tp, atI_nat (j := 1) rfl, _, rfl, q1, sp', rp', .t, T0, S', B', L', rfl, ⟨tT.stay tt, o1.ups (by omega), I'.sl, I'.b, I'.sb, m1⟩, fun v H4 rv s4 => ?_⟩
        obtain ⟨sf, rf, rfl, slf, orf⟩ := rv
        have orf : rf = rp ∨ H rf = none := orf.elim (fun z => z ▸ orp) fun z => .inr (un0 s2 z)
        have t4 := TupsStay.same s4
        have tp4 := SqT.keeps tp t4
        refine ⟨_, rfl, p', _, _, _, rfl, rfl, tp4, atI_nat (j := 0) rfl, rfl, _, rfl, ite2 (fun _ => ?_) (fun c => absurd (by decide) c)⟩
        have sbT : SlB (bt T0 B') (ln T0 L') (ev T0 S') := ev_bd T0 o1 (by omega) I'.sb
        exact ⟨_, rfl, _, rfl, p', _, _, _, rfl, rfl, tp4, atI_nat (j := 2) rfl, q2, sf, rf, a, ev T0 S', bt T0 B', ln T0 L', _, _, _, rfl, ⟨(ta.stay tt).stay t4, o2, slf, by have := bt_ge T0 B'; omega, sbT, m2⟩, by omega, ee, orf, s2.trans s4⟩
      | fold n T0 g =>
        obtain ⟨q1, q2, q3, tp, tn, tT, tg⟩ := id I'.at_
        refine ⟨_, rfl, p', _, _, _, rfl, rfl, tp, atI_nat (j := 0) rfl, (by show 2 ≤ sizeLine; decide), fun t nt => ?_⟩
        have st := same_upd (o := .tup [.str "with", .str "where"]) nt
        have I' := I'.same st
        have s2 := s2.trans st
        have tt := TupsStay.same st
        refine ⟨t, _, rfl, .inr (SqT.of upd_same), rfl, rfl, _, rfl, ite2 (fun c => absurd c (by decide)) (fun _ => ?_)⟩
        clear nt
        generalize upd H2 t (.tup [.str "with", .str "where"]) = H3 at *
        refine ⟨_, rfl, p', _, _, _, rfl, rfl, SqT.keeps tp tt, atI_nat (j := 0) rfl, ?_⟩
        refine ⟨_, rfl, rfl, _, rfl, ite2 (fun c => ?_) (fun c => absurd (by decide) c)⟩
        exact ⟨_, rfl, _, rfl, p', sp', rp', n, T0, g, S', B', L', rfl, ⟨I'.at_, I'.ok.ups lm, I'.sl, I'.b, I'.sb, I'.mu⟩, fun v H4 rv s4 => q v H4 (by rw [← ee]; exact rv.to fun _ z => z.elim (fun z => z ▸ orp) fun z => .inr (un0 s2 z)) (s2.trans s4)⟩
end
/-! ### copies, values -/
section
variable {P : Program} {w : World} {K : PySem.W.Frag} {mg : Str → Option Value} {base : Heap}
theorem tyT {K : PySem.W.Frag} {H : Hp} {p : Addr} {xs : List V} (h : SqT K H p xs) : TyX K H (.ref p) (.type "tuple") := by
  rcases h with (h | ⟨o, h⟩) | ⟨o, _, _, h, c, _⟩
  · exact .base (.tup h)
  · exact .fTuple h
  · exact .kTuple h c
def spCop (K : PySem.W.Frag) : Nat → Sp
  | 0 => fun _ _ _ _ => False
  | d + 1 => fun vs H Q _ => (∃ k, vs = [.int k] ∧ Q (.int k) H) ∨
      (1 ≤ d ∧ ∃ (q : Addr) (l : List Int), vs = [.ref q] ∧ H q = some (.lst (l.map V.int)) ∧ l.length ≤ 100000 ∧ ∀ l' H', H' l' = some (.lst (l.map V.int)) → H l' = none → Same H H' → Q (.ref l') H') ∨
      (2 ≤ d ∧ ∃ (sp rp : Addr) (S : Sl), vs = [.ref sp] ∧ SlAt K H sp rp S ∧ S.r.length ≤ 100000 ∧ ∀ sq rq H', SlAt K H' sq rq S → H rq = none → Same H H' → Q (.ref sq) H') ∨
      (2 ≤ d ∧ ∃ (sp rp : Addr) (l : List Int), vs = [.ref sp] ∧ SqT K H sp [.ref rp] ∧ H rp = some (.lst (l.map V.int)) ∧ l.length ≤ 100000 ∧ ∀ sq rq H', SqT K H' sq [.ref rq] → H' rq = some (.lst (l.map V.int)) → H rq = none → Same H H' → Q (.ref sq) H')
theorem ok_copied {f : Addr} {fd : FuncData} (T : Txt K mg) (F : DefAt K mg "_copied" "_copied" s_copied ["thing"] f fd) : ∀ d, FnOk P w K mg base CX0 d f fd ["thing"] (spCop K d)
  | 0 => ⟨fun _ _ _ _ h => False.elim h, fun _ _ _ _ _ _ _ _ _ _ _ _ _ h => False.elim h⟩
  | d + 1 => by
    have G_copied := ok_copied T F d
    have D_copied := F
    refine F.F.ok sc_copied (fun vs H Q E h => ?_) (fun cdv A outer z H vs Q E hr h => ?_)
    · rcases h with ⟨k, rfl, _⟩ | ⟨_, q, l, rfl, _⟩ | ⟨_, sp, rp, S, rfl, _⟩ | ⟨_, sp, rp, l, rfl, _⟩ <;> rfl
    · refine ⟨_, (pss_cons (ps_if (pt_val (pe_callB call_isi (by rfl) T.m_isinstance (by decide +kernel) (pa_cons (pv 0) (pa_cons (pe_bltn (v := .ty "list") (by rfl) T.m_list (by decide +kernel) rfl) pa_nil)))) (pss_one (ps_ret (pe_lc (own := [("part", 1)]) (g := gName 1) (tt := tYes) rfl sc_copied.nd (pi_list (pv 0)) (blkOk_by (own := [("part", 1)]) (N := ["thing", "part"]) (sc := defScope s_copied) (by decide +kernel)) (fun _ _ _ _ _ => pg_name (i := 1) sc_copied.nd rfl (.inl rfl)) (fun _ _ _ _ _ => pts_nil) (fun _ _ _ _ _ => (pe_call G_copied (hr.mono (by omega)) (by rfl) D_copied.g D_copied.F.kp D_copied.b .nil pass0 (pa_cons (pv 1) pa_nil)))))) pss_nil)
      (pss_cons (ps_if (pt_val (pe_callB call_isi (by rfl) T.m_isinstance (by decide +kernel) (pa_cons (pv 0) (pa_cons (pe_bltn (v := .ty "tuple") (by rfl) T.m_tuple (by decide +kernel) rfl) pa_nil)))) (pss_one (ps_ret (pe_tupleOf (by rfl) T.m_tuple (pe_lc (own := [("part", 1)]) (g := gName 1) (tt := tYes) rfl sc_copied.nd (pi_tup (pv 0)) (blkOk_by (own := [("part", 1)]) (N := ["thing", "part"]) (sc := defScope s_copied) (by decide +kernel)) (fun _ _ _ _ _ => pg_name (i := 1) sc_copied.nd rfl (.inl rfl)) (fun _ _ _ _ _ => pts_nil) (fun _ _ _ _ _ => (pe_call G_copied (hr.mono (by omega)) (by rfl) D_copied.g D_copied.F.kp D_copied.b .nil pass0 (pa_cons (pv 1) pa_nil))))))) pss_nil)
      (pss_one (ps_ret (pv 0))))), ?_⟩
      rcases h with ⟨k, rfl, q⟩ | ⟨ld, q0, l, rfl, eq, ll, q⟩ | ⟨ld, sp, rp, S, rfl, sl, ll, q⟩ | ⟨ld, sp, rp, l, rfl, sq, er, ll, q⟩
      · refine ⟨_, rfl, _, _, _, _, false, rfl, .ty "list", .base (.int _), kit_ty (by decide +kernel), _, rfl, ite2 (fun c => absurd c (by decide)) (fun _ => ?_)⟩
        refine ⟨_, rfl, _, _, _, _, false, rfl, .ty "tuple", .base (.int _), kit_ty (by decide +kernel), _, rfl, ite2 (fun c => absurd c (by decide)) (fun _ => ?_)⟩
        exact ⟨_, rfl, q⟩
      · refine ⟨_, rfl, _, _, _, _, true, rfl, .ty "list", .base (.lst eq), kit_ty (by decide +kernel), _, rfl, ite2 (fun _ => ?_) (fun c => absurd (by decide) c)⟩
        refine ⟨_, rfl, q0, rfl, ⟨_, SqL.of eq⟩, fun D nD => lc_list (K := K) (a := q0) (xs := l.map V.int) (fun i Hx => Hx D = some (.lst ((l.take i).map V.int)) ∧ Same H Hx)
          ⟨by rw [List.take_zero]; exact upd_same, same_upd nD⟩ (fun i Hx _ ⟨_, u⟩ => SqL.of (u _ _ eq)) (fun i x Hx hx ⟨e1, u⟩ => ?_) (fun Hx ⟨e1, u⟩ => ?_)⟩
        · obtain ⟨k, hk, rfl⟩ : ∃ k, l[i]? = some k ∧ x = V.int k := by
            rw [List.getElem?_map] at hx
            cases e : l[i]? with
            | none =>
              rw [e] at hx
              cases hx
            | some y =>
              rw [e] at hx
              exact ⟨y, rfl, (Option.some.inj hx).symm⟩
          cases d with
          | zero => omega
          | succ d =>
          refine ⟨rfl, _, rfl, .inl ⟨k, rfl, _, e1, by rw [List.length_map, List.length_take, sizeLine_eq]; omega, ?_, fun b o e => ?_⟩⟩
          · rw [upd_same, List.take_add_one, hk, List.map_append]
            rfl
          · rw [upd_ne (ne_of_none e nD)]
            exact u _ _ e
        · rw [List.length_map, List.take_length] at e1
          exact q D Hx e1 nD u
      · have qs := sl.q
        refine ⟨_, rfl, _, _, _, _, false, rfl, .ty "list", tyT qs, kit_ty (by decide +kernel), _, rfl, ite2 (fun c => absurd c (by decide)) (fun _ => ?_)⟩
        refine ⟨_, rfl, _, _, _, _, true, rfl, .ty "tuple", tyT qs, kit_ty (by decide +kernel), _, rfl, ite2 (fun _ => ?_) (fun c => absurd (by decide) c)⟩
        refine ⟨_, rfl, sp, rfl, ⟨_, qs⟩, fun D nD => lc_tup (K := K) (a := sp) (xs := [V.int S.x, .int S.y, .int S.z, .ref rp]) (fun i Hx => ∃ acc : List V, Hx D = some (.lst acc) ∧ Same H Hx ∧ (i = 0 → acc = []) ∧ (i = 1 → acc = [.int S.x]) ∧ (i = 2 → acc = [.int S.x, .int S.y]) ∧ (i = 3 → acc = [.int S.x, .int S.y, .int S.z]) ∧ (i = 4 → ∃ rq : Addr, acc = [.int S.x, .int S.y, .int S.z, .ref rq] ∧ Hx rq = some (.lst (S.r.map V.int)) ∧ H rq = none))
          ⟨[], upd_same, same_upd nD, fun _ => rfl, fun z => by omega, fun z => by omega, fun z => by omega, fun z => by omega⟩ (fun i Hx _ ⟨_, _, u, _⟩ => SqT.keeps qs (TupsStay.same u)) (fun i x Hx hx ⟨acc, e1, u, a0, a1, a2, a3, _⟩ => ?_) (fun Hx ⟨acc, e1, u, _, _, _, _, a4⟩ => ?_)⟩
        · have nof : ∀ {Hy : Hp} {o : HO}, Same Hx Hy → Same H (upd Hy D o) := fun {Hy o} v b o' e' => by
            rw [upd_ne (ne_of_none e' nD)]
            exact v _ _ (u _ _ e')
          cases d with
          | zero => omega
          | succ d =>
          match i, hx with
          | 0, hx =>
            injection hx with hx
            subst hx
            exact ⟨rfl, _, rfl, .inl ⟨S.x, rfl, acc, e1, by rw [a0 rfl]; decide, _, upd_same, nof (fun _ _ e => e), fun z => by omega, fun _ => by rw [a0 rfl]; rfl, fun z => by omega, fun z => by omega, fun z => by omega⟩⟩
          | 1, hx =>
            injection hx with hx
            subst hx
            exact ⟨rfl, _, rfl, .inl ⟨S.y, rfl, acc, e1, by rw [a1 rfl]; show 1 < sizeLine; decide, _, upd_same, nof (fun _ _ e => e), fun z => by omega, fun z => by omega, fun _ => by rw [a1 rfl]; rfl, fun z => by omega, fun z => by omega⟩⟩
          | 2, hx =>
            injection hx with hx
            subst hx
            exact ⟨rfl, _, rfl, .inl ⟨S.z, rfl, acc, e1, by rw [a2 rfl]; show 2 < sizeLine; decide, _, upd_same, nof (fun _ _ e => e), fun z => by omega, fun z => by omega, fun z => by omega, fun _ => by rw [a2 rfl]; rfl, fun z => by omega⟩⟩
          | 3, hx =>
            injection hx with hx
            subst hx
            refine ⟨rfl, _, rfl, .inr (.inl ⟨by omega, rp, S.r, rfl, u _ _ sl.r, ll, fun l' H4 e4 n4 s4 => ?_⟩)⟩
            have nlD : l' ≠ D := fun z => by rw [z, e1] at n4; cases n4
            exact ⟨acc, s4 _ _ e1, by rw [a3 rfl]; show 3 < sizeLine; decide, _, upd_same, nof s4, fun z => by omega, fun z => by omega, fun z => by omega, fun z => by omega, fun _ => ⟨l', by rw [a3 rfl]; rfl, by rw [upd_ne nlD]; exact e4, un0 u n4⟩⟩
          | i + 4, hx => cases hx
        · obtain ⟨rq, a4, er, nrq⟩ := a4 rfl
          subst a4
          refine .inl ⟨D, _, rfl, SqL.of e1, fun qn nq => ?_⟩
          have su := same_upd (o := .tup [.int S.x, .int S.y, .int S.z, .ref rq]) nq
          exact q qn rq _ ⟨SqT.of upd_same, su _ _ er⟩ nrq (u.trans su)
      · refine ⟨_, rfl, _, _, _, _, false, rfl, .ty "list", tyT sq, kit_ty (by decide +kernel), _, rfl, ite2 (fun c => absurd c (by decide)) (fun _ => ?_)⟩
        refine ⟨_, rfl, _, _, _, _, true, rfl, .ty "tuple", tyT sq, kit_ty (by decide +kernel), _, rfl, ite2 (fun _ => ?_) (fun c => absurd (by decide) c)⟩
        refine ⟨_, rfl, sp, rfl, ⟨_, sq⟩, fun D nD => lc_tup (K := K) (a := sp) (xs := [V.ref rp]) (fun i Hx => ∃ acc : List V, Hx D = some (.lst acc) ∧ Same H Hx ∧ (i = 0 → acc = []) ∧ (i = 1 → ∃ rq : Addr, acc = [.ref rq] ∧ Hx rq = some (.lst (l.map V.int)) ∧ H rq = none))
          ⟨[], upd_same, same_upd nD, fun _ => rfl, fun z => by omega⟩ (fun i Hx _ ⟨_, _, u, _⟩ => SqT.keeps sq (TupsStay.same u)) (fun i x Hx hx ⟨acc, e1, u, a0, _⟩ => ?_) (fun Hx ⟨acc, e1, u, _, a4⟩ => ?_)⟩
        · have nof : ∀ {Hy : Hp} {o : HO}, Same Hx Hy → Same H (upd Hy D o) := fun {Hy o} v b o' e' => by
            rw [upd_ne (ne_of_none e' nD)]
            exact v _ _ (u _ _ e')
          cases d with
          | zero => omega
          | succ d =>
          match i, hx with
          | 0, hx =>
            injection hx with hx
            subst hx
            refine ⟨rfl, _, rfl, .inr (.inl ⟨by omega, rp, l, rfl, u _ _ er, ll, fun l' H4 e4 n4 s4 => ?_⟩)⟩
            have nlD : l' ≠ D := fun z => by rw [z, e1] at n4; cases n4
            exact ⟨acc, s4 _ _ e1, by rw [a0 rfl]; decide, _, upd_same, nof s4, fun z => by omega, fun _ => ⟨l', by rw [a0 rfl]; rfl, by rw [upd_ne nlD]; exact e4, un0 u n4⟩⟩
          | i + 1, hx => cases hx
        · obtain ⟨rq, a4, er2, nrq⟩ := a4 rfl
          subst a4
          refine .inl ⟨D, _, rfl, SqL.of e1, fun qn nq => ?_⟩
          have su := same_upd (o := .tup [.ref rq]) nq
          exact q qn rq _ (SqT.of upd_same) (su _ _ er2) nrq (u.trans su)
/-- the value of a fold: all of it is new -/
def spValue (K : PySem.W.Frag) : Sp := fun vs H Q _ => ∃ (p sp rp : Addr) (s : Srt) (f : Fo s) (S : Sl) (B L : Nat), vs = [.ref p, .ref sp] ∧ FIn K H p sp rp f S 6 B L ∧ ln f L ≤ 100000 ∧ ∀ v H', RelVal K H' (fun q => H q = none) s v (ev f S) → Same H H' → Q v H'
theorem ok_value {f : Addr} {fd : FuncData} (T : Txt K mg) (F : DefAt K mg "value" "value" s_value ["fold", "slots"] f fd) : FnOk P w K mg base CX0 16 f fd ["fold", "slots"] (spValue K) := by
  obtain ⟨f1, fd1, D_told⟩ := T.d_told
  obtain ⟨f2, fd2, D_number_told⟩ := T.d_number_told
  obtain ⟨f3, fd3, D_told_by_turns⟩ := T.d_told_by_turns
  obtain ⟨f4, fd4, D_copied⟩ := T.d_copied
  have G_told : FnOk P w K mg base CX0 15 f1 fd1 ["fold", "slots"] (spTold K 7) := ok_told T D_told D_number_told D_told_by_turns 7
  have G_copied : FnOk P w K mg base CX0 3 f4 fd4 ["thing"] (spCop K 3) := ok_copied T D_copied 3
  refine F.F.ok sc_value (fun vs H Q E h => ?_) (fun cdv A outer z H vs Q E hr h => ?_)
  · obtain ⟨p, sp, rp, s, f, S, B, L, rfl, _⟩ := h
    rfl
  · obtain ⟨p, sp, rp, s, f, S, B, L, rfl, I, lf, q⟩ := h
    refine ⟨_, (pss_one (ps_ret (pe_call G_copied (hr.mono (by decide)) (by rfl) D_copied.g D_copied.F.kp D_copied.b .nil pass0 (pa_cons (pe_call G_told (hr.mono (by decide)) (by rfl) D_told.g D_told.F.kp D_told.b .nil pass0 (pa_cons (pv 0) (pa_cons (pv 1) pa_nil))) pa_nil)))), ?_⟩
    have gb := I.b
    refine ⟨_, rfl, _, rfl, p, sp, rp, s, f, S, B, L, rfl, I, fun v H1 rv s1 => ?_⟩
    have bd := ev_bd f I.ok (by omega) I.sb
    cases s with
    | n =>
      have rv : v = .int (evI f S) := rv
      subst rv
      exact .inl ⟨_, rfl, q _ H1 rfl s1⟩
    | r =>
      obtain ⟨q0, rfl, e0, _⟩ := rv
      exact .inr (.inl ⟨by decide, q0, ev f S, rfl, e0, Nat.le_trans bd lf, fun l' H2 e2 n2 s2 => q _ H2 ⟨l', rfl, e2, un0 s1 n2⟩ (s1.trans s2)⟩)
    | t =>
      obtain ⟨sf, rf, rfl, sl, _⟩ := rv
      exact .inr (.inr (.inl ⟨by decide, sf, rf, ev f S, rfl, sl, Nat.le_trans bd.r lf, fun sq rq H2 e2 n2 s2 => q _ H2 ⟨sq, rq, rfl, e2, un0 s1 n2⟩ (s1.trans s2)⟩))
    | o =>
      obtain ⟨sf, rf, rfl, e1, e2, _⟩ := rv
      exact .inr (.inr (.inr ⟨by decide, sf, rf, ev f S, rfl, e1, e2, Nat.le_trans bd lf, fun sq rq H2 e3 e4 n2 s2 => q _ H2 ⟨sq, rq, rfl, e3, e4, un0 s1 n2⟩ (s1.trans s2)⟩))
end
/-! ### the same, told here -/
section
variable {P : Program} {w : World} {K : PySem.W.Frag} {mg : Str → Option Value} {base : Heap}
theorem ok_law_come_to {f : Addr} {fd : FuncData} (T : Txt K mg) (F : DefAt K mg "_law_come_to" "_law_come_to" s_law_come_to ["_law_fold", "_law_slots"] f fd) : ∀ d, FnOk P w K mg base CX0 d f fd ["_law_fold", "_law_slots"] (spTold K d)
  | 0 => ⟨fun _ _ _ _ h => False.elim h, fun _ _ _ _ _ _ _ _ _ _ _ _ _ h => False.elim h⟩
  | d + 1 => by
    have G_law_come_to := ok_law_come_to T F d
    have D_law_come_to := F
    refine F.F.ok sc_law_come_to (fun vs H Q E h => ?_) (fun cdv A outer z H vs Q E hr h => ?_)
    · obtain ⟨p, sp, rp, s, f, S, B, L, rfl, _⟩ := h
      rfl
    · obtain ⟨p, sp, rp, s, f, S, B, L, rfl, I, q⟩ := h
      refine ⟨_, (pss_cons (ps_set (i := 2) sc_law_come_to.nd rfl (.inl rfl) (pe_ix ix_tup (pv 0) pe_int (fun _ _ => rfl)))
      (pss_cons (ps_if (pt_cmpR op_eq (pv 2) pe_str (nomark _)) (pss_one (ps_ret (pe_tupleOf (by rfl) T.m_tuple (pe_lc (own := [("_law_part", 6)]) (g := gName 6) (tt := tYes) rfl sc_law_come_to.nd (pi_tup (pe_ix ix_tup (pv 0) pe_int (fun _ _ => rfl))) (blkOk_by (own := [("_law_part", 6)]) (N := ["_law_fold", "_law_slots", "_law_word", "_law_one", "_law_other", "_law_turn", "_law_part"]) (sc := defScope s_law_come_to) (by decide +kernel)) (fun _ _ _ _ _ => pg_name (i := 6) sc_law_come_to.nd rfl (.inl rfl)) (fun _ _ _ _ _ => pts_nil) (fun _ _ _ _ _ => (pe_call G_law_come_to (hr.mono (by omega)) (by rfl) D_law_come_to.g D_law_come_to.F.kp D_law_come_to.b .nil pass0 (pa_cons (pv 6) (pa_cons (pv 1) pa_nil)))))))) pss_nil)
      (pss_cons (ps_if (pt_cmpR op_in_seq (pv 2) (pe_tup (pa_cons pe_str (pa_cons pe_str pa_nil))) (by rfl)) (pss_one (ps_ret (pe_ifExp (pt_cmpR op_eq (pv 2) pe_str (nomark _)) (pe_ix ix_tup (pv 0) pe_int (fun _ _ => rfl)) (pe_ix ix_tup (pv 1) (pe_ix ix_tup (pv 0) pe_int (fun _ _ => rfl)) (fun _ _ => rfl))))) pss_nil)
      (pss_cons (ps_if (pt_cmpR op_eq (pv 2) pe_str (nomark _)) (pss_one (ps_ret (pe_lst pa_nil))) pss_nil)
      (pss_cons (ps_set (i := 3) sc_law_come_to.nd rfl (.inl rfl) (pe_call G_law_come_to (hr.mono (by omega)) (by rfl) D_law_come_to.g D_law_come_to.F.kp D_law_come_to.b .nil pass0 (pa_cons (pe_ix ix_tup (pv 0) pe_int (fun _ _ => rfl)) (pa_cons (pv 1) pa_nil))))
      (pss_cons (ps_if (pt_cmpR op_eq (pv 2) pe_str (nomark _)) (pss_one (ps_ret (pe_ifExp (pt_cmpR op_gt (pv 3) pe_int (nomark _)) (pe_op op_sub (pv 3) pe_int) pe_int))) pss_nil)
      (pss_cons (ps_if (pt_cmpR op_eq (pv 2) pe_str (nomark _)) (pss_one (ps_ret (pe_call G_law_come_to (hr.mono (by omega)) (by rfl) D_law_come_to.g D_law_come_to.F.kp D_law_come_to.b .nil pass0 (pa_cons (pe_ix ix_tup (pv 0) (pe_op op_sub pe_int (pe_callTy call_int1 (by rfl) T.m_int (by decide +kernel) (pa_cons (pe_cmpR op_ne (pv 3) pe_int (nomark _)) pa_nil))) (fun _ _ => rfl)) (pa_cons (pv 1) pa_nil))))) pss_nil)
      (pss_cons (ps_if (pt_cmpR op_eq (pv 2) pe_str (nomark _)) (pss_one (ps_ret (pe_call G_law_come_to (hr.mono (by omega)) (by rfl) D_law_come_to.g D_law_come_to.F.kp D_law_come_to.b .nil pass0 (pa_cons (pe_ix ix_tup (pv 0) pe_int (fun _ _ => rfl)) (pa_cons (pv 3) pa_nil))))) pss_nil)
      (pss_cons (ps_set (i := 4) sc_law_come_to.nd rfl (.inl rfl) (pe_call G_law_come_to (hr.mono (by omega)) (by rfl) D_law_come_to.g D_law_come_to.F.kp D_law_come_to.b .nil pass0 (pa_cons (pe_ix ix_tup (pv 0) pe_int (fun _ _ => rfl)) (pa_cons (pv 1) pa_nil))))
      (pss_cons (ps_if (pt_cmpR op_eq (pv 2) pe_str (nomark _)) (pss_cons (ps_for PassesOwn.never rfl (pi_range1 rfl T.m_range (pa_cons (pv 3) pa_nil)) (pg_name (i := 5) sc_law_come_to.nd rfl (.inl rfl)) (pss_one (ps_set (i := 4) sc_law_come_to.nd rfl (.inl rfl) (pe_call G_law_come_to (hr.mono (by omega)) (by rfl) D_law_come_to.g D_law_come_to.F.kp D_law_come_to.b .nil pass0 (pa_cons (pe_ix ix_tup (pv 0) pe_int (fun _ _ => rfl)) (pa_cons (pv 4) pa_nil)))))) (pss_one (ps_ret (pv 4)))) pss_nil)
      (pss_cons (ps_if (pt_cmpR op_eq (pv 2) pe_str (nomark _)) (pss_one (ps_ret (pe_op op_cat (pe_callTy call_list_of (by rfl) T.m_list (by decide +kernel) (pa_cons (pv 3) pa_nil)) (pe_lst (pa_cons (pv 4) pa_nil))))) pss_nil)
      (pss_one (ps_ret (pe_ifExp (pt_cmpR op_eq (pv 2) pe_str (nomark _)) (pe_op op_add (pv 3) (pv 4)) (pe_op op_mulW (pv 3) (pv 4)))))))))))))))), ?_⟩
      cases f with
      | num k =>
        refine ⟨_, rfl, p, _, _, _, rfl, rfl, I.at_, atI_nat (j := 0) rfl, ?_⟩
        refine ⟨_, rfl, rfl, _, rfl, ite2 (fun c => absurd c (by decide)) (fun c => ?_)⟩
        refine ⟨_, rfl, (by show 2 ≤ sizeLine; decide), fun t nt => ?_⟩
        have st := same_upd (o := .tup [.str "num", .str "slot"]) nt
        have I := I.same st
        have tt := TupsStay.same st
        refine ⟨t, _, rfl, .inr (SqT.of upd_same), rfl, rfl, _, rfl, ite2 (fun _ => ?_) (fun c => absurd (by decide) c)⟩
        clear nt
        generalize upd H t (.tup [.str "num", .str "slot"]) = H3 at *
        refine ⟨_, rfl, rfl, _, rfl, ite2 (fun c => ?_) (fun c => absurd (by decide) c)⟩
        exact ⟨_, rfl, p, _, _, _, rfl, rfl, I.at_, atI_nat (j := 1) rfl, q _ H3 rfl st⟩
      | slot k =>
        have ok := I.ok
        have hk : k < 3 := by cases d <;> exact ok
        refine ⟨_, rfl, p, _, _, _, rfl, rfl, I.at_, atI_nat (j := 0) rfl, ?_⟩
        refine ⟨_, rfl, rfl, _, rfl, ite2 (fun c => absurd c (by decide)) (fun c => ?_)⟩
        refine ⟨_, rfl, (by show 2 ≤ sizeLine; decide), fun t nt => ?_⟩
        have st := same_upd (o := .tup [.str "num", .str "slot"]) nt
        have I := I.same st
        have tt := TupsStay.same st
        refine ⟨t, _, rfl, .inr (SqT.of upd_same), rfl, rfl, _, rfl, ite2 (fun _ => ?_) (fun c => absurd (by decide) c)⟩
        clear nt
        generalize upd H t (.tup [.str "num", .str "slot"]) = H3 at *
        refine ⟨_, rfl, rfl, _, rfl, ite2 (fun c => absurd c (by decide)) (fun c => ?_)⟩
        have e3 : k = 0 ∨ k = 1 ∨ k = 2 := by omega
        have slq := I.sl.q
        rcases e3 with z | z | z <;> subst z
        · exact ⟨_, rfl, _, rfl, p, _, _, _, rfl, rfl, I.at_, atI_nat (j := 1) rfl, sp, _, _, _, rfl, rfl, slq, atI_nat (j := 0) rfl, q _ H3 rfl st⟩
        · exact ⟨_, rfl, _, rfl, p, _, _, _, rfl, rfl, I.at_, atI_nat (j := 1) rfl, sp, _, _, _, rfl, rfl, slq, atI_nat (j := 1) rfl, q _ H3 rfl st⟩
        · exact ⟨_, rfl, _, rfl, p, _, _, _, rfl, rfl, I.at_, atI_nat (j := 1) rfl, sp, _, _, _, rfl, rfl, slq, atI_nat (j := 2) rfl, q _ H3 rfl st⟩
      | none =>
        refine ⟨_, rfl, p, _, _, _, rfl, rfl, I.at_, atI_nat (j := 0) rfl, ?_⟩
        refine ⟨_, rfl, rfl, _, rfl, ite2 (fun c => absurd c (by decide)) (fun c => ?_)⟩
        refine ⟨_, rfl, (by show 2 ≤ sizeLine; decide), fun t nt => ?_⟩
        have st := same_upd (o := .tup [.str "num", .str "slot"]) nt
        have I := I.same st
        have tt := TupsStay.same st
        refine ⟨t, _, rfl, .inr (SqT.of upd_same), rfl, rfl, _, rfl, ite2 (fun c => absurd c (by decide)) (fun _ => ?_)⟩
        clear nt
        generalize upd H t (.tup [.str "num", .str "slot"]) = H3 at *
        refine ⟨_, rfl, rfl, _, rfl, ite2 (fun c => ?_) (fun c => absurd (by decide) c)⟩
        exact ⟨(by show 0 ≤ sizeLine; decide), fun l nl => q _ _ ⟨l, rfl, upd_same, .inr (un0 st nl)⟩ (st.trans (same_upd nl))⟩
      | slot3 =>
        refine ⟨_, rfl, p, _, _, _, rfl, rfl, I.at_, atI_nat (j := 0) rfl, ?_⟩
        refine ⟨_, rfl, rfl, _, rfl, ite2 (fun c => absurd c (by decide)) (fun c => ?_)⟩
        refine ⟨_, rfl, (by show 2 ≤ sizeLine; decide), fun t nt => ?_⟩
        have st := same_upd (o := .tup [.str "num", .str "slot"]) nt
        have I := I.same st
        have tt := TupsStay.same st
        refine ⟨t, _, rfl, .inr (SqT.of upd_same), rfl, rfl, _, rfl, ite2 (fun _ => ?_) (fun c => absurd (by decide) c)⟩
        clear nt
        generalize upd H t (.tup [.str "num", .str "slot"]) = H3 at *
        refine ⟨_, rfl, rfl, _, rfl, ite2 (fun c => absurd c (by decide)) (fun c => ?_)⟩
        exact ⟨_, rfl, _, rfl, p, _, _, _, rfl, rfl, I.at_, atI_nat (j := 1) rfl, sp, _, _, _, rfl, rfl, I.sl.q, atI_nat (j := 3) rfl, q _ H3 ⟨rp, rfl, I.sl.r, .inl rfl⟩ st⟩
      | less a =>
        cases d with
        | zero => exact False.elim I.ok
        | succ d =>
        obtain ⟨pa, tp, ta⟩ := id I.at_
        refine ⟨_, rfl, p, _, _, _, rfl, rfl, tp, atI_nat (j := 0) rfl, ?_⟩
        refine ⟨_, rfl, rfl, _, rfl, ite2 (fun c => absurd c (by decide)) (fun c => ?_)⟩
        refine ⟨_, rfl, (by show 2 ≤ sizeLine; decide), fun t nt => ?_⟩
        have st := same_upd (o := .tup [.str "num", .str "slot"]) nt
        have I := I.same st
        have tt := TupsStay.same st
        refine ⟨t, _, rfl, .inr (SqT.of upd_same), rfl, rfl, _, rfl, ite2 (fun c => absurd c (by decide)) (fun _ => ?_)⟩
        clear nt
        generalize upd H t (.tup [.str "num", .str "slot"]) = H3 at *
        refine ⟨_, rfl, rfl, _, rfl, ite2 (fun c => absurd c (by decide)) (fun c => ?_)⟩
        have tp := SqT.keeps tp tt
        refine ⟨_, rfl, p, _, _, _, rfl, rfl, tp, atI_nat (j := 1) rfl, _, rfl, pa, sp, rp, .n, a, S, B, L, rfl, ⟨ta.stay tt, I.ok, I.sl, I.b, I.sb, I.mu⟩, fun v H4 rv s4 => ?_⟩
        have rv : v = .int (evI a S) := rv
        subst rv
        have t4 := TupsStay.same s4
        refine ⟨_, rfl, rfl, _, rfl, ite2 (fun c => ?_) (fun c => absurd (by decide) c)⟩
        refine ⟨_, rfl, _, _, rfl, rfl, ?_⟩
        have e : evI (.less a) S = if evI a S > 0 then evI a S - 1 else 0 := rfl
        refine ⟨_, rfl, ite2 (fun c2 => ?_) (fun c2 => ?_)⟩
        · have c2 := of_decide_eq_true c2
          refine ⟨_, rfl, _, _, rfl, rfl, q _ H4 ?_ (st.trans s4)⟩
          show V.int (evI a S - 1) = V.int (evI (.less a) S)
          rw [e, if_pos c2]
        · have c2 : ¬ evI a S > 0 := fun k => c2 (decide_eq_true k)
          refine q _ H4 ?_ (st.trans s4)
          show V.int 0 = V.int (evI (.less a) S)
          rw [e, if_neg c2]
      | add a b =>
        cases d with
        | zero => exact False.elim I.ok
        | succ d =>
        obtain ⟨pa, pb, tp, ta, tb⟩ := id I.at_
        have hm := I.mu
        have ho := I.ok
        refine ⟨_, rfl, p, _, _, _, rfl, rfl, tp, atI_nat (j := 0) rfl, ?_⟩
        refine ⟨_, rfl, rfl, _, rfl, ite2 (fun c => absurd c (by decide)) (fun c => ?_)⟩
        refine ⟨_, rfl, (by show 2 ≤ sizeLine; decide), fun t nt => ?_⟩
        have st := same_upd (o := .tup [.str "num", .str "slot"]) nt
        have I := I.same st
        have tt := TupsStay.same st
        refine ⟨t, _, rfl, .inr (SqT.of upd_same), rfl, rfl, _, rfl, ite2 (fun c => absurd c (by decide)) (fun _ => ?_)⟩
        clear nt
        generalize upd H t (.tup [.str "num", .str "slot"]) = H3 at *
        refine ⟨_, rfl, rfl, _, rfl, ite2 (fun c => absurd c (by decide)) (fun c => ?_)⟩
        have tp := SqT.keeps tp tt
        refine ⟨_, rfl, p, _, _, _, rfl, rfl, tp, atI_nat (j := 1) rfl, _, rfl, pa, sp, rp, .n, a, S, B, L, rfl, ⟨ta.stay tt, ho.1, I.sl, I.b, I.sb, hm.1⟩, fun v H4 rv s4 => ?_⟩
        have rv : v = .int (evI a S) := rv
        subst rv
        have t4 := TupsStay.same s4
        refine ⟨_, rfl, rfl, _, rfl, ite2 (fun c => absurd c (by decide)) (fun c => ?_)⟩
        refine ⟨_, rfl, rfl, _, rfl, ite2 (fun c => absurd c (by decide)) (fun c => ?_)⟩
        refine ⟨_, rfl, rfl, _, rfl, ite2 (fun c => absurd c (by decide)) (fun c => ?_)⟩
        have tp4 := SqT.keeps tp t4
        refine ⟨_, rfl, p, _, _, _, rfl, rfl, tp4, atI_nat (j := 2) rfl, _, rfl, pb, sp, rp, .n, b, S, B, L, rfl, ⟨(tb.stay tt).stay t4, ho.2, I.sl.same s4, I.b, I.sb, hm.2⟩, fun v2 H5 rv2 s5 => ?_⟩
        have rv2 : v2 = .int (evI b S) := rv2
        subst rv2
        refine ⟨_, rfl, rfl, _, rfl, ite2 (fun c => absurd c (by decide)) (fun c => ?_)⟩
        refine ⟨_, rfl, rfl, _, rfl, ite2 (fun c => absurd c (by decide)) (fun c => ?_)⟩
        refine ⟨_, rfl, rfl, _, rfl, ite2 (fun c => ?_) (fun c => absurd (by decide) c)⟩
        exact ⟨_, rfl, _, rfl, _, _, rfl, rfl, q _ H5 rfl (st.trans (s4.trans s5))⟩
      | mul a b =>
        cases d with
        | zero => exact False.elim I.ok
        | succ d =>
        obtain ⟨pa, pb, tp, ta, tb⟩ := id I.at_
        have hm := I.mu
        have ho := I.ok
        refine ⟨_, rfl, p, _, _, _, rfl, rfl, tp, atI_nat (j := 0) rfl, ?_⟩
        refine ⟨_, rfl, rfl, _, rfl, ite2 (fun c => absurd c (by decide)) (fun c => ?_)⟩
        refine ⟨_, rfl, (by show 2 ≤ sizeLine; decide), fun t nt => ?_⟩
        have st := same_upd (o := .tup [.str "num", .str "slot"]) nt
        have I := I.same st
        have tt := TupsStay.same st
        refine ⟨t, _, rfl, .inr (SqT.of upd_same), rfl, rfl, _, rfl, ite2 (fun c => absurd c (by decide)) (fun _ => ?_)⟩
        clear nt
        generalize upd H t (.tup [.str "num", .str "slot"]) = H3 at *
        refine ⟨_, rfl, rfl, _, rfl, ite2 (fun c => absurd c (by decide)) (fun c => ?_)⟩
        have tp := SqT.keeps tp tt
        refine ⟨_, rfl, p, _, _, _, rfl, rfl, tp, atI_nat (j := 1) rfl, _, rfl, pa, sp, rp, .n, a, S, B, L, rfl, ⟨ta.stay tt, ho.1, I.sl, I.b, I.sb, hm.1⟩, fun v H4 rv s4 => ?_⟩
        have rv : v = .int (evI a S) := rv
        subst rv
        have t4 := TupsStay.same s4
        refine ⟨_, rfl, rfl, _, rfl, ite2 (fun c => absurd c (by decide)) (fun c => ?_)⟩
        refine ⟨_, rfl, rfl, _, rfl, ite2 (fun c => absurd c (by decide)) (fun c => ?_)⟩
        refine ⟨_, rfl, rfl, _, rfl, ite2 (fun c => absurd c (by decide)) (fun c => ?_)⟩
        have tp4 := SqT.keeps tp t4
        refine ⟨_, rfl, p, _, _, _, rfl, rfl, tp4, atI_nat (j := 2) rfl, _, rfl, pb, sp, rp, .n, b, S, B, L, rfl, ⟨(tb.stay tt).stay t4, ho.2, I.sl.same s4, I.b, I.sb, hm.2.1⟩, fun v2 H5 rv2 s5 => ?_⟩
        have rv2 : v2 = .int (evI b S) := rv2
        subst rv2
        refine ⟨_, rfl, rfl, _, rfl, ite2 (fun c => absurd c (by decide)) (fun c => ?_)⟩
        refine ⟨_, rfl, rfl, _, rfl, ite2 (fun c => absurd c (by decide)) (fun c => ?_)⟩
        refine ⟨_, rfl, rfl, _, rfl, ite2 (fun c => absurd c (by decide)) (fun c => ?_)⟩
        have b1 : 0 ≤ evI a S ∧ evI a S < 2 ^ bt a B := ev_bd a ho.1 (by have := I.b; omega) I.sb
        have b2 : 0 ≤ evI b S ∧ evI b S < 2 ^ bt b B := ev_bd b ho.2 (by have := I.b; omega) I.sb
        have g1 := bt_ge a B
        have g2 := bt_ge b B
        have gb := I.b
        exact ⟨_, rfl, _, rfl, _, _, rfl, rfl, mulOk (nat_bits b1) (nat_bits b2) (by omega) (by omega) hm.2.2, q _ H5 rfl (st.trans (s4.trans s5))⟩
      | more a b =>
        cases d with
        | zero => exact False.elim I.ok
        | succ d =>
        obtain ⟨pa, pb, tp, ta, tb⟩ := id I.at_
        have hm := I.mu
        have ho := I.ok
        have gb := I.b
        have lr : (ev a S).length ≤ ln a L := ev_bd a ho.1 (by omega) I.sb
        refine ⟨_, rfl, p, _, _, _, rfl, rfl, tp, atI_nat (j := 0) rfl, ?_⟩
        refine ⟨_, rfl, rfl, _, rfl, ite2 (fun c => absurd c (by decide)) (fun c => ?_)⟩
        refine ⟨_, rfl, (by show 2 ≤ sizeLine; decide), fun t nt => ?_⟩
        have st := same_upd (o := .tup [.str "num", .str "slot"]) nt
        have I := I.same st
        have tt := TupsStay.same st
        refine ⟨t, _, rfl, .inr (SqT.of upd_same), rfl, rfl, _, rfl, ite2 (fun c => absurd c (by decide)) (fun _ => ?_)⟩
        clear nt
        generalize upd H t (.tup [.str "num", .str "slot"]) = H3 at *
        refine ⟨_, rfl, rfl, _, rfl, ite2 (fun c => absurd c (by decide)) (fun c => ?_)⟩
        have tp := SqT.keeps tp tt
        refine ⟨_, rfl, p, _, _, _, rfl, rfl, tp, atI_nat (j := 1) rfl, _, rfl, pa, sp, rp, .r, a, S, B, L, rfl, ⟨ta.stay tt, ho.1, I.sl, I.b, I.sb, hm.1⟩, fun v H4 rv s4 => ?_⟩
        obtain ⟨qa, rfl, ea, _⟩ := rv
        have t4 := TupsStay.same s4
        refine ⟨_, rfl, rfl, _, rfl, ite2 (fun c => absurd c (by decide)) (fun c => ?_)⟩
        refine ⟨_, rfl, rfl, _, rfl, ite2 (fun c => absurd c (by decide)) (fun c => ?_)⟩
        refine ⟨_, rfl, rfl, _, rfl, ite2 (fun c => absurd c (by decide)) (fun c => ?_)⟩
        have tp4 := SqT.keeps tp t4
        refine ⟨_, rfl, p, _, _, _, rfl, rfl, tp4, atI_nat (j := 2) rfl, _, rfl, pb, sp, rp, .n, b, S, B, L, rfl, ⟨(tb.stay tt).stay t4, ho.2, I.sl.same s4, I.b, I.sb, hm.2.1⟩, fun v2 H5 rv2 s5 => ?_⟩
        have rv2 : v2 = .int (evI b S) := rv2
        subst rv2
        have hm3 : ln a L + 1 ≤ 100000 := hm.2.2
        refine ⟨_, rfl, rfl, _, rfl, ite2 (fun c => absurd c (by decide)) (fun c => ?_)⟩
        refine ⟨_, rfl, rfl, _, rfl, ite2 (fun c => ?_) (fun c => absurd (by decide) c)⟩
        refine ⟨_, rfl, qa, _, rfl, .inl (SqL.of (s5 _ _ ea)), fun la nla => ⟨_, rfl, (by show 1 ≤ sizeLine; decide), fun l nl => ?_⟩⟩
        have s5a := same_upd (o := .lst ((ev a S).map V.int)) nla
        have s6 := same_upd (o := .lst [.int (evI b S)]) nl
        refine ⟨la, l, _, _, rfl, rfl, s6 _ _ upd_same, upd_same, by rw [List.length_map, sizeLine_eq, List.length_singleton]; omega, fun pn npn => ?_⟩
        have sall := st.trans (s4.trans (s5.trans (s5a.trans s6)))
        refine q _ _ ⟨pn, rfl, ?_, .inr (un0 sall npn)⟩ (sall.trans (same_upd npn))
        rw [upd_same]
        show some (HO.lst ((ev a S).map V.int ++ [.int (evI b S)])) = some (HO.lst ((ev a S ++ [ev b S]).map V.int))
        rw [List.map_append]
        rfl
      | tup a b c3 e =>
        cases d with
        | zero => exact False.elim I.ok
        | succ d =>
        obtain ⟨t0, q1, q2, q3, q4, tp, ts, f1', f2', f3', f4'⟩ := id I.at_
        obtain ⟨o1, o2, o3, o4⟩ := I.ok
        obtain ⟨m1, m2, m3, m4⟩ := I.mu
        refine ⟨_, rfl, p, _, _, _, rfl, rfl, tp, atI_nat (j := 0) rfl, ?_⟩
        refine ⟨_, rfl, rfl, _, rfl, ite2 (fun c => ?_) (fun c => absurd (by decide) c)⟩
        refine ⟨_, rfl, p, _, _, _, rfl, rfl, tp, atI_nat (j := 1) rfl, t0, rfl, ⟨_, ts⟩, fun D nD => lc_tup (K := K) (a := t0) (xs := [V.ref q1, .ref q2, .ref q3, .ref q4]) (fun i Hx => ∃ acc : List V, Hx D = some (.lst acc) ∧ Same H Hx ∧ (i = 0 → acc = []) ∧ (i = 1 → acc = [.int (evI a S)]) ∧ (i = 2 → acc = [.int (evI a S), .int (evI b S)]) ∧ (i = 3 → acc = [.int (evI a S), .int (evI b S), .int (evI c3 S)]) ∧ (i = 4 → ∃ rq : Addr, acc = [.int (evI a S), .int (evI b S), .int (evI c3 S), .ref rq] ∧ Hx rq = some (.lst ((ev e S).map V.int)) ∧ (rq = rp ∨ H rq = none)))
          ⟨[], upd_same, same_upd nD, fun _ => rfl, fun z => by omega, fun z => by omega, fun z => by omega, fun z => by omega⟩ (fun i Hx _ ⟨_, _, u, _⟩ => SqT.keeps ts (TupsStay.same u)) (fun i x Hx hx ⟨acc, e1, u, a0, a1, a2, a3, _⟩ => ?_) (fun Hx ⟨acc, e1, u, _, _, _, _, a4⟩ => ?_)⟩
        · have tu := TupsStay.same u
          have nof : ∀ {Hy : Hp} {o : HO}, Same Hx Hy → Same H (upd Hy D o) := fun {Hy o} v b o' e' => by
            rw [upd_ne (ne_of_none e' nD)]
            exact v _ _ (u _ _ e')
          match i, hx with
          | 0, hx =>
            injection hx with hx
            subst hx
            refine ⟨rfl, _, rfl, _, rfl, q1, sp, rp, .n, a, S, B, L, rfl, ⟨f1'.stay tu, o1, I.sl.same u, I.b, I.sb, m1⟩, fun v H4 rv s4 => ?_⟩
            have rv : v = .int (evI a S) := rv
            subst rv
            exact ⟨acc, s4 _ _ e1, by rw [a0 rfl]; decide, _, upd_same, nof s4, fun z => by omega, fun _ => by rw [a0 rfl]; rfl, fun z => by omega, fun z => by omega, fun z => by omega⟩
          | 1, hx =>
            injection hx with hx
            subst hx
            refine ⟨rfl, _, rfl, _, rfl, q2, sp, rp, .n, b, S, B, L, rfl, ⟨f2'.stay tu, o2, I.sl.same u, I.b, I.sb, m2⟩, fun v H4 rv s4 => ?_⟩
            have rv : v = .int (evI b S) := rv
            subst rv
            exact ⟨acc, s4 _ _ e1, by rw [a1 rfl]; show 1 < sizeLine; decide, _, upd_same, nof s4, fun z => by omega, fun z => by omega, fun _ => by rw [a1 rfl]; rfl, fun z => by omega, fun z => by omega⟩
          | 2, hx =>
            injection hx with hx
            subst hx
            refine ⟨rfl, _, rfl, _, rfl, q3, sp, rp, .n, c3, S, B, L, rfl, ⟨f3'.stay tu, o3, I.sl.same u, I.b, I.sb, m3⟩, fun v H4 rv s4 => ?_⟩
            have rv : v = .int (evI c3 S) := rv
            subst rv
            exact ⟨acc, s4 _ _ e1, by rw [a2 rfl]; show 2 < sizeLine; decide, _, upd_same, nof s4, fun z => by omega, fun z => by omega, fun z => by omega, fun _ => by rw [a2 rfl]; rfl, fun z => by omega⟩
          | 3, hx =>
            injection hx with hx
            subst hx
            refine ⟨rfl, _, rfl, _, rfl, q4, sp, rp, .r, e, S, B, L, rfl, ⟨f4'.stay tu, o4, I.sl.same u, I.b, I.sb, m4⟩, fun v H4 rv s4 => ?_⟩
            obtain ⟨rq, rfl, er, orq⟩ := rv
            have nrD : rq ≠ D := orq.elim (fun z => z ▸ ne_of_none I.sl.r nD) fun z k => by rw [k, e1] at z; cases z
            have orq2 : rq = rp ∨ H rq = none := orq.elim (fun z => .inl z) fun z => .inr (un0 u z)
            exact ⟨acc, s4 _ _ e1, by rw [a3 rfl]; show 3 < sizeLine; decide, _, upd_same, nof s4, fun z => by omega, fun z => by omega, fun z => by omega, fun z => by omega, fun _ => ⟨rq, by rw [a3 rfl]; rfl, by rw [upd_ne nrD]; exact er, orq2⟩⟩
          | i + 4, hx => cases hx
        · obtain ⟨rq, a4, er, orq⟩ := a4 rfl
          subst a4
          refine .inl ⟨D, _, rfl, SqL.of e1, fun qn nq => ?_⟩
          have su := same_upd (o := .tup [.int (evI a S), .int (evI b S), .int (evI c3 S), .ref rq]) nq
          exact q _ _ ⟨qn, rq, rfl, ⟨SqT.of upd_same, su _ _ er⟩, orq⟩ (u.trans su)
      | one =>
        cases d with
        | zero => exact False.elim I.ok
        | succ d =>
        obtain ⟨t0, q1, tp, ts, f1'⟩ := id I.at_
        have f1' : FoAt K H q1 .slot3 := f1'
        refine ⟨_, rfl, p, _, _, _, rfl, rfl, tp, atI_nat (j := 0) rfl, ?_⟩
        refine ⟨_, rfl, rfl, _, rfl, ite2 (fun c => ?_) (fun c => absurd (by decide) c)⟩
        refine ⟨_, rfl, p, _, _, _, rfl, rfl, tp, atI_nat (j := 1) rfl, t0, rfl, ⟨_, ts⟩, fun D nD => lc_tup (K := K) (a := t0) (xs := [V.ref q1]) (fun i Hx => ∃ acc : List V, Hx D = some (.lst acc) ∧ Same H Hx ∧ (i = 0 → acc = []) ∧ (i = 1 → ∃ rq : Addr, acc = [.ref rq] ∧ Hx rq = some (.lst (S.r.map V.int)) ∧ (rq = rp ∨ H rq = none)))
          ⟨[], upd_same, same_upd nD, fun _ => rfl, fun z => by omega⟩ (fun i Hx _ ⟨_, _, u, _⟩ => SqT.keeps ts (TupsStay.same u)) (fun i x Hx hx ⟨acc, e1, u, a0, _⟩ => ?_) (fun Hx ⟨acc, e1, u, _, a4⟩ => ?_)⟩
        · have tu := TupsStay.same u
          have nof : ∀ {Hy : Hp} {o : HO}, Same Hx Hy → Same H (upd Hy D o) := fun {Hy o} v b o' e' => by
            rw [upd_ne (ne_of_none e' nD)]
            exact v _ _ (u _ _ e')
          match i, hx with
          | 0, hx =>
            injection hx with hx
            subst hx
            refine ⟨rfl, _, rfl, _, rfl, q1, sp, rp, .r, .slot3, S, B, L, rfl, ⟨f1'.stay tu, (by cases d <;> exact True.intro), I.sl.same u, I.b, I.sb, True.intro⟩, fun v H4 rv s4 => ?_⟩
            obtain ⟨rq, rfl, er, orq⟩ := rv
            have nrD : rq ≠ D := orq.elim (fun z => z ▸ ne_of_none I.sl.r nD) fun z k => by rw [k, e1] at z; cases z
            have orq2 : rq = rp ∨ H rq = none := orq.elim (fun z => .inl z) fun z => .inr (un0 u z)
            exact ⟨acc, s4 _ _ e1, by rw [a0 rfl]; decide, _, upd_same, nof s4, fun z => by omega, fun _ => ⟨rq, by rw [a0 rfl]; rfl, by rw [upd_ne nrD]; exact er, orq2⟩⟩
          | i + 1, hx => cases hx
        · obtain ⟨rq, a4, er, orq⟩ := a4 rfl
          subst a4
          refine .inl ⟨D, _, rfl, SqL.of e1, fun qn nq => ?_⟩
          have su := same_upd (o := .tup [.ref rq]) nq
          exact q _ _ ⟨qn, rq, rfl, SqT.of upd_same, su _ _ er, orq⟩ (u.trans su)
      | whr c3 a b =>
        cases d with
        | zero => exact False.elim I.ok
        | succ d =>
        obtain ⟨q1, q2, q3, tp, tc, ta, tb⟩ := id I.at_
        have hm := I.mu
        have ho := I.ok
        refine ⟨_, rfl, p, _, _, _, rfl, rfl, tp, atI_nat (j := 0) rfl, ?_⟩
        refine ⟨_, rfl, rfl, _, rfl, ite2 (fun c => absurd c (by decide)) (fun c => ?_)⟩
        refine ⟨_, rfl, (by show 2 ≤ sizeLine; decide), fun t nt => ?_⟩
        have st := same_upd (o := .tup [.str "num", .str "slot"]) nt
        have I := I.same st
        have tt := TupsStay.same st
        refine ⟨t, _, rfl, .inr (SqT.of upd_same), rfl, rfl, _, rfl, ite2 (fun c => absurd c (by decide)) (fun _ => ?_)⟩
        clear nt
        generalize upd H t (.tup [.str "num", .str "slot"]) = H3 at *
        refine ⟨_, rfl, rfl, _, rfl, ite2 (fun c => absurd c (by decide)) (fun c => ?_)⟩
        have tp := SqT.keeps tp tt
        refine ⟨_, rfl, p, _, _, _, rfl, rfl, tp, atI_nat (j := 1) rfl, _, rfl, q1, sp, rp, .n, c3, S, B, L, rfl, ⟨tc.stay tt, ho.1, I.sl, I.b, I.sb, hm.1⟩, fun v H4 rv s4 => ?_⟩
        have rv : v = .int (evI c3 S) := rv
        subst rv
        have t4 := TupsStay.same s4
        have tp4 := SqT.keeps tp t4
        have e0 : ev (.whr c3 a b) S = if evI c3 S ≠ 0 then ev a S else ev b S := rfl
        refine ⟨_, rfl, rfl, _, rfl, ite2 (fun c => absurd c (by decide)) (fun c => ?_)⟩
        refine ⟨_, rfl, rfl, _, rfl, ite2 (fun c => ?_) (fun c => absurd (by decide) c)⟩
        by_cases nz : evI c3 S = 0
        · have hk : (!decide (V.int (evI c3 S) = V.int 0)) = false := by rw [nz]; rfl
          rw [if_neg (show ¬ evI c3 S ≠ 0 from fun k => k nz)] at e0
          refine ⟨_, rfl, _, rfl, rfl, .inr ⟨_, rfl, _, _, rfl, rfl, p, _, _, _, rfl, rfl, tp4, (by rw [hk]; exact atI_nat (j := 3) rfl), _, rfl, q3, sp, rp, s, b, S, B, L, rfl, ⟨(tb.stay tt).stay t4, ho.2.2, I.sl.same s4, I.b, I.sb, hm.2.2⟩, fun v H5 rv s5 => q v H5 (by rw [e0]; exact rv.to fun _ z => z.elim .inl fun z => .inr (un0 (st.trans s4) z)) (st.trans (s4.trans s5))⟩⟩
        · have hk : (!decide (V.int (evI c3 S) = V.int 0)) = true := by
            have : decide (V.int (evI c3 S) = V.int 0) = false := decide_eq_false fun e => nz (by injection e)
            rw [this]
            rfl
          rw [if_pos (show evI c3 S ≠ 0 from nz)] at e0
          refine ⟨_, rfl, _, rfl, rfl, .inr ⟨_, rfl, _, _, rfl, rfl, p, _, _, _, rfl, rfl, tp4, (by rw [hk]; exact atI_nat (j := 2) rfl), _, rfl, q2, sp, rp, s, a, S, B, L, rfl, ⟨(ta.stay tt).stay t4, ho.2.1, I.sl.same s4, I.b, I.sb, hm.2.1⟩, fun v H5 rv s5 => q v H5 (by rw [e0]; exact rv.to fun _ z => z.elim .inl fun z => .inr (un0 (st.trans s4) z)) (st.trans (s4.trans s5))⟩⟩
      | wth T0 a =>
        cases d with
        | zero => exact False.elim I.ok
        | succ d =>
        obtain ⟨q1, q2, tp, tT, ta⟩ := id I.at_
        have hm := I.mu
        have ho := I.ok
        have gb := I.b
        refine ⟨_, rfl, p, _, _, _, rfl, rfl, tp, atI_nat (j := 0) rfl, ?_⟩
        refine ⟨_, rfl, rfl, _, rfl, ite2 (fun c => absurd c (by decide)) (fun c => ?_)⟩
        refine ⟨_, rfl, (by show 2 ≤ sizeLine; decide), fun t nt => ?_⟩
        have st := same_upd (o := .tup [.str "num", .str "slot"]) nt
        have I := I.same st
        have tt := TupsStay.same st
        refine ⟨t, _, rfl, .inr (SqT.of upd_same), rfl, rfl, _, rfl, ite2 (fun c => absurd c (by decide)) (fun _ => ?_)⟩
        clear nt
        generalize upd H t (.tup [.str "num", .str "slot"]) = H3 at *
        refine ⟨_, rfl, rfl, _, rfl, ite2 (fun c => absurd c (by decide)) (fun c => ?_)⟩
        have tp := SqT.keeps tp tt
        refine ⟨_, rfl, p, _, _, _, rfl, rfl, tp, atI_nat (j := 1) rfl, _, rfl, q1, sp, rp, .t, T0, S, B, L, rfl, ⟨tT.stay tt, ho.1, I.sl, I.b, I.sb, hm.1⟩, fun v H4 rv s4 => ?_⟩
        obtain ⟨sf, rf, rfl, slf, orf⟩ := rv
        have orf : rf = rp ∨ H rf = none := orf.elim .inl fun z => .inr (un0 st z)
        have t4 := TupsStay.same s4
        have tp4 := SqT.keeps tp t4
        have sbT : SlB (bt T0 B) (ln T0 L) (ev T0 S) := ev_bd T0 ho.1 (by omega) I.sb
        refine ⟨_, rfl, rfl, _, rfl, ite2 (fun c => absurd c (by decide)) (fun c => ?_)⟩
        refine ⟨_, rfl, rfl, _, rfl, ite2 (fun c => absurd c (by decide)) (fun c => ?_)⟩
        refine ⟨_, rfl, rfl, _, rfl, ite2 (fun c => ?_) (fun c => absurd (by decide) c)⟩
        exact ⟨_, rfl, p, _, _, _, rfl, rfl, tp4, atI_nat (j := 2) rfl, _, rfl, q2, sf, rf, s, a, ev T0 S, bt T0 B, ln T0 L, rfl, ⟨(ta.stay tt).stay t4, ho.2, slf, by have := bt_ge T0 B; omega, sbT, hm.2⟩, fun v H5 rv s5 => q v H5 (rv.to fun _ z => z.elim (fun z => z ▸ orf) fun z => .inr (un0 (st.trans s4) z)) (st.trans (s4.trans s5))⟩
      | fold n T0 g =>
        cases d with
        | zero => exact False.elim I.ok
        | succ d =>
        have Iat0 := I.at_
        obtain ⟨q1, q2, q3, tp, tn, tT, tg⟩ := id I.at_
        obtain ⟨o1, o2, o3, o4, o5⟩ := I.ok
        obtain ⟨m1, m2, m3⟩ := I.mu
        have gb := I.b
        refine ⟨_, rfl, p, _, _, _, rfl, rfl, tp, atI_nat (j := 0) rfl, ?_⟩
        refine ⟨_, rfl, rfl, _, rfl, ite2 (fun c => absurd c (by decide)) (fun c => ?_)⟩
        refine ⟨_, rfl, (by show 2 ≤ sizeLine; decide), fun t nt => ?_⟩
        have st := same_upd (o := .tup [.str "num", .str "slot"]) nt
        have I := I.same st
        have tt := TupsStay.same st
        refine ⟨t, _, rfl, .inr (SqT.of upd_same), rfl, rfl, _, rfl, ite2 (fun c => absurd c (by decide)) (fun _ => ?_)⟩
        clear nt
        generalize upd H t (.tup [.str "num", .str "slot"]) = H3 at *
        refine ⟨_, rfl, rfl, _, rfl, ite2 (fun c => absurd c (by decide)) (fun c => ?_)⟩
        have tp := SqT.keeps tp tt
        refine ⟨_, rfl, p, _, _, _, rfl, rfl, tp, atI_nat (j := 1) rfl, _, rfl, q1, sp, rp, .n, n, S, B, L, rfl, ⟨tn.stay tt, o1, I.sl, I.b, I.sb, m1⟩, fun v H4 rv s4 => ?_⟩
        have rv : v = .int (evI n S) := rv
        subst rv
        have t4 := TupsStay.same s4
        have tp4 := SqT.keeps tp t4
        refine ⟨_, rfl, rfl, _, rfl, ite2 (fun c => absurd c (by decide)) (fun c => ?_)⟩
        refine ⟨_, rfl, rfl, _, rfl, ite2 (fun c => absurd c (by decide)) (fun c => ?_)⟩
        refine ⟨_, rfl, rfl, _, rfl, ite2 (fun c => absurd c (by decide)) (fun c => ?_)⟩
        refine ⟨_, rfl, p, _, _, _, rfl, rfl, tp4, atI_nat (j := 2) rfl, _, rfl, q2, sp, rp, .t, T0, S, B, L, rfl, ⟨(tT.stay tt).stay t4, o2, I.sl.same s4, I.b, I.sb, m2⟩, fun v5 H5 rv5 s5 => ?_⟩
        obtain ⟨sf, rf, rfl, slf, orf⟩ := rv5
        have s15 := st.trans (s4.trans s5)
        have orf : rf = rp ∨ H rf = none := orf.elim .inl fun z => .inr (un0 (st.trans s4) z)
        have n4 : evI n S ≤ 4 := o4 S
        have nb : 0 ≤ evI n S ∧ evI n S < 2 ^ bt n B := ev_bd n o1 (by omega) I.sb
        have sbT : SlB (bt T0 B) (ln T0 L) (ev T0 S) := ev_bd T0 o2 (by omega) I.sb
        obtain ⟨q1', q2', q3', tpH, _, _, tgH⟩ := id Iat0
        refine ⟨_, rfl, rfl, _, rfl, ite2 (fun c => ?_) (fun c => absurd (by decide) c)⟩
        refine ⟨_, rfl, evI n S, rfl, by omega, by omega, for_range (lo := 0) (n := (evI n S).toNat) (fun i σ Hx => ∃ (v5 v6 : Option V) (sg rg : Addr) (Si : Sl), σ = [some (.ref p), some (.ref sp), some (.str "fold"), some (.int (evI n S)), some (.ref sg), v5, v6] ∧ SlAt K Hx sg rg Si ∧ (rg = rp ∨ H rg = none) ∧ Mid T0 g B L i Si ∧ iter (ev g) ((evI n S).toNat - i) Si = ev (.fold n T0 g) S ∧ Same H Hx)
          ⟨none, none, sf, rf, ev T0 S, rfl, slf, orf, ⟨sbT.r, by have := sbT.x; omega, by have := sbT.y; omega, by have := sbT.z; omega⟩, rfl, s15⟩ (fun i σ Hx hi h => ?_) (fun σ Hx h => ?_)⟩
        · obtain ⟨v5, v6, sg, rg, Si, rfl, sl, org, mi, ei, sx⟩ := h
          have hi4 : i ≤ 4 := by omega
          have tx := TupsStay.same sx
          refine ⟨_, rfl, p, _, _, _, rfl, rfl, SqT.keeps tpH tx, atI_nat (j := 3) rfl, _, rfl, q3', sg, rg, .t, g, Si, bt T0 B + 4, ln T0 L + 4, rfl, ⟨tgH.stay tx, o3, sl, by have := bt_ge T0 B; omega, mi.sb hi4 (by omega), m3⟩, fun v7 H7 rv7 s7 => ?_⟩
          obtain ⟨sh, rh, rfl, slh, orh⟩ := rv7
          have orh : rh = rp ∨ H rh = none := orh.elim (fun z => z ▸ org) fun z => .inr (un0 sx z)
          refine ⟨_, _, sh, rh, ev g Si, rfl, slh, orh, mi.go o5 (by omega), ?_, sx.trans s7⟩
          rw [← ei]
          have : (evI n S).toNat - i = ((evI n S).toNat - (i + 1)) + 1 := by omega
          rw [this]
          rfl
        · obtain ⟨v5, v6, sg, rg, Si, rfl, sl, org, mi, ei, sx⟩ := h
          rw [Nat.sub_self] at ei
          refine ⟨_, rfl, q _ Hx ⟨sg, rg, rfl, ?_, org⟩ sx⟩
          rw [← ei]
          exact sl
end
/-! ### drawn folds: how great they are -/
def kap : Nat → Nat
  | 0 => 1
  | d + 1 => kap d * kap d + kap d
def lam : Nat → Nat
  | 0 => 0
  | d + 1 => 2 * lam d + 4
def lvN : Nat → Nat
  | 0 => 0
  | 1 => 2
  | d + 2 => d + 4
def lvT : Nat → Nat
  | 0 => 1
  | d + 1 => d + 3
def lvR : Nat → Nat
  | 0 => 0
  | d + 1 => d + 3
theorem lvN_le : ∀ d, lvN d ≤ d + 2
  | 0 => by decide
  | 1 => by decide
  | d + 2 => Nat.le_refl _
theorem lvT_le : ∀ d, lvT d ≤ d + 2
  | 0 => by decide
  | d + 1 => Nat.le_refl _
theorem lvR_le : ∀ d, lvR d ≤ d + 2
  | 0 => by decide
  | d + 1 => Nat.le_refl _
theorem kap_pos : ∀ d, 1 ≤ kap d
  | 0 => Nat.le_refl _
  | d + 1 => Nat.le_trans (kap_pos d) (Nat.le_add_left _ _)
theorem kap_sq (d : Nat) : kap d ≤ kap d * kap d := Nat.le_mul_of_pos_right _ (kap_pos d)
theorem kap_up (d : Nat) : kap d ≤ kap (d + 1) := Nat.le_add_left _ _
theorem lam_up (d : Nat) : lam d ≤ lam (d + 1) := by show lam d ≤ 2 * lam d + 4; omega
structure Dr (d lv : Nat) {s : Srt} (f : Fo s) : Prop where
  ok : FoOk lv f
  bd : ∀ B L, 10 ≤ B → kap d * B ≤ 100000 → L + lam d ≤ 1000 → Lim f B L ∧ bt f B ≤ kap d * B ∧ ln f L ≤ L + lam d
theorem Dr.up {d lv lv' : Nat} {s : Srt} {f : Fo s} (h : Dr d lv f) (l : lv ≤ lv') : Dr (d + 1) lv' f := ⟨h.ok.ups l, fun B L b1 b2 b3 => by
  have k1 := Nat.mul_le_mul_right B (kap_up d)
  have k2 := lam_up d
  obtain ⟨a, b, c⟩ := h.bd B L b1 (by omega) (by omega)
  exact ⟨a, by omega, by omega⟩⟩
theorem Dr.ups {d lv lv' d' : Nat} {s : Srt} {f : Fo s} (h : Dr d lv f) (l : lv ≤ lv') (k : d ≤ d') : Dr d' lv' f := by
  induction k with
  | refl => exact ⟨h.ok.ups l, h.bd⟩
  | step _ ih => exact ih.up (Nat.le_refl _)
theorem dr_num {k : Int} (h : 0 ≤ k ∧ k < 5) (d lv : Nat) : Dr d lv (.num k) := ⟨by cases lv <;> exact h, fun B L b1 b2 b3 => ⟨True.intro, Nat.le_mul_of_pos_left _ (kap_pos d), Nat.le_add_right _ _⟩⟩
theorem dr_slot {k : Nat} (h : k < 3) (d lv : Nat) : Dr d lv (.slot k) := ⟨by cases lv <;> exact h, fun B L b1 b2 b3 => ⟨True.intro, Nat.le_mul_of_pos_left _ (kap_pos d), Nat.le_add_right _ _⟩⟩
theorem dr_none (d lv : Nat) : Dr d lv .none := ⟨by cases lv <;> exact True.intro, fun B L b1 b2 b3 => ⟨True.intro, Nat.le_mul_of_pos_left _ (kap_pos d), Nat.le_add_right _ _⟩⟩
theorem dr_slot3 (d lv : Nat) : Dr d lv .slot3 := ⟨by cases lv <;> exact True.intro, fun B L b1 b2 b3 => ⟨True.intro, Nat.le_mul_of_pos_left _ (kap_pos d), Nat.le_add_right _ _⟩⟩
section
variable {d lv : Nat}
theorem kap_b {d B : Nat} (h : kap (d + 1) * B ≤ 100000) : kap d * B ≤ 100000 ∧ kap d * kap d * B + kap d * B ≤ 100000 := by
  have e : kap (d + 1) * B = kap d * kap d * B + kap d * B := Nat.add_mul _ _ _
  rw [e] at h
  exact ⟨by omega, h⟩
theorem dr_less {a : Fo .n} (h : Dr d lv a) : Dr (d + 1) (lv + 1) (.less a) := ⟨h.ok, fun B L b1 b2 b3 => by
  have k1 := Nat.mul_le_mul_right B (kap_up d)
  have k2 := lam_up d
  obtain ⟨x, y, z⟩ := h.bd B L b1 (by omega) (by omega)
  exact ⟨x, Nat.le_trans y k1, Nat.le_add_right _ _⟩⟩
theorem dr_add {a b : Fo .n} (h : Dr d lv a) (g : Dr d lv b) : Dr (d + 1) (lv + 1) (.add a b) := ⟨⟨h.ok, g.ok⟩, fun B L b1 b2 b3 => by
  have k2 := lam_up d
  obtain ⟨k3, k4⟩ := kap_b b2
  obtain ⟨x, y, z⟩ := h.bd B L b1 k3 (by omega)
  obtain ⟨x2, y2, z2⟩ := g.bd B L b1 k3 (by omega)
  refine ⟨⟨x, x2⟩, ?_, Nat.le_add_right _ _⟩
  show max (bt a B) (bt b B) + 1 ≤ (kap d * kap d + kap d) * B
  have e : (kap d * kap d + kap d) * B = kap d * kap d * B + kap d * B := Nat.add_mul _ _ _
  have p1 : 1 ≤ kap d * kap d * B := Nat.mul_pos (Nat.mul_pos (kap_pos d) (kap_pos d)) (by omega)
  omega⟩
theorem dr_mul {a b : Fo .n} (h : Dr d lv a) (g : Dr d lv b) : Dr (d + 1) (lv + 1) (.mul a b) := ⟨⟨h.ok, g.ok⟩, fun B L b1 b2 b3 => by
  have k2 := lam_up d
  obtain ⟨k3, k4⟩ := kap_b b2
  obtain ⟨x, y, z⟩ := h.bd B L b1 k3 (by omega)
  obtain ⟨x2, y2, z2⟩ := g.bd B L b1 k3 (by omega)
  refine ⟨⟨x, x2, by omega⟩, ?_, Nat.le_add_right _ _⟩
  show bt a B + bt b B ≤ (kap d * kap d + kap d) * B
  have e : (kap d * kap d + kap d) * B = kap d * kap d * B + kap d * B := Nat.add_mul _ _ _
  have p1 := Nat.mul_le_mul_right B (kap_sq d)
  omega⟩
theorem dr_whr {s : Srt} {c : Fo .n} {a b : Fo s} (hc : Dr d lv c) (h : Dr d lv a) (g : Dr d lv b) : Dr (d + 1) (lv + 1) (.whr c a b) := ⟨⟨hc.ok, h.ok, g.ok⟩, fun B L b1 b2 b3 => by
  have k1 := Nat.mul_le_mul_right B (kap_up d)
  have k2 := lam_up d
  obtain ⟨x, y, z⟩ := h.bd B L b1 (by omega) (by omega)
  obtain ⟨x2, y2, z2⟩ := g.bd B L b1 (by omega) (by omega)
  obtain ⟨x3, _, _⟩ := hc.bd B L b1 (by omega) (by omega)
  refine ⟨⟨x3, x, x2⟩, ?_, ?_⟩
  · show max (bt a B) (bt b B) ≤ _
    omega
  · show max (ln a L) (ln b L) ≤ _
    omega⟩
theorem dr_whrU {s : Srt} {c : Fo .n} {a b : Fo s} (hc : Dr (d + 1) lv c) (h : Dr d lv a) (g : Dr d lv b) : Dr (d + 1) (lv + 1) (.whr c a b) := ⟨⟨hc.ok, h.ok, g.ok⟩, fun B L b1 b2 b3 => by
  have k1 := Nat.mul_le_mul_right B (kap_up d)
  have k2 := lam_up d
  obtain ⟨x, y, z⟩ := h.bd B L b1 (by omega) (by omega)
  obtain ⟨x2, y2, z2⟩ := g.bd B L b1 (by omega) (by omega)
  obtain ⟨x3, _, _⟩ := hc.bd B L b1 b2 b3
  refine ⟨⟨x3, x, x2⟩, ?_, ?_⟩
  · show max (bt a B) (bt b B) ≤ _
    omega
  · show max (ln a L) (ln b L) ≤ _
    omega⟩
theorem dr_wth {s : Srt} {T : Fo .t} {a : Fo s} (h : Dr d lv T) (g : Dr d lv a) : Dr (d + 1) (lv + 1) (.wth T a) := ⟨⟨h.ok, g.ok⟩, fun B L b1 b2 b3 => by
  have k2 : lam (d + 1) = 2 * lam d + 4 := rfl
  obtain ⟨k3, k4⟩ := kap_b b2
  obtain ⟨x, y, z⟩ := h.bd B L b1 k3 (by omega)
  have m1 : kap d * bt T B ≤ kap d * kap d * B := by
    rw [Nat.mul_assoc]
    exact Nat.mul_le_mul_left _ y
  have b10 := bt_ge T B
  obtain ⟨x2, y2, z2⟩ := g.bd (bt T B) (ln T L) (by omega) (by omega) (by omega)
  refine ⟨⟨x, x2⟩, ?_, ?_⟩
  · show bt a (bt T B) ≤ (kap d * kap d + kap d) * B
    have e : (kap d * kap d + kap d) * B = kap d * kap d * B + kap d * B := Nat.add_mul _ _ _
    omega
  · show ln a (ln T L) ≤ _
    omega⟩
theorem dr_more {a : Fo .r} {b : Fo .n} (h : Dr d lv a) (g : Dr d lv b) : Dr (d + 1) (lv + 1) (.more a b) := ⟨⟨h.ok, g.ok⟩, fun B L b1 b2 b3 => by
  have k1 := Nat.mul_le_mul_right B (kap_up d)
  have k2 : lam (d + 1) = 2 * lam d + 4 := rfl
  obtain ⟨x, y, z⟩ := h.bd B L b1 (by omega) (by omega)
  obtain ⟨x2, y2, z2⟩ := g.bd B L b1 (by omega) (by omega)
  refine ⟨⟨x, x2, by omega⟩, ?_, ?_⟩
  · show max (bt a B) (bt b B) ≤ _
    omega
  · show ln a L + 1 ≤ _
    omega⟩
theorem dr_tup {a b c : Fo .n} {e : Fo .r} (h1 : Dr d lv a) (h2 : Dr d lv b) (h3 : Dr d lv c) (h4 : Dr d lv e) : Dr d (lv + 1) (.tup a b c e) := ⟨⟨h1.ok, h2.ok, h3.ok, h4.ok⟩, fun B L b1 b2 b3 => by
  obtain ⟨x1, y1, z1⟩ := h1.bd B L b1 b2 b3
  obtain ⟨x2, y2, z2⟩ := h2.bd B L b1 b2 b3
  obtain ⟨x3, y3, z3⟩ := h3.bd B L b1 b2 b3
  obtain ⟨x4, y4, z4⟩ := h4.bd B L b1 b2 b3
  refine ⟨⟨x1, x2, x3, x4⟩, ?_, z4⟩
  show max (max (bt a B) (bt b B)) (max (bt c B) (bt e B)) ≤ _
  omega⟩
theorem dr_fold {n : Fo .n} {T g : Fo .t} (hn : Dr (d + 1) lv n) (h : Dr d lv T) (go : FoOk lv g) (gl : ∀ B L, L ≤ 2000 → Lim g B L) (n4 : ∀ S, ev n S ≤ 4) (fl : Flat g) : Dr (d + 1) (lv + 1) (.fold n T g) := ⟨⟨hn.ok, h.ok, go, n4, fl⟩, fun B L b1 b2 b3 => by
  have k2 : lam (d + 1) = 2 * lam d + 4 := rfl
  obtain ⟨k3, k4⟩ := kap_b b2
  obtain ⟨x, y, z⟩ := h.bd B L b1 k3 (by omega)
  obtain ⟨x2, _, _⟩ := hn.bd B L b1 b2 b3
  refine ⟨⟨x2, x, gl _ _ (by omega)⟩, ?_, ?_⟩
  · show bt T B + 4 ≤ (kap d * kap d + kap d) * B
    have e : (kap d * kap d + kap d) * B = kap d * kap d * B + kap d * B := Nat.add_mul _ _ _
    have p1 : 1 * B ≤ kap d * kap d * B := Nat.mul_le_mul_right B (Nat.mul_pos (kap_pos d) (kap_pos d))
    omega
  · show ln T L + 4 ≤ _
    omega⟩
end
/-! ### a tuple that grows by little -/
theorem But.tups {h c : Addr} {H H' : Hp} {s k : Int} {cs : List Int} (B : But h c H H') (A : HAt H h c s k cs) : TupsStay H H' := fun b xs q => by
  have nh : b ≠ h := fun z => by
    subst z
    rcases q with q | ⟨ob, q⟩ <;> (rw [A.h] at q; cases q)
  have nc : b ≠ c := fun z => by
    subst z
    rcases q with q | ⟨ob, q⟩ <;> (rw [A.c] at q; cases q)
  rcases q with q | ⟨ob, q⟩
  · exact .inl (B _ _ q nh nc)
  · exact .inr ⟨ob, B _ _ q nh nc⟩
theorem But.upd {H H1 : Hp} {h c D : Addr} {o : HO} (B : But h c H H1) (nD : H D = none) : But h c H (upd H1 D o) := fun b u e n1 n2 => by
  rw [upd_ne (ne_of_none e nD)]
  exact B b u e n1 n2
theorem Paired.snoc {α β : Type} {G : α → β → Prop} {a : α} {b : β} (h : G a b) : ∀ {l₁ : List α} {l₂ : List β}, Paired G l₁ l₂ → Paired G (l₁ ++ [a]) (l₂ ++ [b])
  | _, _, .nil => .cons h .nil
  | _, _, .cons r t => .cons r (Paired.snoc h t)
structure Sm (f : Fo .n) : Prop where
  ok : FoOk 1 f
  li : ∀ B L, L ≤ 2000 → Lim f B L
  ev : ∀ (S : Sl) (M : Int), 16 ≤ M → (0 ≤ S.x ∧ S.x < M) → (0 ≤ S.y ∧ S.y < M) → (0 ≤ S.z ∧ S.z < M) → 0 ≤ evI f S ∧ evI f S < M + 2
theorem slot_rng {k : Nat} {S : Sl} {M : Int} (hx : 0 ≤ S.x ∧ S.x < M) (hy : 0 ≤ S.y ∧ S.y < M) (hz : 0 ≤ S.z ∧ S.z < M) : 0 ≤ S.at k ∧ S.at k < M := by
  match k with
  | 0 => exact hx
  | 1 => exact hy
  | k + 2 => exact hz
theorem sm_slot {k : Nat} (h : k < 3) : Sm (.slot k) := ⟨h, fun _ _ _ => True.intro, fun S M m hx hy hz => by
  have := slot_rng (k := k) hx hy hz
  show 0 ≤ S.at k ∧ S.at k < M + 2
  omega⟩
theorem sm_less {k : Nat} (h : k < 3) : Sm (.less (.slot k)) := ⟨h, fun _ _ _ => True.intro, fun S M m hx hy hz => by
  have := slot_rng (k := k) hx hy hz
  show 0 ≤ (if S.at k > 0 then S.at k - 1 else 0) ∧ (if S.at k > 0 then S.at k - 1 else 0) < M + 2
  split <;> omega⟩
theorem sm_add {k : Nat} (h : k < 3) {r : Int} (hr : 0 ≤ r ∧ r < 3) : Sm (.add (.slot k) (.num r)) := ⟨⟨h, show 0 ≤ r ∧ r < 5 by omega⟩, fun _ _ _ => ⟨True.intro, True.intro⟩, fun S M m hx hy hz => by
  have := slot_rng (k := k) hx hy hz
  show 0 ≤ S.at k + r ∧ S.at k + r < M + 2
  omega⟩
theorem sm_num {r : Int} (hr : 0 ≤ r ∧ r < 4) : Sm (.num r) := ⟨show 0 ≤ r ∧ r < 5 by omega, fun _ _ _ => True.intro, fun S M m hx hy hz => by
  show 0 ≤ r ∧ r < M + 2
  omega⟩
/-- rows that grow by one at the most -/
structure SmR (f : Fo .r) : Prop where
  ok : FoOk 1 f
  li : ∀ B L, L ≤ 2000 → Lim f B L
  ev : ∀ S : Sl, (ev f S).length ≤ S.r.length + 1
theorem flat_of {a b c : Fo .n} {e : Fo .r} (ha : Sm a) (hb : Sm b) (hc : Sm c) (he : SmR e) : Flat (.tup a b c e) ∧ FoOk 2 (.tup a b c e) ∧ ∀ B L, L ≤ 2000 → Lim (.tup a b c e) B L := by
  refine ⟨fun B L S k hB hr hx hy hz => ?_, ⟨ha.ok, hb.ok, hc.ok, he.ok⟩, fun B L l => ⟨ha.li B L l, hb.li B L l, hc.li B L l, he.li B L l⟩⟩
  have p4 := pow4 hB
  have m : (16 : Int) ≤ 2 ^ B + 2 * (k : Int) := by omega
  have q1 := ha.ev S _ m hx hy hz
  have q2 := hb.ev S _ m hx hy hz
  have q3 := hc.ev S _ m hx hy hz
  have q4 := he.ev S
  exact ⟨by show (ev e S).length ≤ _; omega, q1, q2, q3⟩
section
variable {P : Program} {w : World} {K : PySem.W.Frag} {mg : Str → Option Value} {base : Heap}
def spFlat (K : PySem.W.Frag) : Sp := fun vs H Q _ => ∃ (h c : Addr) (s k : Int) (cs : List Int), vs = [.ref h] ∧ HAt H h c s k cs ∧
  ∀ (s' k' : Int) (cs' : List Int) (p : Addr) (g : Fo .t) (H' : Hp), HAt H' h c s' k' cs' → But h c H H' → FoAt K H' p g → Flat g → FoOk 2 g → (∀ B L, L ≤ 2000 → Lim g B L) → Q (.ref p) H'
theorem at4 {a b c d : V} {i : Int} (h0 : 0 ≤ i) (h4 : i < 4) : atI [a, b, c, d] i = some (if i = 0 then a else if i = 1 then b else if i = 2 then c else d) := by
  have : i = 0 ∨ i = 1 ∨ i = 2 ∨ i = 3 := by omega
  rcases this with z | z | z | z <;> subst z <;> rfl
theorem at3 {a b c : V} {i : Int} (h0 : 0 ≤ i) (h4 : i < 3) : atI [a, b, c] i = some (if i = 0 then a else if i = 1 then b else c) := by
  have : i = 0 ∨ i = 1 ∨ i = 2 := by omega
  rcases this with z | z | z <;> subst z <;> rfl
theorem ok_law_flat {f : Addr} {fd : FuncData} (T : Txt K mg) (F : DefAt K mg "_law_flat" "_law_flat" s_law_flat ["_law_h"] f fd) : FnOk P w K mg base CX0 2 f fd ["_law_h"] (spFlat K) := by
  obtain ⟨f1, fd1, D_law_next⟩ := T.d_law_next
  have G_law_next : FnOk P w K mg base CX0 1 f1 fd1 ["_law_h", "_law_many"] spNext := ok_law_next T D_law_next
  refine F.F.ok sc_law_flat (fun vs H Q E h => ?_) (fun cdv A outer z H vs Q E hr h => ?_)
  · obtain ⟨h, c, s, k, cs, rfl, _⟩ := h
    rfl
  · obtain ⟨h, c, z0, k, cs, rfl, A0, q⟩ := h
    refine ⟨_, (pss_cons (ps_set (i := 1) sc_law_flat.nd rfl (.inl rfl) (pe_lst pa_nil))
      (pss_cons (ps_for PassesOwn.never rfl (pi_range1 rfl T.m_range (pa_cons pe_int pa_nil)) (pg_name (i := 2) sc_law_flat.nd rfl (.inl rfl)) (pss_cons (ps_set (i := 3) sc_law_flat.nd rfl (.inl rfl) (pe_tup (pa_cons pe_str (pa_cons (pe_call G_law_next (hr.mono (by decide)) (by rfl) D_law_next.g D_law_next.F.kp D_law_next.b .nil pass0 (pa_cons (pv 0) (pa_cons pe_int pa_nil))) pa_nil)))) (pss_cons (ps_set (i := 4) sc_law_flat.nd rfl (.inl rfl) (pe_lst (pa_cons (pv 3) (pa_cons (pe_tup (pa_cons pe_str (pa_cons (pv 3) pa_nil))) (pa_cons (pe_tup (pa_cons pe_str (pa_cons (pv 3) (pa_cons (pe_tup (pa_cons pe_str (pa_cons (pe_call G_law_next (hr.mono (by decide)) (by rfl) D_law_next.g D_law_next.F.kp D_law_next.b .nil pass0 (pa_cons (pv 0) (pa_cons pe_int pa_nil))) pa_nil))) pa_nil)))) (pa_cons (pe_tup (pa_cons pe_str (pa_cons (pe_call G_law_next (hr.mono (by decide)) (by rfl) D_law_next.g D_law_next.F.kp D_law_next.b .nil pass0 (pa_cons (pv 0) (pa_cons pe_int pa_nil))) pa_nil))) pa_nil)))))) (pss_one (ps_expr (pe_bm PySem.F.plainAttrs_list PySem.F.slot_list_append PySem.F.type_list_append mt_append (pv 1) (pa_cons (pe_ix ix_list (pv 4) (pe_call G_law_next (hr.mono (by decide)) (by rfl) D_law_next.g D_law_next.F.kp D_law_next.b .nil pass0 (pa_cons (pv 0) (pa_cons pe_int pa_nil))) (fun _ _ => rfl)) pa_nil)))))))
      (pss_cons (ps_set (i := 5) sc_law_flat.nd rfl (.inl rfl) (pe_ix ix_list (pe_lst (pa_cons (pe_tup (pa_cons pe_str (pa_cons pe_int pa_nil))) (pa_cons (pe_tup (pa_cons pe_str (pa_cons (pe_tup (pa_cons pe_str (pa_cons pe_int pa_nil))) (pa_cons (pe_tup (pa_cons pe_str (pa_cons (pe_call G_law_next (hr.mono (by decide)) (by rfl) D_law_next.g D_law_next.F.kp D_law_next.b .nil pass0 (pa_cons (pv 0) (pa_cons pe_int pa_nil))) pa_nil))) pa_nil)))) (pa_cons (pe_tup (pa_cons pe_str pa_nil)) pa_nil)))) (pe_call G_law_next (hr.mono (by decide)) (by rfl) D_law_next.g D_law_next.F.kp D_law_next.b .nil pass0 (pa_cons (pv 0) (pa_cons pe_int pa_nil))) (fun _ _ => rfl)))
      (pss_one (ps_ret (pe_tup (pa_cons pe_str (pa_cons (pe_op op_catT (pe_tupleOf (by rfl) T.m_tuple (pv 1)) (pe_tup (pa_cons (pv 5) pa_nil))) pa_nil)))))))), ?_⟩
    refine ⟨(by show 0 ≤ sizeLine; decide), fun lp nlp => ?_⟩
    have s0 := same_upd (o := .lst []) nlp
    have lph : lp ≠ h := (ne_of_none A0.h nlp).symm
    have lpc : lp ≠ c := (ne_of_none A0.c nlp).symm
    refine ⟨3, rfl, by decide, by decide, for_range (lo := 0) (n := 3) (fun i σ H2 => ∃ (v2 v3 v4 v5 : Option V) (s k : Int) (cs : List Int) (qs : List Addr) (fs : List (Fo .n)), σ = [some (.ref h), some (.ref lp), v2, v3, v4, v5] ∧ HAt H2 h c s k cs ∧ But h c H H2 ∧ H2 lp = some (.lst (qs.map V.ref)) ∧ Paired (fun q f => FoAt K H2 q f) qs fs ∧ (∀ f ∈ fs, Sm f) ∧ fs.length = i)
      ⟨none, none, none, none, _, _, _, [], [], rfl, A0.same s0, Same.but s0, upd_same, .nil, (fun _ h => nomatch h), rfl⟩ (fun i σ H2 hi hh => ?_) (fun σ H2 hh => ?_)⟩
    · obtain ⟨v2, v3, v4, v5, s2, k2, cs2, qs, fs, rfl, A2, B2, el, pf, sm, fl⟩ := hh
      have lq : qs.length = i := by
        rw [← fl]
        clear fl sm el hi
        induction pf with
        | nil => rfl
        | cons _ _ ih => rw [List.length_cons, List.length_cons, ih]
      refine ⟨_, rfl, h, c, _, _, 3, _, rfl, by decide, by decide, A2, fun s3 k3 cs3 a H3 a0 a3 A3 B3 => ⟨(by show 2 ≤ sizeLine; decide), fun t1 n1 => ?_⟩⟩
      have u1 := same_upd (o := .tup [.str "slot", .int a]) n1
      have el3 := B3 _ _ el lph lpc
      have pf3 := Paired.mapP pf fun _ _ z => FoAt.stay (B3.tups A2) z
      have X1 : SqT K (upd H3 t1 (.tup [.str "slot", .int a])) t1 [.str "slot", .int a] := SqT.of upd_same
      have A3 := A3.same u1
      have B3 := (B2.trans B3).same u1
      have el3 := u1 _ _ el3
      have pf3 := Paired.mapP pf3 fun _ _ z => FoAt.stay (TupsStay.same u1) z
      generalize upd H3 t1 (.tup [.str "slot", .int a]) = H4 at *
      refine ⟨_, rfl, _, rfl, (by show 2 ≤ sizeLine; decide), fun t2 n2 => ?_⟩
      have u2 := same_upd (o := .tup [.str "less", .ref t1]) n2
      have X1 := SqT.keeps X1 (TupsStay.same u2)
      have X2 : SqT K (upd H4 t2 (.tup [.str "less", .ref t1])) t2 [.str "less", .ref t1] := SqT.of upd_same
      have A3 := A3.same u2
      have B3 := B3.same u2
      have el3 := u2 _ _ el3
      have pf3 := Paired.mapP pf3 fun _ _ z => FoAt.stay (TupsStay.same u2) z
      generalize upd H4 t2 (.tup [.str "less", .ref t1]) = H5 at *
      refine ⟨_, rfl, _, rfl, h, c, _, _, 3, _, rfl, by decide, by decide, A3, fun s6 k6 cs6 b H6 b0 b3 A6 B6 => ⟨(by show 2 ≤ sizeLine; decide), fun t3 n3 => ?_⟩⟩
      have tt6 := B6.tups A3
      have u3 := same_upd (o := .tup [.str "num", .int b]) n3
      have t3' := TupsStay.same u3
      have X1 := SqT.keeps (SqT.keeps X1 tt6) t3'
      have X2 := SqT.keeps (SqT.keeps X2 tt6) t3'
      have X3 : SqT K (upd H6 t3 (.tup [.str "num", .int b])) t3 [.str "num", .int b] := SqT.of upd_same
      have el3 := u3 _ _ (B6 _ _ el3 lph lpc)
      have pf3 := Paired.mapP pf3 fun _ _ z => FoAt.stay t3' (FoAt.stay tt6 z)
      have B3 := (B3.trans B6).same u3
      have A6 := A6.same u3
      generalize upd H6 t3 (.tup [.str "num", .int b]) = H7 at *
      refine ⟨(by show 3 ≤ sizeLine; decide), fun t4 n4 => ?_⟩
      have u4 := same_upd (o := .tup [.str "add", .ref t1, .ref t3]) n4
      have t4' := TupsStay.same u4
      have X1 := SqT.keeps X1 t4'
      have X2 := SqT.keeps X2 t4'
      have X3 := SqT.keeps X3 t4'
      have X4 : SqT K (upd H7 t4 (.tup [.str "add", .ref t1, .ref t3])) t4 [.str "add", .ref t1, .ref t3] := SqT.of upd_same
      have el3 := u4 _ _ el3
      have pf3 := Paired.mapP pf3 fun _ _ z => FoAt.stay t4' z
      have B3 := B3.same u4
      have A6 := A6.same u4
      generalize upd H7 t4 (.tup [.str "add", .ref t1, .ref t3]) = H8 at *
      refine ⟨_, rfl, h, c, _, _, 4, _, rfl, by decide, by decide, A6, fun s9 k9 cs9 e H9 e0 e4 A9 B9 => ⟨(by show 2 ≤ sizeLine; decide), fun t5 n5 => ?_⟩⟩
      have tt9 := B9.tups A6
      have u5 := same_upd (o := .tup [.str "num", .int e]) n5
      have t5' := TupsStay.same u5
      have X1 := SqT.keeps (SqT.keeps X1 tt9) t5'
      have X2 := SqT.keeps (SqT.keeps X2 tt9) t5'
      have X3 := SqT.keeps (SqT.keeps X3 tt9) t5'
      have X4 := SqT.keeps (SqT.keeps X4 tt9) t5'
      have X5 : SqT K (upd H9 t5 (.tup [.str "num", .int e])) t5 [.str "num", .int e] := SqT.of upd_same
      have el3 := u5 _ _ (B9 _ _ el3 lph lpc)
      have pf3 := Paired.mapP pf3 fun _ _ z => FoAt.stay t5' (FoAt.stay tt9 z)
      have B3 := (B3.trans B9).same u5
      have A9 := A9.same u5
      generalize upd H9 t5 (.tup [.str "num", .int e]) = Ha at *
      refine ⟨(by show 4 ≤ sizeLine; decide), fun l1 nl1 => ?_⟩
      have u6 := same_upd (o := .lst [.ref t1, .ref t2, .ref t4, .ref t5]) nl1
      have t6' := TupsStay.same u6
      have lpl : lp ≠ l1 := ne_of_none el3 nl1
      have l1h : l1 ≠ h := (ne_of_none A9.h nl1).symm
      have l1c : l1 ≠ c := (ne_of_none A9.c nl1).symm
      have X1 := SqT.keeps X1 t6'
      have X2 := SqT.keeps X2 t6'
      have X3 := SqT.keeps X3 t6'
      have X4 := SqT.keeps X4 t6'
      have X5 := SqT.keeps X5 t6'
      have X6 : (upd Ha l1 (.lst [.ref t1, .ref t2, .ref t4, .ref t5])) l1 = some (.lst [.ref t1, .ref t2, .ref t4, .ref t5]) := upd_same
      have el3 := u6 _ _ el3
      have pf3 := Paired.mapP pf3 fun _ _ z => FoAt.stay t6' z
      have B3 := B3.same u6
      have A9 := A9.same u6
      clear nl1
      generalize upd Ha l1 (.lst [.ref t1, .ref t2, .ref t4, .ref t5]) = Hz at *
      refine ⟨_, rfl, .inl ⟨rfl, _, SqL.of el3⟩, _, rfl, _, rfl, h, c, _, _, 4, _, rfl, by decide, by decide, A9, fun sb kb csb m Hb m0 m4 Ab Bb => ?_⟩
      have ttb := Bb.tups A9
      have ea : (a.toNat : Int) = a := by omega
      have a3' : a.toNat < 3 := by omega
      have Y1 : FoAt K Hb t1 (.slot a.toNat) := by
        show SqT K Hb t1 [.str "slot", .int (a.toNat : Int)]
        rw [ea]
        exact SqT.keeps X1 ttb
      obtain ⟨q', f', eq', hq', sq'⟩ : ∃ (q' : Addr) (f' : Fo .n), (if m = 0 then V.ref t1 else if m = 1 then V.ref t2 else if m = 2 then V.ref t4 else V.ref t5) = V.ref q' ∧ FoAt K Hb q' f' ∧ Sm f' := by
        by_cases c0 : m = 0
        · exact ⟨t1, _, if_pos c0, Y1, sm_slot a3'⟩
        · by_cases c1 : m = 1
          · exact ⟨t2, .less (.slot a.toNat), by rw [if_neg c0, if_pos c1], ⟨t1, SqT.keeps X2 ttb, Y1⟩, sm_less a3'⟩
          · by_cases c2 : m = 2
            · exact ⟨t4, .add (.slot a.toNat) (.num b), by rw [if_neg c0, if_neg c1, if_pos c2], ⟨t1, t3, SqT.keeps X4 ttb, Y1, SqT.keeps X3 ttb⟩, sm_add a3' ⟨b0, b3⟩⟩
            · exact ⟨t5, .num e, by rw [if_neg c0, if_neg c1, if_neg c2], SqT.keeps X5 ttb, sm_num ⟨e0, e4⟩⟩
      refine ⟨l1, _, _, _, rfl, rfl, SqL.of (Bb _ _ X6 l1h l1c), at4 m0 m4, lp, _, _, rfl, rfl, Bb _ _ el3 lph lpc, by rw [List.length_map, lq, sizeLine_eq]; omega, ?_⟩
      rw [eq']
      have tt : TupsStay Hb (upd Hb lp (.lst (qs.map V.ref ++ [.ref q']))) := .upd (Bb _ _ el3 lph lpc) True.intro
      refine ⟨_, _, _, _, _, _, _, qs ++ [q'], fs ++ [f'], rfl, Ab.set lph lpc, But.upd (B3.trans Bb) nlp, by rw [upd_same, List.map_append]; rfl, Paired.snoc (hq'.stay tt) (Paired.mapP pf3 fun _ _ z => FoAt.stay tt (FoAt.stay ttb z)), fun x hx => ?_, by rw [List.length_append, List.length_singleton, fl]⟩
      rcases List.mem_append.mp hx with z | z
      · exact sm x z
      · have : x = f' := by simpa using z
        rw [this]
        exact sq'
    · obtain ⟨v2, v3, v4, v5, s2, k2, cs2, qs, fs, rfl, A2, B2, el, pf, sm, fl⟩ := hh
      obtain ⟨f1, f2, f3, rfl⟩ : ∃ a b c, fs = [a, b, c] := by
        match fs, fl with
        | [a, b, c], _ => exact ⟨a, b, c, rfl⟩
      cases pf with
      | cons x1 r1 =>
      cases r1 with
      | cons x2 r2 =>
      cases r2 with
      | cons x3 r3 =>
      cases r3
      rename_i q1 q2 q3
      have sm1 : Sm f1 := sm _ (by simp)
      have sm2 : Sm f2 := sm _ (by simp)
      have sm3 : Sm f3 := sm _ (by simp)
      refine ⟨(by show 2 ≤ sizeLine; decide), fun t1 n1 => ⟨(by show 2 ≤ sizeLine; decide), fun t2 n2 => ?_⟩⟩
      have u1 := same_upd (o := .tup [.str "slot", .int 3]) n1
      have u2 := same_upd (o := .tup [.str "slot", .int 3]) n2
      have u12 := u1.trans u2
      have Y1 : FoAt K _ t1 .slot3 := SqT.keeps (SqT.of (upd_same (H := H2) (a := t1) (o := .tup [.str "slot", .int 3]))) (TupsStay.same u2)
      have Y2 : FoAt K (upd (upd H2 t1 (.tup [.str "slot", .int 3])) t2 (.tup [.str "slot", .int 3])) t2 .slot3 := SqT.of upd_same
      have A2 := A2.same u12
      have B2 := B2.same u12
      have el := u12 _ _ el
      have x1 := FoAt.stay (TupsStay.same u12) x1
      have x2 := FoAt.stay (TupsStay.same u12) x2
      have x3 := FoAt.stay (TupsStay.same u12) x3
      generalize upd (upd H2 t1 (.tup [.str "slot", .int 3])) t2 (.tup [.str "slot", .int 3]) = H3 at *
      clear u1 u2 u12 n1 n2
      refine ⟨_, rfl, h, c, _, _, 3, _, rfl, by decide, by decide, A2, fun s4 k4 cs4 a H4 a0 a3 A4 B4 => ⟨(by show 2 ≤ sizeLine; decide), fun t3 n3 => ⟨(by show 3 ≤ sizeLine; decide), fun t4 n4 => ⟨(by show 1 ≤ sizeLine; decide), fun t5 n5 => ⟨(by show 3 ≤ sizeLine; decide), fun l1 nl1 => ?_⟩⟩⟩⟩⟩
      have tt4 := B4.tups A2
      have v1 := same_upd (o := .tup [.str "slot", .int a]) n3
      have v2 := same_upd (o := .tup [.str "more", .ref t2, .ref t3]) n4
      have v3 := same_upd (o := .tup [.str "none"]) n5
      have v4 := same_upd (o := .lst [.ref t1, .ref t4, .ref t5]) nl1
      have v14 := v1.trans (v2.trans (v3.trans v4))
      have tv := TupsStay.same v14
      have ea : (a.toNat : Int) = a := by omega
      have Y3 : SqT K _ t3 [.str "slot", .int a] := SqT.keeps (SqT.of (upd_same (H := H4) (a := t3) (o := .tup [.str "slot", .int a]))) (TupsStay.same (v2.trans (v3.trans v4)))
      have Y4 : SqT K _ t4 [.str "more", .ref t2, .ref t3] := SqT.keeps (SqT.of (upd_same (a := t4) (o := .tup [.str "more", .ref t2, .ref t3]))) (TupsStay.same (v3.trans v4))
      have Y5 : SqT K _ t5 [.str "none"] := SqT.keeps (SqT.of (upd_same (a := t5) (o := .tup [.str "none"]))) (TupsStay.same v4)
      have el1 : (upd (upd (upd (upd H4 t3 (.tup [.str "slot", .int a])) t4 (.tup [.str "more", .ref t2, .ref t3])) t5 (.tup [.str "none"])) l1 (.lst [.ref t1, .ref t4, .ref t5])) l1 = some (.lst [.ref t1, .ref t4, .ref t5]) := upd_same
      have l1h : l1 ≠ h := (ne_of_none ((v1.trans (v2.trans v3)) _ _ A4.h) nl1).symm
      have l1c : l1 ≠ c := (ne_of_none ((v1.trans (v2.trans v3)) _ _ A4.c) nl1).symm
      have A5 := A4.same v14
      have B5 := (B2.trans B4).same v14
      have el := v14 _ _ (B4 _ _ el lph lpc)
      have x1 := FoAt.stay tv (FoAt.stay tt4 x1)
      have x2 := FoAt.stay tv (FoAt.stay tt4 x2)
      have x3 := FoAt.stay tv (FoAt.stay tt4 x3)
      have Y1 := FoAt.stay tv (FoAt.stay tt4 Y1)
      have Y2 := FoAt.stay tv (FoAt.stay tt4 Y2)
      generalize (upd (upd (upd (upd H4 t3 (.tup [.str "slot", .int a])) t4 (.tup [.str "more", .ref t2, .ref t3])) t5 (.tup [.str "none"])) l1 (.lst [.ref t1, .ref t4, .ref t5])) = H5 at *
      clear v1 v2 v3 v4 v14 tv n3 n4 n5 nl1
      refine ⟨_, rfl, h, c, _, _, 3, _, rfl, by decide, by decide, A5, fun s6 k6 cs6 m H6 m0 m3 A6 B6 => ?_⟩
      have tt6 := B6.tups A5
      have B7 := B5.trans B6
      have el6 := B6 _ _ el lph lpc
      have x1 := FoAt.stay tt6 x1
      have x2 := FoAt.stay tt6 x2
      have x3 := FoAt.stay tt6 x3
      have a3' : a.toNat < 3 := by omega
      obtain ⟨q', f', eq', hq', sq'⟩ : ∃ (q' : Addr) (f' : Fo .r), (if m = 0 then V.ref t1 else if m = 1 then V.ref t4 else V.ref t5) = V.ref q' ∧ FoAt K H6 q' f' ∧ SmR f' := by
        by_cases c0 : m = 0
        · exact ⟨t1, .slot3, if_pos c0, FoAt.stay tt6 Y1, ⟨True.intro, fun _ _ _ => True.intro, fun S => Nat.le_succ _⟩⟩
        · by_cases c1 : m = 1
          · refine ⟨t4, .more .slot3 (.slot a.toNat), by rw [if_neg c0, if_pos c1], ⟨t2, t3, SqT.keeps Y4 tt6, FoAt.stay tt6 Y2, ?_⟩, ⟨⟨True.intro, a3'⟩, fun B L l => ?_, fun S => ?_⟩⟩
            · show SqT K H6 t3 [.str "slot", .int (a.toNat : Int)]
              rw [ea]
              exact SqT.keeps Y3 tt6
            · exact ⟨True.intro, True.intro, by show L + 1 ≤ 100000; omega⟩
            · show (S.r ++ [S.at a.toNat]).length ≤ _
              rw [List.length_append, List.length_singleton]
              omega
          · exact ⟨t5, .none, by rw [if_neg c0, if_neg c1], SqT.keeps Y5 tt6, ⟨True.intro, fun _ _ _ => True.intro, fun S => Nat.zero_le _⟩⟩
      refine ⟨l1, _, _, _, rfl, rfl, SqL.of (B6 _ _ el1 l1h l1c), at3 m0 m3, ?_⟩
      rw [eq']
      refine ⟨_, rfl, .inl ⟨lp, _, rfl, SqL.of el6, fun t6 n6 => ⟨_, rfl, (by show 1 ≤ sizeLine; decide), fun t7 n7 => ?_⟩⟩⟩
      have w1 := same_upd (o := .tup ([q1, q2, q3].map V.ref)) n6
      have w2 := same_upd (o := .tup [.ref q']) n7
      refine ⟨t6, t7, _, _, rfl, rfl, SqT.keeps (SqT.of upd_same) (TupsStay.same w2), SqT.of upd_same, (by intro z; cases z), (by show 3 + 1 ≤ sizeLine; decide), (fun z => nomatch z), fun _ t8 n8 => ⟨(by show 2 ≤ sizeLine; decide), fun t9 n9 => ?_⟩⟩
      have w3 := same_upd (o := .tup ([q1, q2, q3].map V.ref ++ [.ref q'])) n8
      have w4 := same_upd (o := .tup [.str "tuple", .ref t8]) n9
      have w := w1.trans (w2.trans (w3.trans w4))
      have tw := TupsStay.same w
      obtain ⟨z1, z2, z3⟩ := flat_of sm1 sm2 sm3 sq'
      exact q _ _ _ t9 (.tup f1 f2 f3 f') _ (A6.same w) (B7.same w) ⟨t8, q1, q2, q3, q', SqT.of upd_same, SqT.keeps (SqT.of upd_same) (TupsStay.same w4), FoAt.stay tw x1, FoAt.stay tw x2, FoAt.stay tw x3, FoAt.stay tw hq'⟩ z1 z2 z3
end
/-! ### drawn folds -/
section
variable {P : Program} {w : World} {K : PySem.W.Frag} {mg : Str → Option Value} {base : Heap}
theorem fn_drop {CX : CXT} {k : Nat} {f : Addr} {fd : FuncData} {ps : List Str} {sp : Sp} {A : Prop} (F : FnOk P w K mg base CX k f fd ps sp) : FnOk P w K mg base CX k f fd ps (fun vs H Q E => A ∧ sp vs H Q E) :=
  ⟨fun vs H Q E q => F.len vs H Q E q.2, fun A outer s H args us vs Q E hr he hb hv hs => F.run A outer s H args us vs Q E hr he hb hv hs.2⟩
theorem fn_never {CX : CXT} {k : Nat} {f : Addr} {fd : FuncData} {ps : List Str} {sp : Sp} (no : ∀ vs H Q E, ¬ sp vs H Q E) : FnOk P w K mg base CX k f fd ps sp :=
  ⟨fun vs H Q E q => absurd q (no vs H Q E), fun A outer s H args us vs Q E hr he hb hv hs => absurd hs (no vs H Q E)⟩
def spDrw (K : PySem.W.Frag) (s : Srt) (lv : Nat → Nat) (n : Nat) : Sp := fun vs H Q _ => ∃ (h c : Addr) (z k : Int) (cs : List Int) (d : Nat), d ≤ n ∧ vs = [.ref h, .int (d : Int)] ∧ HAt H h c z k cs ∧
  ∀ (z' k' : Int) (cs' : List Int) (p : Addr) (f : Fo s) (H' : Hp), HAt H' h c z' k' cs' → But h c H H' → FoAt K H' p f → Dr d (lv d) f → Q (.ref p) H'
theorem at2 {a b : V} {i : Int} (h0 : 0 ≤ i) (h4 : i < 2) : atI [a, b] i = some (if i = 0 then a else b) := by
  have : i = 0 ∨ i = 1 := by omega
  rcases this with z | z <;> subst z <;> rfl
theorem pred1 (h : Addr) (d : Nat) : [V.ref h, V.int (((d + 1 : Nat) : Int) - 1)] = [.ref h, .int (d : Int)] := by
  have : ((d + 1 : Nat) : Int) - 1 = (d : Int) := by omega
  rw [this]
theorem ok_law_number {f f1 : Addr} {fd fd1 : FuncData} (T : Txt K mg) (F : DefAt K mg "_law_number" "_law_number" s_law_number ["_law_h", "_law_deep"] f fd) (D_law_tuple : DefAt K mg "_law_tuple" "_law_tuple" s_law_tuple ["_law_h", "_law_deep"] f1 fd1) {n k k1 k2 : Nat} (hk : 1 ≤ k) (hk1 : k1 ≤ k) (hk2 : k2 ≤ k)
    (G_law_number : FnOk P w K mg base CX0 k1 f fd ["_law_h", "_law_deep"] (fun vs H Q E => 1 ≤ n ∧ spDrw K .n lvN (n - 1) vs H Q E)) (G_law_tuple : FnOk P w K mg base CX0 k2 f1 fd1 ["_law_h", "_law_deep"] (fun vs H Q E => 1 ≤ n ∧ spDrw K .t lvT (n - 1) vs H Q E)) :
    FnOk P w K mg base CX0 (k + 1) f fd ["_law_h", "_law_deep"] (spDrw K .n lvN n) := by
  have D_law_number := F
  obtain ⟨f2, fd2, D_law_next⟩ := T.d_law_next
  have G_law_next : FnOk P w K mg base CX0 1 f2 fd2 ["_law_h", "_law_many"] spNext := ok_law_next T D_law_next
  refine F.F.ok sc_law_number (fun vs H Q E h => ?_) (fun cdv A outer z H vs Q E hr h => ?_)
  · obtain ⟨h, c, s, k, cs, d, _, rfl, _⟩ := h
    rfl
  · obtain ⟨h, c, z0, k0, cs, d, dn, rfl, A0, q⟩ := h
    refine ⟨_, (pss_cons (ps_set (i := 2) sc_law_number.nd rfl (.inl rfl) (pe_call G_law_next (hr.mono (by omega)) (by rfl) D_law_next.g D_law_next.F.kp D_law_next.b .nil pass0 (pa_cons (pv 0) (pa_cons pe_int pa_nil))))
      (pss_cons (ps_if (PW.pt (pw_or (pt_cmpR op_eq (pv 1) pe_int (nomark _)) (pw_or1 (pt_cmpR op_lt (pv 2) pe_int (nomark _))))) (pss_one (ps_ret (pe_ix ix_list (pe_lst (pa_cons (pe_tup (pa_cons pe_str (pa_cons (pe_call G_law_next (hr.mono (by omega)) (by rfl) D_law_next.g D_law_next.F.kp D_law_next.b .nil pass0 (pa_cons (pv 0) (pa_cons pe_int pa_nil))) pa_nil))) (pa_cons (pe_tup (pa_cons pe_str (pa_cons (pe_call G_law_next (hr.mono (by omega)) (by rfl) D_law_next.g D_law_next.F.kp D_law_next.b .nil pass0 (pa_cons (pv 0) (pa_cons pe_int pa_nil))) pa_nil))) pa_nil))) (pe_call G_law_next (hr.mono (by omega)) (by rfl) D_law_next.g D_law_next.F.kp D_law_next.b .nil pass0 (pa_cons (pv 0) (pa_cons pe_int pa_nil))) (fun _ _ => rfl)))) pss_nil)
      (pss_cons (ps_if (pt_cmpR op_eq (pv 2) pe_int (nomark _)) (pss_one (ps_ret (pe_tup (pa_cons pe_str (pa_cons (pe_call G_law_number (hr.mono (by omega)) (by rfl) D_law_number.g D_law_number.F.kp D_law_number.b .nil pass0 (pa_cons (pv 0) (pa_cons (pe_op op_sub (pv 1) pe_int) pa_nil))) pa_nil))))) pss_nil)
      (pss_cons (ps_if (pt_cmpR op_eq (pv 2) pe_int (nomark _)) (pss_cons (ps_set (i := 3) sc_law_number.nd rfl (.inl rfl) (pe_call G_law_number (hr.mono (by omega)) (by rfl) D_law_number.g D_law_number.F.kp D_law_number.b .nil pass0 (pa_cons (pv 0) (pa_cons (pe_op op_sub (pv 1) pe_int) pa_nil)))) (pss_cons (ps_set (i := 4) sc_law_number.nd rfl (.inl rfl) (pe_call G_law_number (hr.mono (by omega)) (by rfl) D_law_number.g D_law_number.F.kp D_law_number.b .nil pass0 (pa_cons (pv 0) (pa_cons (pe_op op_sub (pv 1) pe_int) pa_nil)))) (pss_one (ps_ret (pe_tup (pa_cons pe_str (pa_cons (pv 3) (pa_cons (pv 4) (pa_cons (pe_call G_law_number (hr.mono (by omega)) (by rfl) D_law_number.g D_law_number.F.kp D_law_number.b .nil pass0 (pa_cons (pv 0) (pa_cons (pe_op op_sub (pv 1) pe_int) pa_nil))) pa_nil))))))))) pss_nil)
      (pss_cons (ps_if (pt_cmpR op_eq (pv 2) pe_int (nomark _)) (pss_one (ps_ret (pe_tup (pa_cons pe_str (pa_cons (pe_call G_law_tuple (hr.mono (by omega)) (by rfl) D_law_tuple.g D_law_tuple.F.kp D_law_tuple.b .nil pass0 (pa_cons (pv 0) (pa_cons (pe_op op_sub (pv 1) pe_int) pa_nil))) (pa_cons (pe_call G_law_number (hr.mono (by omega)) (by rfl) D_law_number.g D_law_number.F.kp D_law_number.b .nil pass0 (pa_cons (pv 0) (pa_cons (pe_op op_sub (pv 1) pe_int) pa_nil))) pa_nil)))))) pss_nil)
      (pss_cons (ps_set (i := 5) sc_law_number.nd rfl (.inl rfl) (pe_ix ix_list (pe_lst (pa_cons pe_str (pa_cons pe_str pa_nil))) (pe_op op_mod (pv 2) pe_int) (fun _ _ => rfl)))
      (pss_cons (ps_set (i := 4) sc_law_number.nd rfl (.inl rfl) (pe_call G_law_number (hr.mono (by omega)) (by rfl) D_law_number.g D_law_number.F.kp D_law_number.b .nil pass0 (pa_cons (pv 0) (pa_cons (pe_op op_sub (pv 1) pe_int) pa_nil))))
      (pss_one (ps_ret (pe_tup (pa_cons (pv 5) (pa_cons (pv 4) (pa_cons (pe_call G_law_number (hr.mono (by omega)) (by rfl) D_law_number.g D_law_number.F.kp D_law_number.b .nil pass0 (pa_cons (pv 0) (pa_cons (pe_op op_sub (pv 1) pe_int) pa_nil))) pa_nil))))))))))))), ?_⟩
    refine ⟨_, rfl, h, c, _, _, 8, _, rfl, by decide, by decide, A0, fun s1 k1 cs1 way H1 w0 w8 A1 B1 => ?_⟩
    have base_ : ∀ (Q' : VK), (∀ (z' k' : Int) (cs' : List Int) (p : Addr) (f : Fo .n) (H' : Hp), HAt H' h c z' k' cs' → But h c H H' → FoAt K H' p f → Dr d (lvN d) f → Q' (.ref p) H') → True := fun _ _ => True.intro
    refine ⟨_, rfl, rfl, _, rfl, ite2 (fun e => ?_) (fun e => ⟨_, rfl, _, _, rfl, rfl, _, rfl, ite2 (fun e2 => ?_) (fun e2 => ?_)⟩)⟩
    · refine ⟨_, rfl, h, c, _, _, 5, _, rfl, by decide, by decide, A1, fun s2 k2 cs2 a H2 a0 a5 A2 B2 => ⟨(by show 2 ≤ sizeLine; decide), fun t1 n1 => ?_⟩⟩
      have u1 := same_upd (o := .tup [.str "num", .int a]) n1
      refine ⟨_, rfl, h, c, _, _, 3, _, rfl, by decide, by decide, A2.same u1, fun s3 k3 cs3 b H3 b0 b3 A3 B3 => ⟨(by show 2 ≤ sizeLine; decide), fun t2 n2 => ⟨(by show 2 ≤ sizeLine; decide), fun l nl => ?_⟩⟩⟩
      have u2 := same_upd (o := .tup [.str "slot", .int b]) n2
      have u3 := same_upd (o := .lst [.ref t1, .ref t2]) nl
      have lh : l ≠ h := (ne_of_none (u2 _ _ A3.h) nl).symm
      have lc : l ≠ c := (ne_of_none (u2 _ _ A3.c) nl).symm
      have u23 := u2.trans u3
      refine ⟨_, rfl, h, c, _, _, 2, _, rfl, by decide, by decide, A3.same u23, fun s4 k4 cs4 m H4 m0 m2 A4 B4 => ?_⟩
      have tt := B4.tups (A3.same u23)
      have X1 : SqT K H4 t1 [.str "num", .int a] := SqT.keeps (SqT.keeps (SqT.keeps (SqT.of upd_same) (B3.tups (A2.same u1))) (TupsStay.same u23)) tt
      have X2 : SqT K H4 t2 [.str "slot", .int b] := SqT.keeps (SqT.keeps (SqT.of upd_same) (TupsStay.same u3)) tt
      have BB := (((((B1.trans B2).same u1).trans B3).same u23).trans B4)
      refine ⟨l, _, _, _, rfl, rfl, SqL.of (B4 _ _ upd_same lh lc), at2 m0 m2, ?_⟩
      by_cases c0 : m = 0
      · rw [if_pos c0]
        exact q _ _ _ t1 (.num a) _ A4 BB X1 (dr_num ⟨a0, a5⟩ _ _)
      · rw [if_neg c0]
        have eb : (b.toNat : Int) = b := by omega
        refine q _ _ _ t2 (.slot b.toNat) _ A4 BB ?_ (dr_slot (by omega) _ _)
        show SqT K H4 t2 [.str "slot", .int (b.toNat : Int)]
        rw [eb]
        exact X2
    · refine ⟨_, rfl, h, c, _, _, 5, _, rfl, by decide, by decide, A1, fun s2 k2 cs2 a H2 a0 a5 A2 B2 => ⟨(by show 2 ≤ sizeLine; decide), fun t1 n1 => ?_⟩⟩
      have u1 := same_upd (o := .tup [.str "num", .int a]) n1
      refine ⟨_, rfl, h, c, _, _, 3, _, rfl, by decide, by decide, A2.same u1, fun s3 k3 cs3 b H3 b0 b3 A3 B3 => ⟨(by show 2 ≤ sizeLine; decide), fun t2 n2 => ⟨(by show 2 ≤ sizeLine; decide), fun l nl => ?_⟩⟩⟩
      have u2 := same_upd (o := .tup [.str "slot", .int b]) n2
      have u3 := same_upd (o := .lst [.ref t1, .ref t2]) nl
      have lh : l ≠ h := (ne_of_none (u2 _ _ A3.h) nl).symm
      have lc : l ≠ c := (ne_of_none (u2 _ _ A3.c) nl).symm
      have u23 := u2.trans u3
      refine ⟨_, rfl, h, c, _, _, 2, _, rfl, by decide, by decide, A3.same u23, fun s4 k4 cs4 m H4 m0 m2 A4 B4 => ?_⟩
      have tt := B4.tups (A3.same u23)
      have X1 : SqT K H4 t1 [.str "num", .int a] := SqT.keeps (SqT.keeps (SqT.keeps (SqT.of upd_same) (B3.tups (A2.same u1))) (TupsStay.same u23)) tt
      have X2 : SqT K H4 t2 [.str "slot", .int b] := SqT.keeps (SqT.keeps (SqT.of upd_same) (TupsStay.same u3)) tt
      have BB := (((((B1.trans B2).same u1).trans B3).same u23).trans B4)
      refine ⟨l, _, _, _, rfl, rfl, SqL.of (B4 _ _ upd_same lh lc), at2 m0 m2, ?_⟩
      by_cases c0 : m = 0
      · rw [if_pos c0]
        exact q _ _ _ t1 (.num a) _ A4 BB X1 (dr_num ⟨a0, a5⟩ _ _)
      · rw [if_neg c0]
        have eb : (b.toNat : Int) = b := by omega
        refine q _ _ _ t2 (.slot b.toNat) _ A4 BB ?_ (dr_slot (by omega) _ _)
        show SqT K H4 t2 [.str "slot", .int (b.toNat : Int)]
        rw [eb]
        exact X2
    · have d0 : d ≠ 0 := fun z => by
        subst z
        exact e (by decide)
      obtain ⟨d, rfl⟩ : ∃ e, d = e + 1 := ⟨d - 1, by omega⟩
      have l1 := lvN_le d
      have l2 := lvT_le d
      have l3 : lvN d + 1 ≤ lvN (d + 1) ∧ lvT d + 1 ≤ lvN (d + 1) := by
        cases d with
        | zero => exact ⟨by decide, by decide⟩
        | succ d =>
          have e3 : lvN (d + 1 + 1) = d + 4 := rfl
          omega
      -- less
      refine ⟨_, rfl, rfl, _, rfl, ite2 (fun e3 => ?_) (fun e3 => ?_)⟩
      · refine ⟨_, rfl, _, rfl, _, _, rfl, rfl, by omega, h, c, _, _, _, d, by omega, pred1 h d, A1, fun s2 k2 cs2 p2 f2 H2 A2 B2 X2 D2 => ⟨(by show 2 ≤ sizeLine; decide), fun t nt => ?_⟩⟩
        have u := same_upd (o := .tup [.str "less", .ref p2]) nt
        exact q _ _ _ t (.less f2) _ (A2.same u) ((B1.trans B2).same u) ⟨p2, SqT.of upd_same, FoAt.stay (TupsStay.same u) X2⟩ ((dr_less D2).ups l3.1 (Nat.le_refl _))
      refine ⟨_, rfl, rfl, _, rfl, ite2 (fun e4 => ?_) (fun e4 => ?_)⟩
      · refine ⟨_, rfl, _, rfl, _, _, rfl, rfl, by omega, h, c, _, _, _, d, by omega, pred1 h d, A1, fun s2 k2 cs2 p2 f2 H2 A2 B2 X2 D2 => ?_⟩
        refine ⟨_, rfl, _, rfl, _, _, rfl, rfl, by omega, h, c, _, _, _, d, by omega, pred1 h d, A2, fun s3 k3 cs3 p3 f3 H3 A3 B3 X3 D3 => ?_⟩
        have X2 := FoAt.stay (B3.tups A2) X2
        refine ⟨_, rfl, _, rfl, _, rfl, _, rfl, _, _, rfl, rfl, by omega, h, c, _, _, _, d, by omega, pred1 h d, A3, fun s4 k4 cs4 p4 f4 H4 A4 B4 X4 D4 => ⟨(by show 4 ≤ sizeLine; decide), fun t nt => ?_⟩⟩
        have tt := B4.tups A3
        have u := same_upd (o := .tup [.str "where", .ref p2, .ref p3, .ref p4]) nt
        have tu := TupsStay.same u
        exact q _ _ _ t (.whr f2 f3 f4) _ (A4.same u) ((((B1.trans B2).trans B3).trans B4).same u) ⟨p2, p3, p4, SqT.of upd_same, FoAt.stay tu (FoAt.stay tt X2), FoAt.stay tu (FoAt.stay tt X3), FoAt.stay tu X4⟩ ((dr_whr D2 D3 D4).ups l3.1 (Nat.le_refl _))
      refine ⟨_, rfl, rfl, _, rfl, ite2 (fun e5 => ?_) (fun e5 => ?_)⟩
      · refine ⟨_, rfl, _, rfl, _, _, rfl, rfl, by omega, h, c, _, _, _, d, by omega, pred1 h d, A1, fun s2 k2 cs2 p2 f2 H2 A2 B2 X2 D2 => ?_⟩
        refine ⟨_, rfl, _, rfl, _, _, rfl, rfl, by omega, h, c, _, _, _, d, by omega, pred1 h d, A2, fun s3 k3 cs3 p3 f3 H3 A3 B3 X3 D3 => ⟨(by show 3 ≤ sizeLine; decide), fun t nt => ?_⟩⟩
        have X2 := FoAt.stay (B3.tups A2) X2
        have u := same_upd (o := .tup [.str "with", .ref p2, .ref p3]) nt
        have tu := TupsStay.same u
        have lv : ∃ m, lvN d ≤ m ∧ lvT d ≤ m ∧ m + 1 ≤ lvN (d + 1) := ⟨max (lvN d) (lvT d), by omega, by omega, by omega⟩
        obtain ⟨m, m1, m2, m3⟩ := lv
        exact q _ _ _ t (.wth f2 f3) _ (A3.same u) (((B1.trans B2).trans B3).same u) ⟨p2, p3, SqT.of upd_same, FoAt.stay tu X2, FoAt.stay tu X3⟩ ((dr_wth (D2.ups m2 (Nat.le_refl _)) (D3.ups m1 (Nat.le_refl _))).ups m3 (Nat.le_refl _))
      refine ⟨(by show 2 ≤ sizeLine; decide), fun lw nlw => ?_⟩
      have uw := same_upd (o := .lst [.str "add", .str "times"]) nlw
      refine ⟨_, rfl, _, _, rfl, rfl, (by decide : (0 : Int) < 2), lw, _, _, _, rfl, rfl, SqL.of upd_same, at2 (by omega) (by omega), ?_⟩
      have A1 := A1.same uw
      have B1 := B1.same uw
      generalize upd H1 lw (.lst [.str "add", .str "times"]) = Hw at *
      refine ⟨_, rfl, _, rfl, _, _, rfl, rfl, by omega, h, c, _, _, _, d, by omega, pred1 h d, A1, fun s2 k2 cs2 p2 f2 H2 A2 B2 X2 D2 => ?_⟩
      refine ⟨_, rfl, _, rfl, _, rfl, _, rfl, _, _, rfl, rfl, by omega, h, c, _, _, _, d, by omega, pred1 h d, A2, fun s3 k3 cs3 p3 f3 H3 A3 B3 X3 D3 => ⟨(by show 3 ≤ sizeLine; decide), fun t nt => ?_⟩⟩
      have X2 := FoAt.stay (B3.tups A2) X2
      by_cases c0 : way % 2 = 0
      · have ew : (if way % 2 = 0 then V.str "add" else V.str "times") = V.str "add" := if_pos c0
        rw [ew]
        have u := same_upd (o := .tup [.str "add", .ref p2, .ref p3]) nt
        have tu := TupsStay.same u
        exact q _ _ _ t (.add f2 f3) _ (A3.same u) (((B1.trans B2).trans B3).same u) ⟨p2, p3, SqT.of upd_same, FoAt.stay tu X2, FoAt.stay tu X3⟩ ((dr_add D2 D3).ups l3.1 (Nat.le_refl _))
      · have ew : (if way % 2 = 0 then V.str "add" else V.str "times") = V.str "times" := if_neg c0
        rw [ew]
        have u := same_upd (o := .tup [.str "times", .ref p2, .ref p3]) nt
        have tu := TupsStay.same u
        exact q _ _ _ t (.mul f2 f3) _ (A3.same u) (((B1.trans B2).trans B3).same u) ⟨p2, p3, SqT.of upd_same, FoAt.stay tu X2, FoAt.stay tu X3⟩ ((dr_mul D2 D3).ups l3.1 (Nat.le_refl _))
end
section
variable {P : Program} {w : World} {K : PySem.W.Frag} {mg : Str → Option Value} {base : Heap}
theorem ok_law_rowed {f f1 : Addr} {fd fd1 : FuncData} (T : Txt K mg) (F : DefAt K mg "_law_rowed" "_law_rowed" s_law_rowed ["_law_h", "_law_deep"] f fd) (D_law_number : DefAt K mg "_law_number" "_law_number" s_law_number ["_law_h", "_law_deep"] f1 fd1) {n k k1 k2 : Nat} (hk : 1 ≤ k) (hk1 : k1 ≤ k) (hk2 : k2 ≤ k)
    (G_law_rowed : FnOk P w K mg base CX0 k1 f fd ["_law_h", "_law_deep"] (fun vs H Q E => 1 ≤ n ∧ spDrw K .r lvR (n - 1) vs H Q E)) (G_law_number : FnOk P w K mg base CX0 k2 f1 fd1 ["_law_h", "_law_deep"] (spDrw K .n lvN n)) :
    FnOk P w K mg base CX0 (k + 1) f fd ["_law_h", "_law_deep"] (spDrw K .r lvR n) := by
  have D_law_rowed := F
  obtain ⟨f2, fd2, D_law_next⟩ := T.d_law_next
  have G_law_next : FnOk P w K mg base CX0 1 f2 fd2 ["_law_h", "_law_many"] spNext := ok_law_next T D_law_next
  refine F.F.ok sc_law_rowed (fun vs H Q E h => ?_) (fun cdv A outer z H vs Q E hr h => ?_)
  · obtain ⟨h, c, s, k, cs, d, _, rfl, _⟩ := h
    rfl
  · obtain ⟨h, c, z0, k0, cs, d, dn, rfl, A0, q⟩ := h
    refine ⟨_, (pss_cons (ps_set (i := 2) sc_law_rowed.nd rfl (.inl rfl) (pe_call G_law_next (hr.mono (by omega)) (by rfl) D_law_next.g D_law_next.F.kp D_law_next.b .nil pass0 (pa_cons (pv 0) (pa_cons pe_int pa_nil))))
      (pss_cons (ps_if (PW.pt (pw_or (pt_cmpR op_eq (pv 1) pe_int (nomark _)) (pw_or1 (pt_cmpR op_eq (pv 2) pe_int (nomark _))))) (pss_one (ps_ret (pe_ix ix_list (pe_lst (pa_cons (pe_tup (pa_cons pe_str pa_nil)) (pa_cons (pe_tup (pa_cons pe_str (pa_cons pe_int pa_nil))) pa_nil))) (pe_call G_law_next (hr.mono (by omega)) (by rfl) D_law_next.g D_law_next.F.kp D_law_next.b .nil pass0 (pa_cons (pv 0) (pa_cons pe_int pa_nil))) (fun _ _ => rfl)))) pss_nil)
      (pss_cons (ps_set (i := 3) sc_law_rowed.nd rfl (.inl rfl) (pe_call G_law_rowed (hr.mono (by omega)) (by rfl) D_law_rowed.g D_law_rowed.F.kp D_law_rowed.b .nil pass0 (pa_cons (pv 0) (pa_cons (pe_op op_sub (pv 1) pe_int) pa_nil))))
      (pss_cons (ps_if (pt_cmpR op_lt (pv 2) pe_int (nomark _)) (pss_one (ps_ret (pe_tup (pa_cons pe_str (pa_cons (pv 3) (pa_cons (pe_call G_law_number (hr.mono (by omega)) (by rfl) D_law_number.g D_law_number.F.kp D_law_number.b .nil pass0 (pa_cons (pv 0) (pa_cons (pe_op op_sub (pv 1) pe_int) pa_nil))) pa_nil)))))) pss_nil)
      (pss_one (ps_ret (pe_tup (pa_cons pe_str (pa_cons (pe_call G_law_number (hr.mono (by omega)) (by rfl) D_law_number.g D_law_number.F.kp D_law_number.b .nil pass0 (pa_cons (pv 0) (pa_cons pe_int pa_nil))) (pa_cons (pv 3) (pa_cons (pe_call G_law_rowed (hr.mono (by omega)) (by rfl) D_law_rowed.g D_law_rowed.F.kp D_law_rowed.b .nil pass0 (pa_cons (pv 0) (pa_cons pe_int pa_nil))) pa_nil))))))))))), ?_⟩
    refine ⟨_, rfl, h, c, _, _, 4, _, rfl, by decide, by decide, A0, fun s1 k1 cs1 way H1 w0 w4 A1 B1 => ?_⟩
    refine ⟨_, rfl, rfl, _, rfl, ite2 (fun e => ?_) (fun e => ⟨_, rfl, rfl, _, rfl, ite2 (fun e2 => ?_) (fun e2 => ?_)⟩)⟩
    · refine ⟨(by show 1 ≤ sizeLine; decide), fun t1 n1 => ⟨(by show 2 ≤ sizeLine; decide), fun t2 n2 => ⟨(by show 2 ≤ sizeLine; decide), fun l nl => ?_⟩⟩⟩
      have u1 := same_upd (o := .tup [.str "none"]) n1
      have u2 := same_upd (o := .tup [.str "slot", .int 3]) n2
      have u3 := same_upd (o := .lst [.ref t1, .ref t2]) nl
      have u23 := u2.trans u3
      have u := u1.trans u23
      have lh : l ≠ h := (ne_of_none ((u1.trans u2) _ _ A1.h) nl).symm
      have lc : l ≠ c := (ne_of_none ((u1.trans u2) _ _ A1.c) nl).symm
      refine ⟨_, rfl, h, c, _, _, 2, _, rfl, by decide, by decide, A1.same u, fun s4 k4 cs4 m H4 m0 m2 A4 B4 => ?_⟩
      have tt := B4.tups (A1.same u)
      have X1 : SqT K H4 t1 [.str "none"] := SqT.keeps (SqT.keeps (SqT.of upd_same) (TupsStay.same u23)) tt
      have X2 : SqT K H4 t2 [.str "slot", .int 3] := SqT.keeps (SqT.keeps (SqT.of upd_same) (TupsStay.same u3)) tt
      have BB := (B1.same u).trans B4
      refine ⟨l, _, _, _, rfl, rfl, SqL.of (B4 _ _ upd_same lh lc), at2 m0 m2, ?_⟩
      by_cases c0 : m = 0
      · rw [if_pos c0]
        exact q _ _ _ t1 .none _ A4 BB X1 (dr_none _ _)
      · rw [if_neg c0]
        exact q _ _ _ t2 .slot3 _ A4 BB X2 (dr_slot3 _ _)
    · refine ⟨(by show 1 ≤ sizeLine; decide), fun t1 n1 => ⟨(by show 2 ≤ sizeLine; decide), fun t2 n2 => ⟨(by show 2 ≤ sizeLine; decide), fun l nl => ?_⟩⟩⟩
      have u1 := same_upd (o := .tup [.str "none"]) n1
      have u2 := same_upd (o := .tup [.str "slot", .int 3]) n2
      have u3 := same_upd (o := .lst [.ref t1, .ref t2]) nl
      have u23 := u2.trans u3
      have u := u1.trans u23
      have lh : l ≠ h := (ne_of_none ((u1.trans u2) _ _ A1.h) nl).symm
      have lc : l ≠ c := (ne_of_none ((u1.trans u2) _ _ A1.c) nl).symm
      refine ⟨_, rfl, h, c, _, _, 2, _, rfl, by decide, by decide, A1.same u, fun s4 k4 cs4 m H4 m0 m2 A4 B4 => ?_⟩
      have tt := B4.tups (A1.same u)
      have X1 : SqT K H4 t1 [.str "none"] := SqT.keeps (SqT.keeps (SqT.of upd_same) (TupsStay.same u23)) tt
      have X2 : SqT K H4 t2 [.str "slot", .int 3] := SqT.keeps (SqT.keeps (SqT.of upd_same) (TupsStay.same u3)) tt
      have BB := (B1.same u).trans B4
      refine ⟨l, _, _, _, rfl, rfl, SqL.of (B4 _ _ upd_same lh lc), at2 m0 m2, ?_⟩
      by_cases c0 : m = 0
      · rw [if_pos c0]
        exact q _ _ _ t1 .none _ A4 BB X1 (dr_none _ _)
      · rw [if_neg c0]
        exact q _ _ _ t2 .slot3 _ A4 BB X2 (dr_slot3 _ _)
    · have d0 : d ≠ 0 := fun z => by
        subst z
        exact e (by decide)
      obtain ⟨d, rfl⟩ : ∃ e, d = e + 1 := ⟨d - 1, by omega⟩
      have l1 := lvN_le d
      have l2 := lvR_le d
      have l3 : lvR (d + 1) = d + 3 := rfl
      refine ⟨_, rfl, _, rfl, _, _, rfl, rfl, by omega, h, c, _, _, _, d, by omega, pred1 h d, A1, fun s2 k2 cs2 p2 f2 H2 A2 B2 X2 D2 => ?_⟩
      refine ⟨_, rfl, _, _, rfl, rfl, _, rfl, ite2 (fun e3 => ?_) (fun e3 => ?_)⟩
      · refine ⟨_, rfl, _, rfl, _, rfl, _, _, rfl, rfl, h, c, _, _, _, d, by omega, pred1 h d, A2, fun s3 k3 cs3 p3 f3 H3 A3 B3 X3 D3 => ⟨(by show 3 ≤ sizeLine; decide), fun t nt => ?_⟩⟩
        have X2 := FoAt.stay (B3.tups A2) X2
        have u := same_upd (o := .tup [.str "more", .ref p2, .ref p3]) nt
        have tu := TupsStay.same u
        exact q _ _ _ t (.more f2 f3) _ (A3.same u) (((B1.trans B2).trans B3).same u) ⟨p2, p3, SqT.of upd_same, FoAt.stay tu X2, FoAt.stay tu X3⟩ ((dr_more (D2.ups (lv' := d + 2) l2 (Nat.le_refl _)) (D3.ups l1 (Nat.le_refl _))).ups (by omega) (Nat.le_refl _))
      · refine ⟨_, rfl, h, c, _, _, _, 1, by omega, rfl, A2, fun s3 k3 cs3 p3 f3 H3 A3 B3 X3 D3 => ?_⟩
        have X2 := FoAt.stay (B3.tups A2) X2
        refine ⟨_, rfl, _, rfl, by omega, h, c, _, _, _, 0, by omega, rfl, A3, fun s4 k4 cs4 p4 f4 H4 A4 B4 X4 D4 => ⟨(by show 4 ≤ sizeLine; decide), fun t nt => ?_⟩⟩
        have tt := B4.tups A3
        have u := same_upd (o := .tup [.str "where", .ref p3, .ref p2, .ref p4]) nt
        have tu := TupsStay.same u
        exact q _ _ _ t (.whr f3 f2 f4) _ (A4.same u) ((((B1.trans B2).trans B3).trans B4).same u) ⟨p3, p2, p4, SqT.of upd_same, FoAt.stay tu (FoAt.stay tt X3), FoAt.stay tu (FoAt.stay tt X2), FoAt.stay tu X4⟩ ((dr_whrU (lv := d + 2) (D3.ups (show 2 ≤ d + 2 by omega) (by omega)) (D2.ups l2 (Nat.le_refl _)) (D4.ups (Nat.zero_le _) (Nat.zero_le _))).ups (by omega) (Nat.le_refl _))
end
section
variable {P : Program} {w : World} {K : PySem.W.Frag} {mg : Str → Option Value} {base : Heap}
theorem maxpred (h : Addr) (d : Nat) : [V.ref h, V.int (if (d : Int) - 1 > 0 then (d : Int) - 1 else 0)] = [.ref h, .int ((d - 1 : Nat) : Int)] := by
  have : (if (d : Int) - 1 > 0 then (d : Int) - 1 else 0) = ((d - 1 : Nat) : Int) := by split <;> omega
  rw [this]
theorem ok_law_tuple {f f1 f2 : Addr} {fd fd1 fd2 : FuncData} (T : Txt K mg) (F : DefAt K mg "_law_tuple" "_law_tuple" s_law_tuple ["_law_h", "_law_deep"] f fd) (D_law_number : DefAt K mg "_law_number" "_law_number" s_law_number ["_law_h", "_law_deep"] f1 fd1) (D_law_rowed : DefAt K mg "_law_rowed" "_law_rowed" s_law_rowed ["_law_h", "_law_deep"] f2 fd2) {n k k1 k2 k3 : Nat} (hk : 2 ≤ k) (hk1 : k1 ≤ k) (hk2 : k2 ≤ k) (hk3 : k3 ≤ k)
    (G_law_tuple : FnOk P w K mg base CX0 k1 f fd ["_law_h", "_law_deep"] (fun vs H Q E => 1 ≤ n ∧ spDrw K .t lvT (n - 1) vs H Q E)) (G_law_number : FnOk P w K mg base CX0 k2 f1 fd1 ["_law_h", "_law_deep"] (spDrw K .n lvN n)) (G_law_rowed : FnOk P w K mg base CX0 k3 f2 fd2 ["_law_h", "_law_deep"] (spDrw K .r lvR n)) :
    FnOk P w K mg base CX0 (k + 1) f fd ["_law_h", "_law_deep"] (spDrw K .t lvT n) := by
  have D_law_tuple := F
  obtain ⟨f3, fd3, D_law_next⟩ := T.d_law_next
  have G_law_next : FnOk P w K mg base CX0 1 f3 fd3 ["_law_h", "_law_many"] spNext := ok_law_next T D_law_next
  obtain ⟨f4, fd4, D_law_flat⟩ := T.d_law_flat
  have G_law_flat : FnOk P w K mg base CX0 2 f4 fd4 ["_law_h"] (spFlat K) := ok_law_flat T D_law_flat
  refine F.F.ok sc_law_tuple (fun vs H Q E h => ?_) (fun cdv A outer z H vs Q E hr h => ?_)
  · obtain ⟨h, c, s, k, cs, d, _, rfl, _⟩ := h
    rfl
  · obtain ⟨h, c, z0, k0, cs, d, dn, rfl, A0, q⟩ := h
    refine ⟨_, (pss_cons (ps_set (i := 2) sc_law_tuple.nd rfl (.inl rfl) (pe_call G_law_next (hr.mono (by omega)) (by rfl) D_law_next.g D_law_next.F.kp D_law_next.b .nil pass0 (pa_cons (pv 0) (pa_cons pe_int pa_nil))))
      (pss_cons (ps_if (PW.pt (pw_or (pt_cmpR op_eq (pv 1) pe_int (nomark _)) (pw_or1 (pt_cmpR op_lt (pv 2) pe_int (nomark _))))) (pss_cons (ps_setLc (i := 3) (own := [("_law_k", 6)]) (g := gName 6) (tt := tYes) rfl sc_law_tuple.nd rfl rfl (sw_true rfl rfl rfl (by decide +kernel)) (pi_range1 rfl T.m_range (pa_cons pe_int pa_nil)) (blkOk_by (own := [("_law_k", 6)]) (N := ["_law_h", "_law_deep", "_law_way", "_law_parts", "_law_one", "_law_many", "_law_k"]) (sc := defScope s_law_tuple) (by decide +kernel)) (fun _ _ _ _ _ => pg_name (i := 6) sc_law_tuple.nd rfl (.inl rfl)) (fun _ _ _ _ _ => pts_nil) (fun _ _ _ _ _ => (pe_call G_law_number (hr.mono (by omega)) (by rfl) D_law_number.g D_law_number.F.kp D_law_number.b .nil pass0 (pa_cons (pv 0) (pa_cons (pe_callB (call_max2 rfl) (by rfl) T.m_max (by decide +kernel) (pa_cons pe_int (pa_cons (pe_op op_sub (pv 1) pe_int) pa_nil))) pa_nil))))) (pss_one (ps_ret (pe_tup (pa_cons pe_str (pa_cons (pe_op op_catT (pe_tupleOf (by rfl) T.m_tuple (pv 3)) (pe_tup (pa_cons (pe_call G_law_rowed (hr.mono (by omega)) (by rfl) D_law_rowed.g D_law_rowed.F.kp D_law_rowed.b .nil pass0 (pa_cons (pv 0) (pa_cons (pe_callB (call_max2 rfl) (by rfl) T.m_max (by decide +kernel) (pa_cons pe_int (pa_cons (pe_op op_sub (pv 1) pe_int) pa_nil))) pa_nil))) pa_nil))) pa_nil)))))) pss_nil)
      (pss_cons (ps_set (i := 4) sc_law_tuple.nd rfl (.inl rfl) (pe_call G_law_tuple (hr.mono (by omega)) (by rfl) D_law_tuple.g D_law_tuple.F.kp D_law_tuple.b .nil pass0 (pa_cons (pv 0) (pa_cons (pe_op op_sub (pv 1) pe_int) pa_nil))))
      (pss_cons (ps_if (pt_cmpR op_eq (pv 2) pe_int (nomark _)) (pss_one (ps_ret (pe_tup (pa_cons pe_str (pa_cons (pv 4) (pa_cons (pe_call G_law_tuple (hr.mono (by omega)) (by rfl) D_law_tuple.g D_law_tuple.F.kp D_law_tuple.b .nil pass0 (pa_cons (pv 0) (pa_cons (pe_op op_sub (pv 1) pe_int) pa_nil))) pa_nil)))))) pss_nil)
      (pss_cons (ps_if (pt_cmpR op_eq (pv 2) pe_int (nomark _)) (pss_one (ps_ret (pe_tup (pa_cons pe_str (pa_cons (pe_call G_law_number (hr.mono (by omega)) (by rfl) D_law_number.g D_law_number.F.kp D_law_number.b .nil pass0 (pa_cons (pv 0) (pa_cons pe_int pa_nil))) (pa_cons (pv 4) (pa_cons (pe_call G_law_tuple (hr.mono (by omega)) (by rfl) D_law_tuple.g D_law_tuple.F.kp D_law_tuple.b .nil pass0 (pa_cons (pv 0) (pa_cons pe_int pa_nil))) pa_nil))))))) pss_nil)
      (pss_cons (ps_set (i := 5) sc_law_tuple.nd rfl (.inl rfl) (pe_lst (pa_cons (pe_tup (pa_cons pe_str (pa_cons (pe_call G_law_next (hr.mono (by omega)) (by rfl) D_law_next.g D_law_next.F.kp D_law_next.b .nil pass0 (pa_cons (pv 0) (pa_cons pe_int pa_nil))) pa_nil))) (pa_cons (pe_tup (pa_cons pe_str (pa_cons (pe_tup (pa_cons pe_str (pa_cons (pe_call G_law_next (hr.mono (by omega)) (by rfl) D_law_next.g D_law_next.F.kp D_law_next.b .nil pass0 (pa_cons (pv 0) (pa_cons pe_int pa_nil))) pa_nil))) pa_nil))) pa_nil))))
      (pss_cons (ps_expr (pe_bm PySem.F.plainAttrs_list PySem.F.slot_list_append PySem.F.type_list_append mt_append (pv 5) (pa_cons (pe_tup (pa_cons pe_str (pa_cons (pe_tup (pa_cons pe_str (pa_cons pe_int pa_nil))) (pa_cons (pe_tup (pa_cons pe_str (pa_cons pe_int pa_nil))) (pa_cons (pe_tup (pa_cons pe_str (pa_cons pe_int pa_nil))) pa_nil))))) pa_nil)))
      (pss_one (ps_ret (pe_tup (pa_cons pe_str (pa_cons (pe_ix ix_list (pv 5) (pe_call G_law_next (hr.mono (by omega)) (by rfl) D_law_next.g D_law_next.F.kp D_law_next.b .nil pass0 (pa_cons (pv 0) (pa_cons pe_int pa_nil))) (fun _ _ => rfl)) (pa_cons (pv 4) (pa_cons (pe_call G_law_flat (hr.mono (by omega)) (by rfl) D_law_flat.g D_law_flat.F.kp D_law_flat.b .nil pass0 (pa_cons (pv 0) pa_nil)) pa_nil)))))))))))))), ?_⟩
    refine ⟨_, rfl, h, c, _, _, 5, _, rfl, by decide, by decide, A0, fun s1 k1 cs1 way H1 w0 w5 A1 B1 => ?_⟩
    have LT : lvN (d - 1) + 1 ≤ lvT d ∧ lvR (d - 1) + 1 ≤ lvT d := by
      cases d with
      | zero => exact ⟨by decide, by decide⟩
      | succ d =>
        have a := lvN_le d
        have b := lvR_le d
        have e : lvT (d + 1) = d + 3 := rfl
        rw [Nat.add_sub_cancel]
        omega
    refine ⟨_, rfl, rfl, _, rfl, ite2 (fun e => ?_) (fun e => ⟨_, rfl, _, _, rfl, rfl, _, rfl, ite2 (fun e2 => ?_) (fun e2 => ?_)⟩)⟩
    · refine ⟨3, rfl, by decide, by decide, fun D nD => lc_range (lo := 0) (n := 3) (fun i Hx => ∃ (s k : Int) (cs : List Int) (qs : List Addr) (fs : List (Fo .n)), HAt Hx h c s k cs ∧ But h c H1 Hx ∧ Hx D = some (.lst (qs.map V.ref)) ∧ Paired (fun q f => FoAt K Hx q f) qs fs ∧ (∀ f ∈ fs, Dr (d - 1) (lvN (d - 1)) f) ∧ fs.length = i)
        ⟨_, _, _, [], [], A1.same (same_upd nD), Same.but (same_upd nD), upd_same, .nil, (fun _ h => nomatch h), rfl⟩ (fun i Hx hi hh => ?_) (fun Hx hh => ?_)⟩
      · obtain ⟨s2, k2, cs2, qs, fs, A2, B2, el, pf, sm, fl⟩ := hh
        have dh : D ≠ h := (ne_of_none A1.h nD).symm
        have dc : D ≠ c := (ne_of_none A1.c nD).symm
        have lq : qs.length = i := by
          rw [← fl]
          clear fl sm el hi
          induction pf with
          | nil => rfl
          | cons _ _ ih => rw [List.length_cons, List.length_cons, ih]
        refine ⟨rfl, _, rfl, _, rfl, _, _, rfl, rfl, _, _, rfl, h, c, _, _, _, d - 1, by omega, maxpred h d, A2, fun s3 k3 cs3 p3 f3 H3 A3 B3 X3 D3 => ?_⟩
        have tt : TupsStay H3 (upd H3 D (.lst (qs.map V.ref ++ [.ref p3]))) := .upd (B3 _ _ el dh dc) True.intro
        refine ⟨_, B3 _ _ el dh dc, by rw [List.length_map, lq, sizeLine_eq]; omega, _, _, _, qs ++ [p3], fs ++ [f3], A3.set dh dc, But.upd (B2.trans B3) nD, by rw [upd_same, List.map_append]; rfl, Paired.snoc (FoAt.stay tt X3) (Paired.mapP pf fun _ _ z => FoAt.stay tt (FoAt.stay (B3.tups A2) z)), fun x hx => ?_, by rw [List.length_append, List.length_singleton, fl]⟩
        rcases List.mem_append.mp hx with z | z
        · exact sm x z
        · have : x = f3 := by simpa using z
          rw [this]
          exact D3
      · obtain ⟨s2, k2, cs2, qs, fs, A2, B2, el, pf, sm, fl⟩ := hh
        have dh : D ≠ h := (ne_of_none A1.h nD).symm
        have dc : D ≠ c := (ne_of_none A1.c nD).symm
        obtain ⟨g1, g2, g3, rfl⟩ : ∃ a b c, fs = [a, b, c] := by
          match fs, fl with
          | [a, b, c], _ => exact ⟨a, b, c, rfl⟩
        cases pf with
        | cons x1 r1 =>
        cases r1 with
        | cons x2 r2 =>
        cases r2 with
        | cons x3 r3 =>
        cases r3
        rename_i q1 q2 q3
        have d1 := sm g1 (by simp)
        have d2 := sm g2 (by simp)
        have d3 := sm g3 (by simp)
        refine ⟨_, rfl, .inl ⟨D, _, rfl, SqL.of el, fun t6 n6 => ?_⟩⟩
        have w1 := same_upd (o := .tup ([q1, q2, q3].map V.ref)) n6
        have Z1 : SqT K (upd Hx t6 (.tup ([q1, q2, q3].map V.ref))) t6 ([q1, q2, q3].map V.ref) := SqT.of upd_same
        have A3 := A2.same w1
        have B3 := (B1.trans B2).same w1
        have x1 := FoAt.stay (TupsStay.same w1) x1
        have x2 := FoAt.stay (TupsStay.same w1) x2
        have x3 := FoAt.stay (TupsStay.same w1) x3
        generalize upd Hx t6 (.tup ([q1, q2, q3].map V.ref)) = Hy at *
        refine ⟨_, rfl, _, rfl, _, _, rfl, rfl, _, _, rfl, h, c, _, _, _, d - 1, by omega, maxpred h d, A3, fun s4 k4 cs4 p4 f4 H4 A4 B4 X4 D4 => ⟨(by show 1 ≤ sizeLine; decide), fun t7 n7 => ?_⟩⟩
        have tt := B4.tups A3
        have w2 := same_upd (o := .tup [.ref p4]) n7
        refine ⟨t6, t7, _, _, rfl, rfl, SqT.keeps (SqT.keeps Z1 tt) (TupsStay.same w2), SqT.of upd_same, (by intro z; cases z), (by show 3 + 1 ≤ sizeLine; decide), (fun z => nomatch z), fun _ t8 n8 => ⟨(by show 2 ≤ sizeLine; decide), fun t9 n9 => ?_⟩⟩
        have w3 := same_upd (o := .tup ([q1, q2, q3].map V.ref ++ [.ref p4])) n8
        have w4 := same_upd (o := .tup [.str "tuple", .ref t8]) n9
        have w := w2.trans (w3.trans w4)
        have tw := TupsStay.same w
        have m1 := d1.ups (lv' := lvT d - 1) (by omega) (Nat.le_refl _)
        have m2 := d2.ups (lv' := lvT d - 1) (by omega) (Nat.le_refl _)
        have m3 := d3.ups (lv' := lvT d - 1) (by omega) (Nat.le_refl _)
        have m4 := D4.ups (lv' := lvT d - 1) (by omega) (Nat.le_refl _)
        exact q _ _ _ t9 (.tup g1 g2 g3 f4) _ (A4.same w) ((B3.trans B4).same w) ⟨t8, q1, q2, q3, p4, SqT.of upd_same, SqT.keeps (SqT.of upd_same) (TupsStay.same w4), FoAt.stay tw (FoAt.stay tt x1), FoAt.stay tw (FoAt.stay tt x2), FoAt.stay tw (FoAt.stay tt x3), FoAt.stay tw X4⟩ ((dr_tup m1 m2 m3 m4).ups (by omega) (Nat.sub_le _ _))
    · refine ⟨3, rfl, by decide, by decide, fun D nD => lc_range (lo := 0) (n := 3) (fun i Hx => ∃ (s k : Int) (cs : List Int) (qs : List Addr) (fs : List (Fo .n)), HAt Hx h c s k cs ∧ But h c H1 Hx ∧ Hx D = some (.lst (qs.map V.ref)) ∧ Paired (fun q f => FoAt K Hx q f) qs fs ∧ (∀ f ∈ fs, Dr (d - 1) (lvN (d - 1)) f) ∧ fs.length = i)
        ⟨_, _, _, [], [], A1.same (same_upd nD), Same.but (same_upd nD), upd_same, .nil, (fun _ h => nomatch h), rfl⟩ (fun i Hx hi hh => ?_) (fun Hx hh => ?_)⟩
      · obtain ⟨s2, k2, cs2, qs, fs, A2, B2, el, pf, sm, fl⟩ := hh
        have dh : D ≠ h := (ne_of_none A1.h nD).symm
        have dc : D ≠ c := (ne_of_none A1.c nD).symm
        have lq : qs.length = i := by
          rw [← fl]
          clear fl sm el hi
          induction pf with
          | nil => rfl
          | cons _ _ ih => rw [List.length_cons, List.length_cons, ih]
        refine ⟨rfl, _, rfl, _, rfl, _, _, rfl, rfl, _, _, rfl, h, c, _, _, _, d - 1, by omega, maxpred h d, A2, fun s3 k3 cs3 p3 f3 H3 A3 B3 X3 D3 => ?_⟩
        have tt : TupsStay H3 (upd H3 D (.lst (qs.map V.ref ++ [.ref p3]))) := .upd (B3 _ _ el dh dc) True.intro
        refine ⟨_, B3 _ _ el dh dc, by rw [List.length_map, lq, sizeLine_eq]; omega, _, _, _, qs ++ [p3], fs ++ [f3], A3.set dh dc, But.upd (B2.trans B3) nD, by rw [upd_same, List.map_append]; rfl, Paired.snoc (FoAt.stay tt X3) (Paired.mapP pf fun _ _ z => FoAt.stay tt (FoAt.stay (B3.tups A2) z)), fun x hx => ?_, by rw [List.length_append, List.length_singleton, fl]⟩
        rcases List.mem_append.mp hx with z | z
        · exact sm x z
        · have : x = f3 := by simpa using z
          rw [this]
          exact D3
      · obtain ⟨s2, k2, cs2, qs, fs, A2, B2, el, pf, sm, fl⟩ := hh
        have dh : D ≠ h := (ne_of_none A1.h nD).symm
        have dc : D ≠ c := (ne_of_none A1.c nD).symm
        obtain ⟨g1, g2, g3, rfl⟩ : ∃ a b c, fs = [a, b, c] := by
          match fs, fl with
          | [a, b, c], _ => exact ⟨a, b, c, rfl⟩
        cases pf with
        | cons x1 r1 =>
        cases r1 with
        | cons x2 r2 =>
        cases r2 with
        | cons x3 r3 =>
        cases r3
        rename_i q1 q2 q3
        have d1 := sm g1 (by simp)
        have d2 := sm g2 (by simp)
        have d3 := sm g3 (by simp)
        refine ⟨_, rfl, .inl ⟨D, _, rfl, SqL.of el, fun t6 n6 => ?_⟩⟩
        have w1 := same_upd (o := .tup ([q1, q2, q3].map V.ref)) n6
        have Z1 : SqT K (upd Hx t6 (.tup ([q1, q2, q3].map V.ref))) t6 ([q1, q2, q3].map V.ref) := SqT.of upd_same
        have A3 := A2.same w1
        have B3 := (B1.trans B2).same w1
        have x1 := FoAt.stay (TupsStay.same w1) x1
        have x2 := FoAt.stay (TupsStay.same w1) x2
        have x3 := FoAt.stay (TupsStay.same w1) x3
        generalize upd Hx t6 (.tup ([q1, q2, q3].map V.ref)) = Hy at *
        refine ⟨_, rfl, _, rfl, _, _, rfl, rfl, _, _, rfl, h, c, _, _, _, d - 1, by omega, maxpred h d, A3, fun s4 k4 cs4 p4 f4 H4 A4 B4 X4 D4 => ⟨(by show 1 ≤ sizeLine; decide), fun t7 n7 => ?_⟩⟩
        have tt := B4.tups A3
        have w2 := same_upd (o := .tup [.ref p4]) n7
        refine ⟨t6, t7, _, _, rfl, rfl, SqT.keeps (SqT.keeps Z1 tt) (TupsStay.same w2), SqT.of upd_same, (by intro z; cases z), (by show 3 + 1 ≤ sizeLine; decide), (fun z => nomatch z), fun _ t8 n8 => ⟨(by show 2 ≤ sizeLine; decide), fun t9 n9 => ?_⟩⟩
        have w3 := same_upd (o := .tup ([q1, q2, q3].map V.ref ++ [.ref p4])) n8
        have w4 := same_upd (o := .tup [.str "tuple", .ref t8]) n9
        have w := w2.trans (w3.trans w4)
        have tw := TupsStay.same w
        have m1 := d1.ups (lv' := lvT d - 1) (by omega) (Nat.le_refl _)
        have m2 := d2.ups (lv' := lvT d - 1) (by omega) (Nat.le_refl _)
        have m3 := d3.ups (lv' := lvT d - 1) (by omega) (Nat.le_refl _)
        have m4 := D4.ups (lv' := lvT d - 1) (by omega) (Nat.le_refl _)
        exact q _ _ _ t9 (.tup g1 g2 g3 f4) _ (A4.same w) ((B3.trans B4).same w) ⟨t8, q1, q2, q3, p4, SqT.of upd_same, SqT.keeps (SqT.of upd_same) (TupsStay.same w4), FoAt.stay tw (FoAt.stay tt x1), FoAt.stay tw (FoAt.stay tt x2), FoAt.stay tw (FoAt.stay tt x3), FoAt.stay tw X4⟩ ((dr_tup m1 m2 m3 m4).ups (by omega) (Nat.sub_le _ _))
    · have d0 : d ≠ 0 := fun z => by
        subst z
        exact e (by decide)
      obtain ⟨d, rfl⟩ : ∃ e, d = e + 1 := ⟨d - 1, by omega⟩
      have l1 := lvN_le d
      have l2 := lvT_le d
      have l3 : lvT (d + 1) = d + 3 := rfl
      refine ⟨_, rfl, _, rfl, _, _, rfl, rfl, by omega, h, c, _, _, _, d, by omega, pred1 h d, A1, fun s2 k2 cs2 p2 f2 H2 A2 B2 X2 D2 => ?_⟩
      have D2' := D2.ups (lv' := d + 2) l2 (Nat.le_refl _)
      refine ⟨_, rfl, rfl, _, rfl, ite2 (fun e3 => ?_) (fun e3 => ?_)⟩
      · refine ⟨_, rfl, _, rfl, _, rfl, _, _, rfl, rfl, by omega, h, c, _, _, _, d, by omega, pred1 h d, A2, fun s3 k3 cs3 p3 f3 H3 A3 B3 X3 D3 => ⟨(by show 3 ≤ sizeLine; decide), fun t nt => ?_⟩⟩
        have X2 := FoAt.stay (B3.tups A2) X2
        have u := same_upd (o := .tup [.str "with", .ref p2, .ref p3]) nt
        have tu := TupsStay.same u
        exact q _ _ _ t (.wth f2 f3) _ (A3.same u) (((B1.trans B2).trans B3).same u) ⟨p2, p3, SqT.of upd_same, FoAt.stay tu X2, FoAt.stay tu X3⟩ ((dr_wth D2' (D3.ups l2 (Nat.le_refl _))).ups (by omega) (Nat.le_refl _))
      refine ⟨_, rfl, rfl, _, rfl, ite2 (fun e4 => ?_) (fun e4 => ?_)⟩
      · refine ⟨_, rfl, h, c, _, _, _, 1, by omega, rfl, A2, fun s3 k3 cs3 p3 f3 H3 A3 B3 X3 D3 => ?_⟩
        have X2 := FoAt.stay (B3.tups A2) X2
        refine ⟨_, rfl, _, rfl, by omega, h, c, _, _, _, 0, by omega, rfl, A3, fun s4 k4 cs4 p4 f4 H4 A4 B4 X4 D4 => ⟨(by show 4 ≤ sizeLine; decide), fun t nt => ?_⟩⟩
        have tt := B4.tups A3
        have u := same_upd (o := .tup [.str "where", .ref p3, .ref p2, .ref p4]) nt
        have tu := TupsStay.same u
        exact q _ _ _ t (.whr f3 f2 f4) _ (A4.same u) ((((B1.trans B2).trans B3).trans B4).same u) ⟨p3, p2, p4, SqT.of upd_same, FoAt.stay tu (FoAt.stay tt X3), FoAt.stay tu (FoAt.stay tt X2), FoAt.stay tu X4⟩ ((dr_whrU (lv := d + 2) (D3.ups (show 2 ≤ d + 2 by omega) (by omega)) D2' (D4.ups (show 1 ≤ d + 2 by omega) (Nat.zero_le _))).ups (by omega) (Nat.le_refl _))
      refine ⟨_, rfl, h, c, _, _, 5, _, rfl, by decide, by decide, A2, fun s3 k3 cs3 a H3 a0 a5 A3 B3 => ⟨(by show 2 ≤ sizeLine; decide), fun t1 n1 => ?_⟩⟩
      have u1 := same_upd (o := .tup [.str "num", .int a]) n1
      have X2 := FoAt.stay (TupsStay.same u1) (FoAt.stay (B3.tups A2) X2)
      have Y1 : SqT K (upd H3 t1 (.tup [.str "num", .int a])) t1 [.str "num", .int a] := SqT.of upd_same
      have A3 := A3.same u1
      have B3 := ((B1.trans B2).trans B3).same u1
      generalize upd H3 t1 (.tup [.str "num", .int a]) = H4 at *
      refine ⟨_, rfl, h, c, _, _, 3, _, rfl, by decide, by decide, A3, fun s5 k5 cs5 b H5 b0 b3 A5 B5 => ⟨(by show 2 ≤ sizeLine; decide), fun t2 n2 => ⟨(by show 2 ≤ sizeLine; decide), fun t3 n3 => ⟨(by show 2 ≤ sizeLine; decide), fun l1 nl1 => ?_⟩⟩⟩⟩
      have tt5 := B5.tups A3
      have u2 := same_upd (o := .tup [.str "num", .int b]) n2
      have u3 := same_upd (o := .tup [.str "less", .ref t2]) n3
      have u4 := same_upd (o := .lst [.ref t1, .ref t3]) nl1
      have l1h : l1 ≠ h := (ne_of_none ((u2.trans u3) _ _ A5.h) nl1).symm
      have l1c : l1 ≠ c := (ne_of_none ((u2.trans u3) _ _ A5.c) nl1).symm
      have nlH : H l1 = none := by
        cases e : H l1 with
        | none => rfl
        | some o =>
          have := (u2.trans u3) _ _ ((B3.trans B5) _ _ e l1h l1c)
          rw [nl1] at this
          cases this
      have u := u2.trans (u3.trans u4)
      have tu := TupsStay.same u
      have X2 := FoAt.stay tu (FoAt.stay tt5 X2)
      have Y1 := SqT.keeps (SqT.keeps Y1 tt5) tu
      have Y2 : SqT K _ t2 [.str "num", .int b] := SqT.keeps (SqT.of (upd_same (H := H5) (a := t2) (o := .tup [.str "num", .int b]))) (TupsStay.same (u3.trans u4))
      have Y3 : SqT K _ t3 [.str "less", .ref t2] := SqT.keeps (SqT.of (upd_same (a := t3) (o := .tup [.str "less", .ref t2]))) (TupsStay.same u4)
      have el : (upd (upd (upd H5 t2 (.tup [.str "num", .int b])) t3 (.tup [.str "less", .ref t2])) l1 (.lst [.ref t1, .ref t3])) l1 = some (.lst [.ref t1, .ref t3]) := upd_same
      have A5 := A5.same u
      have B5 := (B3.trans B5).same u
      clear n1 n2 n3 u1 u2 u3 u4 tu u tt5
      generalize (upd (upd (upd H5 t2 (.tup [.str "num", .int b])) t3 (.tup [.str "less", .ref t2])) l1 (.lst [.ref t1, .ref t3])) = H6 at *
      refine ⟨_, rfl, .inl ⟨rfl, _, SqL.of el⟩, (by show 2 ≤ sizeLine; decide), fun t4 n4 => ⟨(by show 2 ≤ sizeLine; decide), fun t5 n5 => ⟨(by show 2 ≤ sizeLine; decide), fun t6 n6 => ⟨(by show 4 ≤ sizeLine; decide), fun t7 n7 => ?_⟩⟩⟩⟩
      have u4 := same_upd (o := .tup [.str "slot", .int 0]) n4
      have u5 := same_upd (o := .tup [.str "num", .int 2]) n5
      have u6 := same_upd (o := .tup [.str "num", .int 0]) n6
      have u7 := same_upd (o := .tup [.str "where", .ref t4, .ref t5, .ref t6]) n7
      have u := u4.trans (u5.trans (u6.trans u7))
      have tu := TupsStay.same u
      have X2 := FoAt.stay tu X2
      have Y1 := SqT.keeps Y1 tu
      have Y2 := SqT.keeps Y2 tu
      have Y3 := SqT.keeps Y3 tu
      have Y4 : SqT K _ t4 [.str "slot", .int 0] := SqT.keeps (SqT.of (upd_same (H := H6) (a := t4) (o := .tup [.str "slot", .int 0]))) (TupsStay.same (u5.trans (u6.trans u7)))
      have Y5 : SqT K _ t5 [.str "num", .int 2] := SqT.keeps (SqT.of (upd_same (a := t5) (o := .tup [.str "num", .int 2]))) (TupsStay.same (u6.trans u7))
      have Y6 : SqT K _ t6 [.str "num", .int 0] := SqT.keeps (SqT.of (upd_same (a := t6) (o := .tup [.str "num", .int 0]))) (TupsStay.same u7)
      have Y7 : SqT K (upd (upd (upd (upd H6 t4 (.tup [.str "slot", .int 0])) t5 (.tup [.str "num", .int 2])) t6 (.tup [.str "num", .int 0])) t7 (.tup [.str "where", .ref t4, .ref t5, .ref t6])) t7 [.str "where", .ref t4, .ref t5, .ref t6] := SqT.of upd_same
      have el := u _ _ el
      have A5 := A5.same u
      have B5 := B5.same u
      clear u4 u5 u6 u7 u n4 n5 n6 n7 tu
      generalize (upd (upd (upd (upd H6 t4 (.tup [.str "slot", .int 0])) t5 (.tup [.str "num", .int 2])) t6 (.tup [.str "num", .int 0])) t7 (.tup [.str "where", .ref t4, .ref t5, .ref t6])) = H7 at *
      refine ⟨l1, _, _, rfl, rfl, el, by show 2 < sizeLine; decide, ?_⟩
      have el8 : (upd H7 l1 (.lst [.ref t1, .ref t3, .ref t7])) l1 = some (.lst [.ref t1, .ref t3, .ref t7]) := upd_same
      have tt8 : TupsStay H7 (upd H7 l1 (.lst [.ref t1, .ref t3, .ref t7])) := .upd el True.intro
      have A8 := A5.set (o := .lst [.ref t1, .ref t3, .ref t7]) l1h l1c
      have B8 : But h c H (upd H7 l1 (.lst [.ref t1, .ref t3, .ref t7])) := But.upd B5 nlH
      have X2 := FoAt.stay tt8 X2
      have Y1 := SqT.keeps Y1 tt8
      have Y2 := SqT.keeps Y2 tt8
      have Y3 := SqT.keeps Y3 tt8
      have Y4 := SqT.keeps Y4 tt8
      have Y5 := SqT.keeps Y5 tt8
      have Y6 := SqT.keeps Y6 tt8
      have Y7 := SqT.keeps Y7 tt8
      rw [show ([V.ref t1, V.ref t3] ++ [V.ref t7] : List V) = [V.ref t1, .ref t3, .ref t7] from rfl]
      generalize upd H7 l1 (.lst [.ref t1, .ref t3, .ref t7]) = H8 at *
      refine ⟨_, rfl, _, rfl, h, c, _, _, 3, _, rfl, by decide, by decide, A8, fun s9 k9 cs9 m H9 m0 m3 A9 B9 => ⟨l1, _, _, _, rfl, rfl, SqL.of (B9 _ _ el8 l1h l1c), at3 m0 m3, _, rfl, _, rfl, h, c, _, _, _, rfl, A9, fun sa ka csa pg g Ha Aa Ba Xg fg fo fl => ?_⟩⟩
      have tt := (B9.tups A8).trans (Ba.tups A9)
      have X2 := FoAt.stay tt X2
      have BB := (B8.trans B9).trans Ba
      obtain ⟨q', n', eq', hq', o1, o2, o3⟩ : ∃ (q' : Addr) (n' : Fo .n), (if m = 0 then V.ref t1 else if m = 1 then V.ref t3 else V.ref t7) = V.ref q' ∧ FoAt K Ha q' n' ∧ Dr (d + 1) (d + 2) n' ∧ (∀ S, ev n' S ≤ 4) ∧ True := by
        by_cases c0 : m = 0
        · exact ⟨t1, .num a, if_pos c0, SqT.keeps Y1 tt, dr_num ⟨a0, a5⟩ _ _, fun S => by show a ≤ 4; omega, True.intro⟩
        · by_cases c1 : m = 1
          · refine ⟨t3, .less (.num b), by rw [if_neg c0, if_pos c1], ⟨t2, SqT.keeps Y3 tt, SqT.keeps Y2 tt⟩, (dr_less (d := d) (lv := d + 1) (dr_num ⟨b0, by omega⟩ _ _)), fun S => ?_, True.intro⟩
            show (if b > 0 then b - 1 else 0) ≤ 4
            split <;> omega
          · refine ⟨t7, .whr (.slot 0) (.num 2) (.num 0), by rw [if_neg c0, if_neg c1], ⟨t4, t5, t6, SqT.keeps Y7 tt, SqT.keeps Y4 tt, SqT.keeps Y5 tt, SqT.keeps Y6 tt⟩, (dr_whrU (d := d) (lv := d + 1) (dr_slot (by decide) _ _) (dr_num (by decide) _ _) (dr_num (by decide) _ _)), fun S => ?_, True.intro⟩
            show (if S.at 0 ≠ 0 then (2 : Int) else 0) ≤ 4
            split <;> decide
      rw [eq']
      refine ⟨(by show 4 ≤ sizeLine; decide), fun t nt => ?_⟩
      have u := same_upd (o := .tup [.str "fold", .ref q', .ref p2, .ref pg]) nt
      have tu := TupsStay.same u
      exact q _ _ _ t (.fold n' f2 g) _ (Aa.same u) (BB.same u) ⟨q', p2, pg, SqT.of upd_same, FoAt.stay tu hq', FoAt.stay tu X2, FoAt.stay tu Xg⟩ ((dr_fold o1 D2' (fo.ups (by omega)) fl o2 fg).ups (by omega) (Nat.le_refl _))
theorem draws (T : Txt K mg) {f f1 f2 : Addr} {fd fd1 fd2 : FuncData} (DN : DefAt K mg "_law_number" "_law_number" s_law_number ["_law_h", "_law_deep"] f fd) (DR : DefAt K mg "_law_rowed" "_law_rowed" s_law_rowed ["_law_h", "_law_deep"] f1 fd1) (DT : DefAt K mg "_law_tuple" "_law_tuple" s_law_tuple ["_law_h", "_law_deep"] f2 fd2) :
    ∀ n, FnOk P w K mg base CX0 (3 * n + 3) f fd ["_law_h", "_law_deep"] (spDrw K .n lvN n) ∧ FnOk P w K mg base CX0 (3 * n + 4) f1 fd1 ["_law_h", "_law_deep"] (spDrw K .r lvR n) ∧ FnOk P w K mg base CX0 (3 * n + 5) f2 fd2 ["_law_h", "_law_deep"] (spDrw K .t lvT n)
  | 0 => by
    have N0 : FnOk P w K mg base CX0 3 f fd ["_law_h", "_law_deep"] (spDrw K .n lvN 0) := ok_law_number T DN DT (k := 2) (k1 := 0) (k2 := 0) (by decide) (by decide) (by decide) (fn_never fun _ _ _ _ h => absurd h.1 (by decide)) (fn_never fun _ _ _ _ h => absurd h.1 (by decide))
    have R0 : FnOk P w K mg base CX0 4 f1 fd1 ["_law_h", "_law_deep"] (spDrw K .r lvR 0) := ok_law_rowed T DR DN (k := 3) (k1 := 0) (k2 := 3) (by decide) (by decide) (by decide) (fn_never fun _ _ _ _ h => absurd h.1 (by decide)) N0
    exact ⟨N0, R0, ok_law_tuple T DT DN DR (k := 4) (k1 := 0) (k2 := 3) (k3 := 4) (by decide) (by decide) (by decide) (by decide) (fn_never fun _ _ _ _ h => absurd h.1 (by decide)) N0 R0⟩
  | n + 1 => by
    obtain ⟨N, R, U⟩ := draws T DN DR DT n
    have N1 : FnOk P w K mg base CX0 (3 * (n + 1) + 3) f fd ["_law_h", "_law_deep"] (spDrw K .n lvN (n + 1)) := ok_law_number T DN DT (k := 3 * n + 5) (by omega) (by omega) (by omega) (fn_drop N) (fn_drop U)
    have R1 : FnOk P w K mg base CX0 (3 * (n + 1) + 4) f1 fd1 ["_law_h", "_law_deep"] (spDrw K .r lvR (n + 1)) := ok_law_rowed T DR DN (k := 3 * (n + 1) + 3) (by omega) (by omega) (by omega) (fn_drop R) N1
    exact ⟨N1, R1, ok_law_tuple T DT DN DR (k := 3 * (n + 1) + 4) (by omega) (by omega) (by omega) (by omega) (fn_drop U) N1 R1⟩
end
/-! ### the law -/
theorem RelVal.same {K : PySem.W.Frag} {H H' : Hp} {R : Addr → Prop} (u : Same H H') : ∀ {s : Srt} {v : V} {x : Val s}, RelVal K H R s v x → RelVal K H' R s v x
  | .n, _, _, a => a
  | .r, _, _, ⟨q, a, b, c⟩ => ⟨q, a, u _ _ b, c⟩
  | .t, _, _, ⟨sp, rp, a, b, c⟩ => ⟨sp, rp, a, b.same u, c⟩
  | .o, _, _, ⟨sp, rp, a, b, c, d⟩ => ⟨sp, rp, a, SqT.keeps b (TupsStay.same u), u _ _ c, d⟩
def pdV : (s : Srt) → Val s → PyData
  | .n, k => .int k
  | .r, l => .list (l.map PyData.int)
  | .t, S => pdS S
  | .o, l => .tuple [.list (l.map PyData.int)]
theorem dpV {K : PySem.W.Frag} {H : Hp} {R : Addr → Prop} : ∀ {s : Srt} {v : V} {x : Val s}, RelVal K H R s v x → Dp K H v (pdV s x)
  | .n, _, _, h => by
    have h : _ = V.int _ := h
    subst h
    exact .int _
  | .r, _, _, ⟨q, h, a, _⟩ => by
    subst h
    exact .lst (SqL.of a) (dpInts _)
  | .t, _, _, ⟨sp, rp, h, a, _⟩ => by
    subst h
    exact dpS a
  | .o, _, _, ⟨sp, rp, h, a, b, _⟩ => by
    subst h
    exact .tup a (.cons (.lst (SqL.of b) (dpInts _)) .nil)
theorem shapedV : ∀ {s : Srt} (x : Val s), SeqAt.shaped (pdV s x) = true
  | .n, _ => by
    simp [pdV, SeqAt.shaped, PyData.canLay0, PyData.depth]
  | .r, _ => shapedInts _
  | .t, S => shapedS S
  | .o, l => by
    simp [pdV, SeqAt.shaped, PyData.canLay0, PyData.canLayAll0, PyData.depth, PyData.depthAll, canLayInts, depthInts]
theorem eqvV {s : Srt} (x : Val s) : PyData.eqv (pdV s x) (pdV s x) = true := SeqAt.eqv_refl _ (SeqAt.canLay_of_shaped (shapedV x))
section
variable {P : Program} {w : World} {K : PySem.W.Frag} {mg : Str → Option Value} {base : Heap}
def spLaw (K : PySem.W.Frag) : Sp := fun vs H Q _ => ∃ (a : Addr) (ns : List Int), vs = [.ref a] ∧ SqL K H a (ns.map V.int) ∧ ns.length ≤ 63 ∧ ∀ H', Q (.bl true) H'
set_option maxHeartbeats 4000000 in
theorem ok_law {f : Addr} {fd : FuncData} (T : Txt K mg) (FF : DefAt K mg "law" "law" s_law ["_law_script"] f fd) : FnOk P w K mg base CX0 90 f fd ["_law_script"] (spLaw K) := by
  obtain ⟨f0, fd0, D_law_next⟩ := T.d_law_next
  have G_law_next : FnOk P w K mg base CX0 1 f0 fd0 ["_law_h", "_law_many"] spNext := ok_law_next T D_law_next
  obtain ⟨f1, fd1, D_law_number⟩ := T.d_law_number
  obtain ⟨f2, fd2, D_law_rowed⟩ := T.d_law_rowed
  obtain ⟨f3, fd3, D_law_tuple⟩ := T.d_law_tuple
  obtain ⟨G_law_number, G_law_rowed, G_law_tuple⟩ := draws (P := P) (w := w) (base := base) T D_law_number D_law_rowed D_law_tuple 4
  obtain ⟨f4, fd4, D_value⟩ := T.d_value
  have G_value : FnOk P w K mg base CX0 16 f4 fd4 ["fold", "slots"] (spValue K) := ok_value T D_value
  obtain ⟨f5, fd5, D_law_come_to⟩ := T.d_law_come_to
  have G_law_come_to : FnOk P w K mg base CX0 7 f5 fd5 ["_law_fold", "_law_slots"] (spTold K 7) := ok_law_come_to T D_law_come_to 7
  refine FF.F.ok sc_law (fun vs H Q E h => ?_) (fun cdv A outer s H vs Q E hr h => ?_)
  · obtain ⟨a, ns, rfl, _⟩ := h
    rfl
  · obtain ⟨a0, ns, rfl, hS, hlen, q⟩ := h
    refine ⟨_, (pss_cons (ps_set (i := 1) sc_law.nd rfl (.inr rfl) (pe_lst (pa_cons pe_int (pa_cons (pe_callTy call_list_of (by rfl) T.m_list (by decide +kernel) (pa_cons (pv 0) pa_nil)) (pa_cons pe_int pa_nil)))))
      (pss_cons (ps_for PassesOwn.never rfl (pi_range1 rfl T.m_range (pa_cons pe_int pa_nil)) (pg_name (i := 2) sc_law.nd rfl (.inl rfl)) (pss_cons (ps_set (i := 3) sc_law.nd rfl (.inl rfl) (pe_ix ix_list (pe_lst (pa_cons (pe_call G_law_number (hr.mono (by decide)) (by rfl) D_law_number.g D_law_number.F.kp D_law_number.b .nil pass0 (pa_cons (pv 1) (pa_cons pe_int pa_nil))) (pa_cons (pe_call G_law_tuple (hr.mono (by decide)) (by rfl) D_law_tuple.g D_law_tuple.F.kp D_law_tuple.b .nil pass0 (pa_cons (pv 1) (pa_cons pe_int pa_nil))) (pa_cons (pe_call G_law_rowed (hr.mono (by decide)) (by rfl) D_law_rowed.g D_law_rowed.F.kp D_law_rowed.b .nil pass0 (pa_cons (pv 1) (pa_cons pe_int pa_nil))) pa_nil)))) (pe_call G_law_next (hr.mono (by decide)) (by rfl) D_law_next.g D_law_next.F.kp D_law_next.b .nil pass0 (pa_cons (pv 1) (pa_cons pe_int pa_nil))) (fun _ _ => rfl))) (pss_cons (ps_setLc (i := 4) (own := [("_law_k", 8)]) (g := gName 8) (tt := tYes) rfl sc_law.nd rfl rfl (sw_true rfl rfl rfl (by decide +kernel)) (pi_range1 rfl T.m_range (pa_cons (pe_call G_law_next (hr.mono (by decide)) (by rfl) D_law_next.g D_law_next.F.kp D_law_next.b .nil pass0 (pa_cons (pv 1) (pa_cons pe_int pa_nil))) pa_nil)) (blkOk_by (own := [("_law_k", 8)]) (N := ["_law_script", "_law_h", "_law_turn", "_law_fold", "_law_row", "_law_slots", "_law_kept", "_law_found", "_law_k"]) (sc := defScope s_law) (by decide +kernel)) (fun _ _ _ _ _ => pg_name (i := 8) sc_law.nd rfl (.inl rfl)) (fun _ _ _ _ _ => pts_nil) (fun _ _ _ _ _ => (pe_call G_law_next (hr.mono (by decide)) (by rfl) D_law_next.g D_law_next.F.kp D_law_next.b .nil pass0 (pa_cons (pv 1) (pa_cons pe_int pa_nil))))) (pss_cons (ps_set (i := 5) sc_law.nd rfl (.inl rfl) (pe_tup (pa_cons (pe_call G_law_next (hr.mono (by decide)) (by rfl) D_law_next.g D_law_next.F.kp D_law_next.b .nil pass0 (pa_cons (pv 1) (pa_cons pe_int pa_nil))) (pa_cons (pe_call G_law_next (hr.mono (by decide)) (by rfl) D_law_next.g D_law_next.F.kp D_law_next.b .nil pass0 (pa_cons (pv 1) (pa_cons pe_int pa_nil))) (pa_cons (pe_call G_law_next (hr.mono (by decide)) (by rfl) D_law_next.g D_law_next.F.kp D_law_next.b .nil pass0 (pa_cons (pv 1) (pa_cons pe_int pa_nil))) (pa_cons (pv 4) pa_nil)))))) (pss_cons (ps_set (i := 6) sc_law.nd rfl (.inl rfl) (pe_callTy call_list_of (by rfl) T.m_list (by decide +kernel) (pa_cons (pv 4) pa_nil))) (pss_cons (ps_set (i := 7) sc_law.nd rfl (.inl rfl) (pe_call G_value (hr.mono (by decide)) (by rfl) D_value.g D_value.F.kp D_value.b .nil pass0 (pa_cons (pv 3) (pa_cons (pv 5) pa_nil)))) (pss_cons (ps_if (PW.pt (pw_or (pt_cmpR (op_neD hr.units) (pv 7) (pe_call G_law_come_to (hr.mono (by decide)) (by rfl) D_law_come_to.g D_law_come_to.F.kp D_law_come_to.b .nil pass0 (pa_cons (pv 3) (pa_cons (pv 5) pa_nil))) (nomark _)) (pw_or (pt_cmpR (op_neD hr.units) (pv 4) (pv 6) (nomark _)) (pw_or1 (pt_val (pe_callB call_isi (by rfl) T.m_isinstance (by decide +kernel) (pa_cons (pv 7) (pa_cons (pe_bltn (v := .ty "bool") (by rfl) T.m_bool (by decide +kernel) rfl) pa_nil)))))))) (pss_one (ps_ret pe_bl)) pss_nil) (pss_cons (ps_if (pt_val (pe_callB call_isi (by rfl) T.m_isinstance (by decide +kernel) (pa_cons (pv 7) (pa_cons (pe_bltn (v := .ty "list") (by rfl) T.m_list (by decide +kernel) rfl) pa_nil)))) (pss_one (ps_expr (pe_bm PySem.F.plainAttrs_list PySem.F.slot_list_append PySem.F.type_list_append mt_append (pv 7) (pa_cons pe_int pa_nil)))) pss_nil) (pss_cons (ps_if (pt_val (pe_callB call_isi (by rfl) T.m_isinstance (by decide +kernel) (pa_cons (pv 7) (pa_cons (pe_bltn (v := .ty "tuple") (by rfl) T.m_tuple (by decide +kernel) rfl) pa_nil)))) (pss_one (ps_expr (pe_bm PySem.F.plainAttrs_list PySem.F.slot_list_append PySem.F.type_list_append mt_append (pe_ix ix_tup (pv 7) pe_int (fun _ _ => rfl)) (pa_cons pe_int pa_nil)))) pss_nil) (pss_cons (ps_expr (pe_bm PySem.F.plainAttrs_list PySem.F.slot_list_append PySem.F.type_list_append mt_append (pe_call G_value (hr.mono (by decide)) (by rfl) D_value.g D_value.F.kp D_value.b .nil pass0 (pa_cons (pe_tup (pa_cons pe_str (pa_cons pe_int pa_nil))) (pa_cons (pv 5) pa_nil))) (pa_cons pe_int pa_nil))) (pss_cons (ps_expr (pe_bm PySem.F.plainAttrs_list PySem.F.slot_list_append PySem.F.type_list_append mt_append (pe_ix ix_tup (pe_call G_value (hr.mono (by decide)) (by rfl) D_value.g D_value.F.kp D_value.b .nil pass0 (pa_cons (pe_tup (pa_cons pe_str (pa_cons (pe_tup (pa_cons (pe_tup (pa_cons pe_str (pa_cons pe_int pa_nil))) pa_nil)) pa_nil))) (pa_cons (pv 5) pa_nil))) pe_int (fun _ _ => rfl)) (pa_cons pe_int pa_nil))) (pss_one (ps_if (pt_cmpR (op_neD hr.units) (pv 4) (pv 6) (nomark _)) (pss_one (ps_ret pe_bl)) pss_nil)))))))))))))
      (pss_one (ps_ret pe_bl)))), ?_⟩
    refine ⟨_, rfl, a0, _, rfl, .inl hS, fun c hc => ⟨(by show 3 ≤ sizeLine; decide), fun h hh => ?_⟩⟩
    have A0 : HAt (upd (upd H c (.lst (ns.map V.int))) h (.lst [.int 79, .ref c, .int 0])) h c 79 0 ns := by
      have nhc : c ≠ h := ne_of_none upd_same hh
      exact ⟨upd_same, by rw [upd_ne nhc]; exact upd_same, hlen⟩
    refine ⟨4, rfl, by decide, by decide, for_range (lo := 0) (n := 4) (fun i σ H2 => ∃ (v2 v3 v4 v5 v6 v7 v8 : Option V) (s k : Int) (cs : List Int), σ = [some (.ref a0), some (.ref h), v2, v3, v4, v5, v6, v7, v8] ∧ HAt H2 h c s k cs)
      ⟨none, none, none, none, none, none, none, _, _, _, rfl, A0⟩ (fun i σ H2 hi hh => ?_) (fun σ H2 hh => q H2)⟩
    obtain ⟨v2, v3, v4, v5, v6, v7, v8, s2, k2, cs2, rfl, A2⟩ := hh
    refine ⟨_, rfl, h, c, _, _, _, 4, by decide, rfl, A2, fun s3 k3 cs3 p1 g1 H3 A3 B3 X1 D1 => ?_⟩
    refine ⟨_, rfl, h, c, _, _, _, 4, by decide, rfl, A3, fun s4 k4 cs4 p2 g2 H4 A4 B4 X2 D2 => ?_⟩
    have X1 := FoAt.stay (B4.tups A3) X1
    refine ⟨_, rfl, h, c, _, _, _, 3, by decide, rfl, A4, fun s5 k5 cs5 p3 g3 H5 A5 B5 X3 D3 => ⟨(by show 3 ≤ sizeLine; decide), fun l nl => ?_⟩⟩
    have X1 := FoAt.stay (B5.tups A4) X1
    have X2 := FoAt.stay (B5.tups A4) X2
    have u1 := same_upd (o := .lst [.ref p1, .ref p2, .ref p3]) nl
    have lh : l ≠ h := (ne_of_none A5.h nl).symm
    have lc : l ≠ c := (ne_of_none A5.c nl).symm
    have el : (upd H5 l (.lst [.ref p1, .ref p2, .ref p3])) l = some (.lst [.ref p1, .ref p2, .ref p3]) := upd_same
    have A5 := A5.same u1
    have X1 := FoAt.stay (TupsStay.same u1) X1
    have X2 := FoAt.stay (TupsStay.same u1) X2
    have X3 := FoAt.stay (TupsStay.same u1) X3
    generalize upd H5 l (.lst [.ref p1, .ref p2, .ref p3]) = H6 at *
    clear nl u1
    refine ⟨_, rfl, h, c, _, _, 3, _, rfl, by decide, by decide, A5, fun s7 k7 cs7 m H7 m0 m3 A7 B7 => ⟨l, _, _, _, rfl, rfl, SqL.of (B7 _ _ el lh lc), at3 m0 m3, ?_⟩⟩
    have tt7 := B7.tups A5
    obtain ⟨s, p, g, ep, X, D, so⟩ : ∃ (s : Srt) (p : Addr) (g : Fo s), (if m = 0 then V.ref p1 else if m = 1 then V.ref p2 else V.ref p3) = V.ref p ∧ FoAt K H7 p g ∧ Dr 4 6 g ∧ s ≠ .o := by
      by_cases c0 : m = 0
      · exact ⟨.n, p1, g1, if_pos c0, FoAt.stay tt7 X1, D1, (by intro z; cases z)⟩
      · by_cases c1 : m = 1
        · exact ⟨.t, p2, g2, by rw [if_neg c0, if_pos c1], FoAt.stay tt7 X2, D2, (by intro z; cases z)⟩
        · exact ⟨.r, p3, g3, by rw [if_neg c0, if_neg c1], FoAt.stay tt7 X3, D3.ups (by decide) (by decide), (by intro z; cases z)⟩
    rw [ep]
    clear X1 X2 X3 D1 D2 D3 el
    refine ⟨_, rfl, h, c, _, _, 3, _, rfl, by decide, by decide, A7, fun s8 k8 cs8 b H8 b0 b3 A8 B8 => ⟨b, rfl, by omega, by omega, fun rp nrp => lc_range (lo := 0) (n := b.toNat) (fun i Hx => ∃ (s k : Int) (cs : List Int) (r : List Int), HAt Hx h c s k cs ∧ But h c H8 Hx ∧ Hx rp = some (.lst (r.map V.int)) ∧ r.length = i)
      ⟨_, _, _, [], A8.same (same_upd nrp), Same.but (same_upd nrp), upd_same, rfl⟩ (fun i Hx hi hh => ?_) (fun Hx hh => ?_)⟩⟩
    · obtain ⟨s9, k9, cs9, r, A9, B9, er, lr⟩ := hh
      have dh : rp ≠ h := (ne_of_none A8.h nrp).symm
      have dc : rp ≠ c := (ne_of_none A8.c nrp).symm
      refine ⟨rfl, _, rfl, h, c, _, _, 9, _, rfl, by decide, by decide, A9, fun sa ka csa e Ha e0 e9 Aa Ba => ?_⟩
      exact ⟨_, Ba _ _ er dh dc, by rw [List.length_map, lr, sizeLine_eq]; omega, _, _, _, r ++ [e], Aa.set dh dc, But.upd (B9.trans Ba) nrp, by rw [upd_same, List.map_append]; rfl, by rw [List.length_append, List.length_singleton, lr]⟩
    obtain ⟨s9, k9, cs9, r, A9, B9, er, lr⟩ := hh
    have dh : rp ≠ h := (ne_of_none A8.h nrp).symm
    have dc : rp ≠ c := (ne_of_none A8.c nrp).symm
    have lr2 : r.length ≤ 2 := by omega
    have X := FoAt.stay (B9.tups A8) (FoAt.stay (B8.tups A7) X)
    clear A7 B7 B8 A8 B9 nrp
    refine ⟨_, rfl, h, c, _, _, 100, _, rfl, by decide, by decide, A9, fun sa ka csa x Ha x0 x1 Aa Ba => ?_⟩
    refine ⟨_, rfl, h, c, _, _, 100, _, rfl, by decide, by decide, Aa, fun sb kb csb y Hb y0 y1 Ab Bb => ?_⟩
    refine ⟨_, rfl, h, c, _, _, 3, _, rfl, by decide, by decide, Ab, fun sc kc csc z Hc z0 z1 Ac Bc => ⟨_, rfl, (by show 4 ≤ sizeLine; decide), fun sp nsp => ?_⟩⟩
    have BB := (Ba.trans Bb).trans Bc
    have X := FoAt.stay (Bc.tups Ab) (FoAt.stay (Bb.tups Aa) (FoAt.stay (Ba.tups A9) X))
    have us := same_upd (o := .tup [.int x, .int y, .int z, .ref rp]) nsp
    have er := us _ _ (BB _ _ er dh dc)
    have X := FoAt.stay (TupsStay.same us) X
    have Ad := Ac.same us
    have SL : SlAt K (upd Hc sp (.tup [.int x, .int y, .int z, .ref rp])) sp rp ⟨x, y, z, r⟩ := ⟨SqT.of upd_same, er⟩
    generalize upd Hc sp (.tup [.int x, .int y, .int z, .ref rp]) = Hd at *
    clear us nsp BB Ba Bb Bc Aa Ab Ac A9
    refine ⟨_, rfl, rp, _, rfl, .inl (SqL.of er), fun kp nkp => ?_⟩
    have uk := same_upd (o := .lst (r.map V.int)) nkp
    have ek : (upd Hd kp (.lst (r.map V.int))) kp = some (.lst (r.map V.int)) := upd_same
    have kr : kp ≠ rp := (ne_of_none er nkp).symm
    have kh : kp ≠ h := (ne_of_none Ad.h nkp).symm
    have kc : kp ≠ c := (ne_of_none Ad.c nkp).symm
    have er := uk _ _ er
    have SL := SL.same uk
    have X := FoAt.stay (TupsStay.same uk) X
    have Ad := Ad.same uk
    generalize upd Hd kp (.lst (r.map V.int)) = He at *
    clear uk nkp
    have sb : SlB 10 2 ⟨x, y, z, r⟩ := ⟨⟨x0, Int.lt_trans x1 (by decide)⟩, ⟨y0, Int.lt_trans y1 (by decide)⟩, ⟨z0, Int.lt_trans z1 (by decide)⟩, lr2⟩
    obtain ⟨li, _, ll⟩ := D.bd 10 2 (by decide) (by decide) (by decide)
    have ll : ln g 2 ≤ 62 := ll
    have FI : FIn K He p sp rp g ⟨x, y, z, r⟩ 6 10 2 := ⟨X, D.ok, SL, by decide, sb, li⟩
    refine ⟨_, rfl, _, rfl, p, sp, rp, s, g, ⟨x, y, z, r⟩, 10, 2, rfl, FI, by omega, fun v Hf rv s1 => ?_⟩
    refine ⟨_, rfl, _, rfl, _, rfl, p, sp, rp, s, g, ⟨x, y, z, r⟩, 10, 2, rfl, FI.same s1, fun v2 Hg rv2 s2 => ?_⟩
    have rvg := RelVal.same s2 rv
    refine ⟨_, _, dpV rvg, dpV rv2, shapedV _, shapedV _, _, rfl, ite2 (fun cc => ?_) (fun _ => ?_)⟩
    · rw [eqvV] at cc
      exact absurd cc (by decide)
    have s12 := s1.trans s2
    have er2 := s12 _ _ er
    have ek2 := s12 _ _ ek
    refine ⟨_, rfl, _, rfl, _, _, Dp.lst (SqL.of er2) (dpInts _), Dp.lst (SqL.of ek2) (dpInts _), shapedInts _, shapedInts _, _, rfl, ite2 (fun cc => ?_) (fun _ => ?_)⟩
    · rw [SeqAt.eqv_refl _ (SeqAt.canLay_of_shaped (shapedInts _))] at cc
      exact absurd cc (by decide)
    have SLg := SL.same s12
    have Ag := Ad.same s12
    cases s with
    | o => exact absurd rfl so
    | n =>
        have rvg : v = V.int (evI g ⟨x, y, z, r⟩) := rvg
        subst rvg
        refine ⟨_, rfl, _, _, _, _, false, rfl, .ty "bool", .base (.int _), kit_ty (by decide +kernel), _, rfl, ite2 (fun c => absurd c (by decide)) (fun _ => ?_)⟩
        refine ⟨_, rfl, _, _, _, _, false, rfl, .ty "list", .base (.int _), kit_ty (by decide +kernel), _, rfl, ite2 (fun c => absurd c (by decide)) (fun _ => ?_)⟩
        refine ⟨_, rfl, _, _, _, _, false, rfl, .ty "tuple", .base (.int _), kit_ty (by decide +kernel), _, rfl, ite2 (fun c => absurd c (by decide)) (fun _ => ?_)⟩
        refine ⟨(by show 2 ≤ sizeLine; decide), fun t1 n1 => ?_⟩
        have v1 := same_upd (o := .tup [.str "slot", .int 3]) n1
        have F1 : FIn K (upd Hg t1 (.tup [.str "slot", .int 3])) t1 sp rp .slot3 ⟨x, y, z, r⟩ 6 10 2 := ⟨SqT.of upd_same, True.intro, SLg.same v1, by decide, sb, True.intro⟩
        have ek2 := v1 _ _ ek2
        have Ag := Ag.same v1
        refine ⟨_, rfl, t1, sp, rp, .r, .slot3, ⟨x, y, z, r⟩, 10, 2, rfl, F1, by decide, fun v4 H4 rv4 s4 => ?_⟩
        obtain ⟨q4, rfl, e4, nq4⟩ := rv4
        have SL4 := (F1.sl).same s4
        have ek4 := s4 _ _ ek2
        have A4 := Ag.same s4
        have ne1 : rp ≠ q4 := ne_of_none F1.sl.r nq4
        have ne2 : kp ≠ q4 := ne_of_none ek2 nq4
        have ne3 : q4 ≠ h := (ne_of_none Ag.h nq4).symm
        have ne4 : q4 ≠ c := (ne_of_none Ag.c nq4).symm
        have e4 : H4 q4 = some (.lst (r.map V.int)) := e4
        refine ⟨.inl ⟨rfl, _, SqL.of e4⟩, q4, _, _, rfl, rfl, e4, by rw [List.length_map, sizeLine_eq]; omega, ?_⟩
        have tt4 : TupsStay H4 (upd H4 q4 (.lst (r.map V.int ++ [.int 9]))) := .upd e4 True.intro
        have SL5 : SlAt K (upd H4 q4 (.lst (r.map V.int ++ [.int 9]))) sp rp ⟨x, y, z, r⟩ := ⟨SqT.keeps SL4.q tt4, by rw [upd_ne ne1]; exact SL4.r⟩
        have ek5 : (upd H4 q4 (.lst (r.map V.int ++ [.int 9]))) kp = some (.lst (r.map V.int)) := by rw [upd_ne ne2]; exact ek4
        have A5 := A4.set (o := .lst (r.map V.int ++ [.int 9])) ne3 ne4
        generalize upd H4 q4 (.lst (r.map V.int ++ [.int 9])) = H5 at *
        refine ⟨(by show 2 ≤ sizeLine; decide), fun t2 n2 => ⟨(by show 1 ≤ sizeLine; decide), fun t3 n3 => ⟨(by show 2 ≤ sizeLine; decide), fun t4 n4 => ?_⟩⟩⟩
        have w1 := same_upd (o := .tup [.str "slot", .int 3]) n2
        have w2 := same_upd (o := .tup [.ref t2]) n3
        have w3 := same_upd (o := .tup [.str "tuple", .ref t3]) n4
        have w := w1.trans (w2.trans w3)
        have F2 : FIn K _ t4 sp rp .one ⟨x, y, z, r⟩ 6 10 2 := ⟨⟨t3, t2, SqT.of upd_same, SqT.keeps (SqT.of upd_same) (TupsStay.same w3), SqT.keeps (SqT.of upd_same) (TupsStay.same (w2.trans w3))⟩, True.intro, SL5.same w, by decide, sb, True.intro⟩
        have ek6 := w _ _ ek5
        have A6 := A5.same w
        refine ⟨_, rfl, t4, sp, rp, .o, .one, ⟨x, y, z, r⟩, 10, 2, rfl, F2, by decide, fun v6 H6 rv6 s6 => ?_⟩
        obtain ⟨sq, rq, rfl, e6, e7, nq6⟩ := rv6
        have SL6 := (F2.sl).same s6
        have ek7 := s6 _ _ ek6
        have A7 := A6.same s6
        have ne5 : rp ≠ rq := ne_of_none F2.sl.r nq6
        have ne6 : kp ≠ rq := ne_of_none ek6 nq6
        have ne7 : rq ≠ h := (ne_of_none A6.h nq6).symm
        have ne8 : rq ≠ c := (ne_of_none A6.c nq6).symm
        have e7 : H6 rq = some (.lst (r.map V.int)) := e7
        refine ⟨sq, _, _, _, rfl, rfl, e6, atI_nat (j := 0) rfl, .inl ⟨rfl, _, SqL.of e7⟩, rq, _, _, rfl, rfl, e7, by rw [List.length_map, sizeLine_eq]; omega, ?_⟩
        have er8 : (upd H6 rq (.lst (r.map V.int ++ [.int 9]))) rp = some (.lst (r.map V.int)) := by rw [upd_ne ne5]; exact SL6.r
        have ek8 : (upd H6 rq (.lst (r.map V.int ++ [.int 9]))) kp = some (.lst (r.map V.int)) := by rw [upd_ne ne6]; exact ek7
        have A8 := A7.set (o := .lst (r.map V.int ++ [.int 9])) ne7 ne8
        refine ⟨_, rfl, _, rfl, _, _, Dp.lst (SqL.of er8) (dpInts _), Dp.lst (SqL.of ek8) (dpInts _), shapedInts _, shapedInts _, _, rfl, ite2 (fun cc => ?_) (fun _ => ?_)⟩
        · rw [SeqAt.eqv_refl _ (SeqAt.canLay_of_shaped (shapedInts _))] at cc
          exact absurd cc (by decide)
        exact ⟨_, _, _, _, _, _, _, _, _, _, rfl, A8⟩
    | r =>
        obtain ⟨q3, rfl, e3, nq3⟩ := rvg
        have nr : rp ≠ q3 := ne_of_none er nq3
        have nk : kp ≠ q3 := ne_of_none ek nq3
        have nh : q3 ≠ h := (ne_of_none Ad.h nq3).symm
        have nc : q3 ≠ c := (ne_of_none Ad.c nq3).symm
        have lg : (ev g ⟨x, y, z, r⟩).length ≤ ln g 2 := ev_bd g D.ok (by decide) sb
        refine ⟨_, rfl, _, _, _, _, false, rfl, .ty "bool", .base (.lst e3), kit_ty (by decide +kernel), _, rfl, ite2 (fun c => absurd c (by decide)) (fun _ => ?_)⟩
        refine ⟨_, rfl, _, _, _, _, true, rfl, .ty "list", .base (.lst e3), kit_ty (by decide +kernel), _, rfl, ite2 (fun _ => ?_) (fun c => absurd (by decide) c)⟩
        refine ⟨_, rfl, .inl ⟨rfl, _, SqL.of e3⟩, q3, _, _, rfl, rfl, e3, by rw [List.length_map, sizeLine_eq]; omega, ?_⟩
        have tt3 : TupsStay Hg (upd Hg q3 (.lst ((ev g ⟨x, y, z, r⟩).map V.int ++ [.int 7]))) := .upd e3 True.intro
        have SLX : SlAt K (upd Hg q3 (.lst ((ev g ⟨x, y, z, r⟩).map V.int ++ [.int 7]))) sp rp ⟨x, y, z, r⟩ := ⟨SqT.keeps SLg.q tt3, by rw [upd_ne nr]; exact SLg.r⟩
        have ekX : (upd Hg q3 (.lst ((ev g ⟨x, y, z, r⟩).map V.int ++ [.int 7]))) kp = some (.lst (r.map V.int)) := by rw [upd_ne nk]; exact ek2
        have AX := Ag.set (o := .lst ((ev g ⟨x, y, z, r⟩).map V.int ++ [.int 7])) nh nc
        have eX : (upd Hg q3 (.lst ((ev g ⟨x, y, z, r⟩).map V.int ++ [.int 7]))) q3 = some (.lst ((ev g ⟨x, y, z, r⟩).map V.int ++ [.int 7])) := upd_same
        generalize upd Hg q3 (.lst ((ev g ⟨x, y, z, r⟩).map V.int ++ [.int 7])) = HX at *
        refine ⟨_, rfl, _, _, _, _, false, rfl, .ty "tuple", .base (.lst eX), kit_ty (by decide +kernel), _, rfl, ite2 (fun c => absurd c (by decide)) (fun _ => ?_)⟩
        refine ⟨(by show 2 ≤ sizeLine; decide), fun t1 n1 => ?_⟩
        have v1 := same_upd (o := .tup [.str "slot", .int 3]) n1
        have F1 : FIn K (upd HX t1 (.tup [.str "slot", .int 3])) t1 sp rp .slot3 ⟨x, y, z, r⟩ 6 10 2 := ⟨SqT.of upd_same, True.intro, SLX.same v1, by decide, sb, True.intro⟩
        have ekX := v1 _ _ ekX
        have AX := AX.same v1
        refine ⟨_, rfl, t1, sp, rp, .r, .slot3, ⟨x, y, z, r⟩, 10, 2, rfl, F1, by decide, fun v4 H4 rv4 s4 => ?_⟩
        obtain ⟨q4, rfl, e4, nq4⟩ := rv4
        have SL4 := (F1.sl).same s4
        have ek4 := s4 _ _ ekX
        have A4 := AX.same s4
        have ne1 : rp ≠ q4 := ne_of_none F1.sl.r nq4
        have ne2 : kp ≠ q4 := ne_of_none ekX nq4
        have ne3 : q4 ≠ h := (ne_of_none AX.h nq4).symm
        have ne4 : q4 ≠ c := (ne_of_none AX.c nq4).symm
        have e4 : H4 q4 = some (.lst (r.map V.int)) := e4
        refine ⟨.inl ⟨rfl, _, SqL.of e4⟩, q4, _, _, rfl, rfl, e4, by rw [List.length_map, sizeLine_eq]; omega, ?_⟩
        have tt4 : TupsStay H4 (upd H4 q4 (.lst (r.map V.int ++ [.int 9]))) := .upd e4 True.intro
        have SL5 : SlAt K (upd H4 q4 (.lst (r.map V.int ++ [.int 9]))) sp rp ⟨x, y, z, r⟩ := ⟨SqT.keeps SL4.q tt4, by rw [upd_ne ne1]; exact SL4.r⟩
        have ek5 : (upd H4 q4 (.lst (r.map V.int ++ [.int 9]))) kp = some (.lst (r.map V.int)) := by rw [upd_ne ne2]; exact ek4
        have A5 := A4.set (o := .lst (r.map V.int ++ [.int 9])) ne3 ne4
        generalize upd H4 q4 (.lst (r.map V.int ++ [.int 9])) = H5 at *
        refine ⟨(by show 2 ≤ sizeLine; decide), fun t2 n2 => ⟨(by show 1 ≤ sizeLine; decide), fun t3 n3 => ⟨(by show 2 ≤ sizeLine; decide), fun t4 n4 => ?_⟩⟩⟩
        have w1 := same_upd (o := .tup [.str "slot", .int 3]) n2
        have w2 := same_upd (o := .tup [.ref t2]) n3
        have w3 := same_upd (o := .tup [.str "tuple", .ref t3]) n4
        have w := w1.trans (w2.trans w3)
        have F2 : FIn K _ t4 sp rp .one ⟨x, y, z, r⟩ 6 10 2 := ⟨⟨t3, t2, SqT.of upd_same, SqT.keeps (SqT.of upd_same) (TupsStay.same w3), SqT.keeps (SqT.of upd_same) (TupsStay.same (w2.trans w3))⟩, True.intro, SL5.same w, by decide, sb, True.intro⟩
        have ek6 := w _ _ ek5
        have A6 := A5.same w
        refine ⟨_, rfl, t4, sp, rp, .o, .one, ⟨x, y, z, r⟩, 10, 2, rfl, F2, by decide, fun v6 H6 rv6 s6 => ?_⟩
        obtain ⟨sq, rq, rfl, e6, e7, nq6⟩ := rv6
        have SL6 := (F2.sl).same s6
        have ek7 := s6 _ _ ek6
        have A7 := A6.same s6
        have ne5 : rp ≠ rq := ne_of_none F2.sl.r nq6
        have ne6 : kp ≠ rq := ne_of_none ek6 nq6
        have ne7 : rq ≠ h := (ne_of_none A6.h nq6).symm
        have ne8 : rq ≠ c := (ne_of_none A6.c nq6).symm
        have e7 : H6 rq = some (.lst (r.map V.int)) := e7
        refine ⟨sq, _, _, _, rfl, rfl, e6, atI_nat (j := 0) rfl, .inl ⟨rfl, _, SqL.of e7⟩, rq, _, _, rfl, rfl, e7, by rw [List.length_map, sizeLine_eq]; omega, ?_⟩
        have er8 : (upd H6 rq (.lst (r.map V.int ++ [.int 9]))) rp = some (.lst (r.map V.int)) := by rw [upd_ne ne5]; exact SL6.r
        have ek8 : (upd H6 rq (.lst (r.map V.int ++ [.int 9]))) kp = some (.lst (r.map V.int)) := by rw [upd_ne ne6]; exact ek7
        have A8 := A7.set (o := .lst (r.map V.int ++ [.int 9])) ne7 ne8
        refine ⟨_, rfl, _, rfl, _, _, Dp.lst (SqL.of er8) (dpInts _), Dp.lst (SqL.of ek8) (dpInts _), shapedInts _, shapedInts _, _, rfl, ite2 (fun cc => ?_) (fun _ => ?_)⟩
        · rw [SeqAt.eqv_refl _ (SeqAt.canLay_of_shaped (shapedInts _))] at cc
          exact absurd cc (by decide)
        exact ⟨_, _, _, _, _, _, _, _, _, _, rfl, A8⟩
    | t =>
        obtain ⟨q3, r3, rfl, e3, nq3⟩ := rvg
        have nr : rp ≠ r3 := ne_of_none er nq3
        have nk : kp ≠ r3 := ne_of_none ek nq3
        have nh : r3 ≠ h := (ne_of_none Ad.h nq3).symm
        have nc : r3 ≠ c := (ne_of_none Ad.c nq3).symm
        have bd : SlB (bt g 10) (ln g 2) (ev g ⟨x, y, z, r⟩) := ev_bd g D.ok (by decide) sb
        have lg := bd.r
        refine ⟨_, rfl, _, _, _, _, false, rfl, .ty "bool", tyT e3.q, kit_ty (by decide +kernel), _, rfl, ite2 (fun c => absurd c (by decide)) (fun _ => ?_)⟩
        refine ⟨_, rfl, _, _, _, _, false, rfl, .ty "list", tyT e3.q, kit_ty (by decide +kernel), _, rfl, ite2 (fun c => absurd c (by decide)) (fun _ => ?_)⟩
        refine ⟨_, rfl, _, _, _, _, true, rfl, .ty "tuple", tyT e3.q, kit_ty (by decide +kernel), _, rfl, ite2 (fun _ => ?_) (fun c => absurd (by decide) c)⟩
        refine ⟨_, rfl, q3, _, _, _, rfl, rfl, e3.q, atI_nat (j := 3) rfl, .inl ⟨rfl, _, SqL.of e3.r⟩, r3, _, _, rfl, rfl, e3.r, by rw [List.length_map, sizeLine_eq]; omega, ?_⟩
        have tt3 : TupsStay Hg (upd Hg r3 (.lst ((ev g ⟨x, y, z, r⟩).r.map V.int ++ [.int 7]))) := .upd e3.r True.intro
        have SLX : SlAt K (upd Hg r3 (.lst ((ev g ⟨x, y, z, r⟩).r.map V.int ++ [.int 7]))) sp rp ⟨x, y, z, r⟩ := ⟨SqT.keeps SLg.q tt3, by rw [upd_ne nr]; exact SLg.r⟩
        have ekX : (upd Hg r3 (.lst ((ev g ⟨x, y, z, r⟩).r.map V.int ++ [.int 7]))) kp = some (.lst (r.map V.int)) := by rw [upd_ne nk]; exact ek2
        have AX := Ag.set (o := .lst ((ev g ⟨x, y, z, r⟩).r.map V.int ++ [.int 7])) nh nc
        generalize upd Hg r3 (.lst ((ev g ⟨x, y, z, r⟩).r.map V.int ++ [.int 7])) = HX at *
        refine ⟨(by show 2 ≤ sizeLine; decide), fun t1 n1 => ?_⟩
        have v1 := same_upd (o := .tup [.str "slot", .int 3]) n1
        have F1 : FIn K (upd HX t1 (.tup [.str "slot", .int 3])) t1 sp rp .slot3 ⟨x, y, z, r⟩ 6 10 2 := ⟨SqT.of upd_same, True.intro, SLX.same v1, by decide, sb, True.intro⟩
        have ekX := v1 _ _ ekX
        have AX := AX.same v1
        refine ⟨_, rfl, t1, sp, rp, .r, .slot3, ⟨x, y, z, r⟩, 10, 2, rfl, F1, by decide, fun v4 H4 rv4 s4 => ?_⟩
        obtain ⟨q4, rfl, e4, nq4⟩ := rv4
        have SL4 := (F1.sl).same s4
        have ek4 := s4 _ _ ekX
        have A4 := AX.same s4
        have ne1 : rp ≠ q4 := ne_of_none F1.sl.r nq4
        have ne2 : kp ≠ q4 := ne_of_none ekX nq4
        have ne3 : q4 ≠ h := (ne_of_none AX.h nq4).symm
        have ne4 : q4 ≠ c := (ne_of_none AX.c nq4).symm
        have e4 : H4 q4 = some (.lst (r.map V.int)) := e4
        refine ⟨.inl ⟨rfl, _, SqL.of e4⟩, q4, _, _, rfl, rfl, e4, by rw [List.length_map, sizeLine_eq]; omega, ?_⟩
        have tt4 : TupsStay H4 (upd H4 q4 (.lst (r.map V.int ++ [.int 9]))) := .upd e4 True.intro
        have SL5 : SlAt K (upd H4 q4 (.lst (r.map V.int ++ [.int 9]))) sp rp ⟨x, y, z, r⟩ := ⟨SqT.keeps SL4.q tt4, by rw [upd_ne ne1]; exact SL4.r⟩
        have ek5 : (upd H4 q4 (.lst (r.map V.int ++ [.int 9]))) kp = some (.lst (r.map V.int)) := by rw [upd_ne ne2]; exact ek4
        have A5 := A4.set (o := .lst (r.map V.int ++ [.int 9])) ne3 ne4
        generalize upd H4 q4 (.lst (r.map V.int ++ [.int 9])) = H5 at *
        refine ⟨(by show 2 ≤ sizeLine; decide), fun t2 n2 => ⟨(by show 1 ≤ sizeLine; decide), fun t3 n3 => ⟨(by show 2 ≤ sizeLine; decide), fun t4 n4 => ?_⟩⟩⟩
        have w1 := same_upd (o := .tup [.str "slot", .int 3]) n2
        have w2 := same_upd (o := .tup [.ref t2]) n3
        have w3 := same_upd (o := .tup [.str "tuple", .ref t3]) n4
        have w := w1.trans (w2.trans w3)
        have F2 : FIn K _ t4 sp rp .one ⟨x, y, z, r⟩ 6 10 2 := ⟨⟨t3, t2, SqT.of upd_same, SqT.keeps (SqT.of upd_same) (TupsStay.same w3), SqT.keeps (SqT.of upd_same) (TupsStay.same (w2.trans w3))⟩, True.intro, SL5.same w, by decide, sb, True.intro⟩
        have ek6 := w _ _ ek5
        have A6 := A5.same w
        refine ⟨_, rfl, t4, sp, rp, .o, .one, ⟨x, y, z, r⟩, 10, 2, rfl, F2, by decide, fun v6 H6 rv6 s6 => ?_⟩
        obtain ⟨sq, rq, rfl, e6, e7, nq6⟩ := rv6
        have SL6 := (F2.sl).same s6
        have ek7 := s6 _ _ ek6
        have A7 := A6.same s6
        have ne5 : rp ≠ rq := ne_of_none F2.sl.r nq6
        have ne6 : kp ≠ rq := ne_of_none ek6 nq6
        have ne7 : rq ≠ h := (ne_of_none A6.h nq6).symm
        have ne8 : rq ≠ c := (ne_of_none A6.c nq6).symm
        have e7 : H6 rq = some (.lst (r.map V.int)) := e7
        refine ⟨sq, _, _, _, rfl, rfl, e6, atI_nat (j := 0) rfl, .inl ⟨rfl, _, SqL.of e7⟩, rq, _, _, rfl, rfl, e7, by rw [List.length_map, sizeLine_eq]; omega, ?_⟩
        have er8 : (upd H6 rq (.lst (r.map V.int ++ [.int 9]))) rp = some (.lst (r.map V.int)) := by rw [upd_ne ne5]; exact SL6.r
        have ek8 : (upd H6 rq (.lst (r.map V.int ++ [.int 9]))) kp = some (.lst (r.map V.int)) := by rw [upd_ne ne6]; exact ek7
        have A8 := A7.set (o := .lst (r.map V.int ++ [.int 9])) ne7 ne8
        refine ⟨_, rfl, _, rfl, _, _, Dp.lst (SqL.of er8) (dpInts _), Dp.lst (SqL.of ek8) (dpInts _), shapedInts _, shapedInts _, _, rfl, ite2 (fun cc => ?_) (fun _ => ?_)⟩
        · rw [SeqAt.eqv_refl _ (SeqAt.canLay_of_shaped (shapedInts _))] at cc
          exact absurd cc (by decide)
        exact ⟨_, _, _, _, _, _, _, _, _, _, rfl, A8⟩
end
set_option maxHeartbeats 4000000 in
theorem all_mk {l : PySem.W.OpenLaw} {w : World} {K : PySem.W.Frag} {h : Heap} {mg : Str → Option Value} {fa : Addr} (X : K.In h) (G : h.Ns mainGlobals mg) (hfa : mg "law" = some (.ref fa))
    {f0 : Addr} {od0 an0 : Option Addr} {sl0 : Array (Option Value)} {oc0 kV0 dc0 pm0 cd0 ct0 : Value}
    (a0 : PySem.W.nsIn K mainGlobals "value" = some (some (.ref f0))) (l0 : K.lookup f0 = some ⟨oc0, od0, .func (PySem.W.fnOf "value" "value" (defArgs s_value) (defBody s_value) (defScope s_value) .none kV0 dc0 pm0 an0 cd0 ct0), sl0⟩) (c0 : PySem.W.codeIn K cd0 "value" = true) (k0 : PySem.W.keepIn K (.ref f0) = true)
    {f1 : Addr} {od1 an1 : Option Addr} {sl1 : Array (Option Value)} {oc1 kV1 dc1 pm1 cd1 ct1 : Value}
    (a1 : PySem.W.nsIn K mainGlobals "_told" = some (some (.ref f1))) (l1 : K.lookup f1 = some ⟨oc1, od1, .func (PySem.W.fnOf "_told" "_told" (defArgs s_told) (defBody s_told) (defScope s_told) .none kV1 dc1 pm1 an1 cd1 ct1), sl1⟩) (c1 : PySem.W.codeIn K cd1 "_told" = true) (k1 : PySem.W.keepIn K (.ref f1) = true)
    {f2 : Addr} {od2 an2 : Option Addr} {sl2 : Array (Option Value)} {oc2 kV2 dc2 pm2 cd2 ct2 : Value}
    (a2 : PySem.W.nsIn K mainGlobals "_number_told" = some (some (.ref f2))) (l2 : K.lookup f2 = some ⟨oc2, od2, .func (PySem.W.fnOf "_number_told" "_number_told" (defArgs s_number_told) (defBody s_number_told) (defScope s_number_told) .none kV2 dc2 pm2 an2 cd2 ct2), sl2⟩) (c2 : PySem.W.codeIn K cd2 "_number_told" = true) (k2 : PySem.W.keepIn K (.ref f2) = true)
    {f3 : Addr} {od3 an3 : Option Addr} {sl3 : Array (Option Value)} {oc3 kV3 dc3 pm3 cd3 ct3 : Value}
    (a3 : PySem.W.nsIn K mainGlobals "_told_by_turns" = some (some (.ref f3))) (l3 : K.lookup f3 = some ⟨oc3, od3, .func (PySem.W.fnOf "_told_by_turns" "_told_by_turns" (defArgs s_told_by_turns) (defBody s_told_by_turns) (defScope s_told_by_turns) .none kV3 dc3 pm3 an3 cd3 ct3), sl3⟩) (c3 : PySem.W.codeIn K cd3 "_told_by_turns" = true) (k3 : PySem.W.keepIn K (.ref f3) = true)
    {f4 : Addr} {od4 an4 : Option Addr} {sl4 : Array (Option Value)} {oc4 kV4 dc4 pm4 cd4 ct4 : Value}
    (a4 : PySem.W.nsIn K mainGlobals "_copied" = some (some (.ref f4))) (l4 : K.lookup f4 = some ⟨oc4, od4, .func (PySem.W.fnOf "_copied" "_copied" (defArgs s_copied) (defBody s_copied) (defScope s_copied) .none kV4 dc4 pm4 an4 cd4 ct4), sl4⟩) (c4 : PySem.W.codeIn K cd4 "_copied" = true) (k4 : PySem.W.keepIn K (.ref f4) = true)
    {f5 : Addr} {od5 an5 : Option Addr} {sl5 : Array (Option Value)} {oc5 kV5 dc5 pm5 cd5 ct5 : Value}
    (a5 : PySem.W.nsIn K mainGlobals "_law_next" = some (some (.ref f5))) (l5 : K.lookup f5 = some ⟨oc5, od5, .func (PySem.W.fnOf "_law_next" "_law_next" (defArgs s_law_next) (defBody s_law_next) (defScope s_law_next) .none kV5 dc5 pm5 an5 cd5 ct5), sl5⟩) (c5 : PySem.W.codeIn K cd5 "_law_next" = true) (k5 : PySem.W.keepIn K (.ref f5) = true)
    {f6 : Addr} {od6 an6 : Option Addr} {sl6 : Array (Option Value)} {oc6 kV6 dc6 pm6 cd6 ct6 : Value}
    (a6 : PySem.W.nsIn K mainGlobals "_law_number" = some (some (.ref f6))) (l6 : K.lookup f6 = some ⟨oc6, od6, .func (PySem.W.fnOf "_law_number" "_law_number" (defArgs s_law_number) (defBody s_law_number) (defScope s_law_number) .none kV6 dc6 pm6 an6 cd6 ct6), sl6⟩) (c6 : PySem.W.codeIn K cd6 "_law_number" = true) (k6 : PySem.W.keepIn K (.ref f6) = true)
    {f7 : Addr} {od7 an7 : Option Addr} {sl7 : Array (Option Value)} {oc7 kV7 dc7 pm7 cd7 ct7 : Value}
    (a7 : PySem.W.nsIn K mainGlobals "_law_rowed" = some (some (.ref f7))) (l7 : K.lookup f7 = some ⟨oc7, od7, .func (PySem.W.fnOf "_law_rowed" "_law_rowed" (defArgs s_law_rowed) (defBody s_law_rowed) (defScope s_law_rowed) .none kV7 dc7 pm7 an7 cd7 ct7), sl7⟩) (c7 : PySem.W.codeIn K cd7 "_law_rowed" = true) (k7 : PySem.W.keepIn K (.ref f7) = true)
    {f8 : Addr} {od8 an8 : Option Addr} {sl8 : Array (Option Value)} {oc8 kV8 dc8 pm8 cd8 ct8 : Value}
    (a8 : PySem.W.nsIn K mainGlobals "_law_tuple" = some (some (.ref f8))) (l8 : K.lookup f8 = some ⟨oc8, od8, .func (PySem.W.fnOf "_law_tuple" "_law_tuple" (defArgs s_law_tuple) (defBody s_law_tuple) (defScope s_law_tuple) .none kV8 dc8 pm8 an8 cd8 ct8), sl8⟩) (c8 : PySem.W.codeIn K cd8 "_law_tuple" = true) (k8 : PySem.W.keepIn K (.ref f8) = true)
    {f9 : Addr} {od9 an9 : Option Addr} {sl9 : Array (Option Value)} {oc9 kV9 dc9 pm9 cd9 ct9 : Value}
    (a9 : PySem.W.nsIn K mainGlobals "_law_flat" = some (some (.ref f9))) (l9 : K.lookup f9 = some ⟨oc9, od9, .func (PySem.W.fnOf "_law_flat" "_law_flat" (defArgs s_law_flat) (defBody s_law_flat) (defScope s_law_flat) .none kV9 dc9 pm9 an9 cd9 ct9), sl9⟩) (c9 : PySem.W.codeIn K cd9 "_law_flat" = true) (k9 : PySem.W.keepIn K (.ref f9) = true)
    {f10 : Addr} {od10 an10 : Option Addr} {sl10 : Array (Option Value)} {oc10 kV10 dc10 pm10 cd10 ct10 : Value}
    (a10 : PySem.W.nsIn K mainGlobals "_law_come_to" = some (some (.ref f10))) (l10 : K.lookup f10 = some ⟨oc10, od10, .func (PySem.W.fnOf "_law_come_to" "_law_come_to" (defArgs s_law_come_to) (defBody s_law_come_to) (defScope s_law_come_to) .none kV10 dc10 pm10 an10 cd10 ct10), sl10⟩) (c10 : PySem.W.codeIn K cd10 "_law_come_to" = true) (k10 : PySem.W.keepIn K (.ref f10) = true)
    {f11 : Addr} {od11 an11 : Option Addr} {sl11 : Array (Option Value)} {oc11 kV11 dc11 pm11 cd11 ct11 : Value}
    (a11 : PySem.W.nsIn K mainGlobals "law" = some (some (.ref f11))) (l11 : K.lookup f11 = some ⟨oc11, od11, .func (PySem.W.fnOf "law" "law" (defArgs s_law) (defBody s_law) (defScope s_law) .none kV11 dc11 pm11 an11 cd11 ct11), sl11⟩) (c11 : PySem.W.codeIn K cd11 "law" = true) (k11 : PySem.W.keepIn K (.ref f11) = true)
    (z_tuple : PySem.W.nsIn K mainGlobals "tuple" = some none)
    (z_max : PySem.W.nsIn K mainGlobals "max" = some none)
    (z_range : PySem.W.nsIn K mainGlobals "range" = some none)
    (z_isinstance : PySem.W.nsIn K mainGlobals "isinstance" = some none)
    (z_list : PySem.W.nsIn K mainGlobals "list" = some none)
    (z_len : PySem.W.nsIn K mainGlobals "len" = some none)
    (z_int : PySem.W.nsIn K mainGlobals "int" = some none)
    (z_bool : PySem.W.nsIn K mainGlobals "bool" = some none) :
    ∃ fd : FuncData, (∀ (s : Shared) (v : Value), BindsTo s fd ⟨[v], []⟩ [("_law_script", v)]) ∧ ∀ base : Heap, K.In base → base.Ns mainGlobals mg → FnOk l.prog w K mg base CX0 90 fa fd ["_law_script"] (spLaw K) := by
  have e := hfa.symm.trans (PySem.W.mg_of X G a11)
  cases e
  have F0 := fun_mk (st := s_value) l0 c0 k0
  have D0 : DefAt K mg "value" "value" s_value ["fold", "slots"] _ _ := ⟨F0, PySem.W.mg_of X G a0, F0.binds (ps := ["fold", "slots"]) fun _ _ _ _ _ _ us hl => match us, hl with | [_, _], _ => rfl⟩
  have F1 := fun_mk (st := s_told) l1 c1 k1
  have D1 : DefAt K mg "_told" "_told" s_told ["fold", "slots"] _ _ := ⟨F1, PySem.W.mg_of X G a1, F1.binds (ps := ["fold", "slots"]) fun _ _ _ _ _ _ us hl => match us, hl with | [_, _], _ => rfl⟩
  have F2 := fun_mk (st := s_number_told) l2 c2 k2
  have D2 : DefAt K mg "_number_told" "_number_told" s_number_told ["fold", "slots"] _ _ := ⟨F2, PySem.W.mg_of X G a2, F2.binds (ps := ["fold", "slots"]) fun _ _ _ _ _ _ us hl => match us, hl with | [_, _], _ => rfl⟩
  have F3 := fun_mk (st := s_told_by_turns) l3 c3 k3
  have D3 : DefAt K mg "_told_by_turns" "_told_by_turns" s_told_by_turns ["fold", "slots"] _ _ := ⟨F3, PySem.W.mg_of X G a3, F3.binds (ps := ["fold", "slots"]) fun _ _ _ _ _ _ us hl => match us, hl with | [_, _], _ => rfl⟩
  have F4 := fun_mk (st := s_copied) l4 c4 k4
  have D4 : DefAt K mg "_copied" "_copied" s_copied ["thing"] _ _ := ⟨F4, PySem.W.mg_of X G a4, F4.binds (ps := ["thing"]) fun _ _ _ _ _ _ us hl => match us, hl with | [_], _ => rfl⟩
  have F5 := fun_mk (st := s_law_next) l5 c5 k5
  have D5 : DefAt K mg "_law_next" "_law_next" s_law_next ["_law_h", "_law_many"] _ _ := ⟨F5, PySem.W.mg_of X G a5, F5.binds (ps := ["_law_h", "_law_many"]) fun _ _ _ _ _ _ us hl => match us, hl with | [_, _], _ => rfl⟩
  have F6 := fun_mk (st := s_law_number) l6 c6 k6
  have D6 : DefAt K mg "_law_number" "_law_number" s_law_number ["_law_h", "_law_deep"] _ _ := ⟨F6, PySem.W.mg_of X G a6, F6.binds (ps := ["_law_h", "_law_deep"]) fun _ _ _ _ _ _ us hl => match us, hl with | [_, _], _ => rfl⟩
  have F7 := fun_mk (st := s_law_rowed) l7 c7 k7
  have D7 : DefAt K mg "_law_rowed" "_law_rowed" s_law_rowed ["_law_h", "_law_deep"] _ _ := ⟨F7, PySem.W.mg_of X G a7, F7.binds (ps := ["_law_h", "_law_deep"]) fun _ _ _ _ _ _ us hl => match us, hl with | [_, _], _ => rfl⟩
  have F8 := fun_mk (st := s_law_tuple) l8 c8 k8
  have D8 : DefAt K mg "_law_tuple" "_law_tuple" s_law_tuple ["_law_h", "_law_deep"] _ _ := ⟨F8, PySem.W.mg_of X G a8, F8.binds (ps := ["_law_h", "_law_deep"]) fun _ _ _ _ _ _ us hl => match us, hl with | [_, _], _ => rfl⟩
  have F9 := fun_mk (st := s_law_flat) l9 c9 k9
  have D9 : DefAt K mg "_law_flat" "_law_flat" s_law_flat ["_law_h"] _ _ := ⟨F9, PySem.W.mg_of X G a9, F9.binds (ps := ["_law_h"]) fun _ _ _ _ _ _ us hl => match us, hl with | [_], _ => rfl⟩
  have F10 := fun_mk (st := s_law_come_to) l10 c10 k10
  have D10 : DefAt K mg "_law_come_to" "_law_come_to" s_law_come_to ["_law_fold", "_law_slots"] _ _ := ⟨F10, PySem.W.mg_of X G a10, F10.binds (ps := ["_law_fold", "_law_slots"]) fun _ _ _ _ _ _ us hl => match us, hl with | [_, _], _ => rfl⟩
  have F11 := fun_mk (st := s_law) l11 c11 k11
  have D11 : DefAt K mg "law" "law" s_law ["_law_script"] _ _ := ⟨F11, PySem.W.mg_of X G a11, F11.binds (ps := ["_law_script"]) fun _ _ _ _ _ _ us hl => match us, hl with | [_], _ => rfl⟩
  have T : Txt K mg := ⟨⟨_, _, D0⟩, ⟨_, _, D1⟩, ⟨_, _, D2⟩, ⟨_, _, D3⟩, ⟨_, _, D4⟩, ⟨_, _, D5⟩, ⟨_, _, D6⟩, ⟨_, _, D7⟩, ⟨_, _, D8⟩, ⟨_, _, D9⟩, ⟨_, _, D10⟩, PySem.W.mg_none_of X G z_tuple, PySem.W.mg_none_of X G z_max, PySem.W.mg_none_of X G z_range, PySem.W.mg_none_of X G z_isinstance, PySem.W.mg_none_of X G z_list, PySem.W.mg_none_of X G z_len, PySem.W.mg_none_of X G z_int, PySem.W.mg_none_of X G z_bool⟩
  exact ⟨PySem.W.fnOf "law" "law" (defArgs s_law) (defBody s_law) (defScope s_law) .none kV11 dc11 pm11 an11 cd11 ct11, fun s v => .of_eq rfl, fun base _ _ => ok_law T D11⟩
end K18
open PySem PySem.W PyProof.Rows
set_option maxHeartbeats 0 in
theorem PySem.Challenge.cw_lapfold_k18_folds_reckoned_holds : PySem.Challenge.rw_lapfold_k18_folds_reckoned.Holds := by
  w_on; o_law; k_head; (case hw => w_witness2)
  k_fill
  refine L2.walk_of (l := PySem.Challenge.rw_lapfold_k18_folds_reckoned) (n := 63) (k := 90) (x := "_law_script") (CX := fun _ => L2.CX0) (sp := fun w => K18.spLaw _) rfl (by decide) rfl ⟨rfl, by decide, by decide⟩ (fun w h Y => PySem.W.kIn_of Y) ?F (fun _ _ a ns hl _ hS => ⟨a, ns, rfl, hS, hl, fun _ => rfl⟩) (fun _ _ _ _ _ h => h)
  case F =>
    intro w mg fa h KX G hmg
    refine' K18.all_mk KX G hmg ?a0 ?l0 ?c0 ?k0 ?a1 ?l1 ?c1 ?k1 ?a2 ?l2 ?c2 ?k2 ?a3 ?l3 ?c3 ?k3 ?a4 ?l4 ?c4 ?k4 ?a5 ?l5 ?c5 ?k5 ?a6 ?l6 ?c6 ?k6 ?a7 ?l7 ?c7 ?k7 ?a8 ?l8 ?c8 ?k8 ?a9 ?l9 ?c9 ?k9 ?a10 ?l10 ?c10 ?k10 ?a11 ?l11 ?c11 ?k11 ?z_tuple ?z_max ?z_range ?z_isinstance ?z_list ?z_len ?z_int ?z_bool
    (case a0 => k_is)
    (case l0 => k_is)
    (case c0 => k_is)
    (case k0 => k_is)
    (case a1 => k_is)
    (case l1 => k_is)
    (case c1 => k_is)
    (case k1 => k_is)
    (case a2 => k_is)
    (case l2 => k_is)
    (case c2 => k_is)
    (case k2 => k_is)
    (case a3 => k_is)
    (case l3 => k_is)
    (case c3 => k_is)
    (case k3 => k_is)
    (case a4 => k_is)
    (case l4 => k_is)
    (case c4 => k_is)
    (case k4 => k_is)
    (case a5 => k_is)
    (case l5 => k_is)
    (case c5 => k_is)
    (case k5 => k_is)
    (case a6 => k_is)
    (case l6 => k_is)
    (case c6 => k_is)
    (case k6 => k_is)
    (case a7 => k_is)
    (case l7 => k_is)
    (case c7 => k_is)
    (case k7 => k_is)
    (case a8 => k_is)
    (case l8 => k_is)
    (case c8 => k_is)
    (case k8 => k_is)
    (case a9 => k_is)
    (case l9 => k_is)
    (case c9 => k_is)
    (case k9 => k_is)
    (case a10 => k_is)
    (case l10 => k_is)
    (case c10 => k_is)
    (case k10 => k_is)
    (case a11 => k_is)
    (case l11 => k_is)
    (case c11 => k_is)
    (case k11 => k_is)
    (case z_tuple => k_is)
    (case z_max => k_is)
    (case z_range => k_is)
    (case z_isinstance => k_is)
    (case z_list => k_is)
    (case z_len => k_is)
    (case z_int => k_is)
    (case z_bool => k_is)
