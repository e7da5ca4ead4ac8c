import PyProof.Rows.All
import Wide.All
import OpenK.AllK
import Wide.FinOn
import HandS.ForMost
import HandS.Gcd
import HandS.Wide
import HandS.IsInst
import HandS.NoneIn
import HandS.DictTup
import HandS.DictComp
import KE.KDictKeyed
import KE.KDictDisplayH
import KE.KEqDict
import HandS.Conv
import HandS.Text
import HandS.Iter
import HandS.SortInts
import KE.KDictSum
import HandS.SetKeys
import HandS.SetTxt0
import HandS.Set
import HandS.TupLe
import HandS.More
import KE.KMinKey
import HandS.SortKw
import HandS.TupLen
import HandS.Style
import HandS.TupSets
import HandS.ExcOwn
import HandS.ExcIs
import HandS.Exc
import KE.GoesEnum
import KE.GoesMore
import HandS.TupAny
import HandS.TryOnly
import HandS.WordsExc
import HandS.FStr
import HandS.FStrTup
import HandS.TupMul
import HandS.Deep
import HandS.RaiseMore
import HandS.ExcInit
import HandS.ExcField
import HandS.ClsMeth
import PyProof.TypeEq
import PyProof.InstNe
import KE.KDictWalk
import KE.KExcIs
import PySem.Challenge.RW_lapfold_k22_refusals_stand_apart
set_option Elab.async false
set_option linter.all false
set_option maxRecDepth 100000
namespace K22
open PySem PySem.Spec PyProof.Rows L2
def topS (i : Nat) : Stmt := PySem.Challenge.pw_lapfold_k22_refusals_stand_apart.main.body.getD i (.Pass ⟨0, 0, 0, 0⟩)
abbrev s_share : Stmt := topS 8
theorem sc_share : FnScope ["top", "bottom", "common"] ["top", "bottom"] (defScope s_share) := ⟨rfl, rfl, rfl, by decide +kernel, rfl, by decide +kernel, by decide +kernel⟩
abbrev s_plus : Stmt := topS 9
theorem sc_plus : FnScope ["one", "other"] ["one", "other"] (defScope s_plus) := ⟨rfl, rfl, rfl, by decide +kernel, rfl, by decide +kernel, by decide +kernel⟩
abbrev s_minus : Stmt := topS 10
theorem sc_minus : FnScope ["one", "other"] ["one", "other"] (defScope s_minus) := ⟨rfl, rfl, rfl, by decide +kernel, rfl, by decide +kernel, by decide +kernel⟩
abbrev s_times : Stmt := topS 11
theorem sc_times : FnScope ["one", "other"] ["one", "other"] (defScope s_times) := ⟨rfl, rfl, rfl, by decide +kernel, rfl, by decide +kernel, by decide +kernel⟩
abbrev s_sum_of_number : Stmt := topS 16
theorem sc_sum_of_number : FnScope ["n", "parts"] ["n"] (defScope s_sum_of_number) := ⟨rfl, rfl, rfl, by decide +kernel, rfl, by decide +kernel, by decide +kernel⟩
abbrev s_sum_of_name : Stmt := topS 17
theorem sc_sum_of_name : FnScope ["x"] ["x"] (defScope s_sum_of_name) := ⟨rfl, rfl, rfl, by decide +kernel, rfl, by decide +kernel, by decide +kernel⟩
abbrev s_added : Stmt := topS 18
theorem sc_added : FnScope ["one", "other", "total", "product", "part"] ["one", "other"] (defScope s_added) := ⟨rfl, rfl, rfl, by decide +kernel, rfl, by decide +kernel, by decide +kernel⟩
abbrev s_lessened : Stmt := topS 19
theorem sc_lessened : FnScope ["one", "other", "product", "part", "total"] ["one", "other"] (defScope s_lessened) := ⟨rfl, rfl, rfl, by decide +kernel, rfl, by decide +kernel, by decide +kernel⟩
abbrev s_timed : Stmt := topS 20
theorem sc_timed : FnScope ["one", "other", "total", "product", "part", "other_product", "other_part"] ["one", "other"] (defScope s_timed) := ⟨rfl, rfl, rfl, by decide +kernel, rfl, by decide +kernel, by decide +kernel⟩
abbrev s_put_in : Stmt := topS 21
theorem sc_put_in : FnScope ["given", "filling", "risen", "total", "product", "part"] ["given", "filling"] (defScope s_put_in) := ⟨rfl, rfl, rfl, by decide +kernel, rfl, by decide +kernel, by decide +kernel⟩
abbrev s_totalled : Stmt := topS 22
theorem sc_totalled : FnScope ["given", "x", "many", "by_power", "risen", "total", "power"] ["given", "x", "many"] (defScope s_totalled) := ⟨rfl, rfl, rfl, by decide +kernel, rfl, by decide +kernel, by decide +kernel⟩
abbrev s_is_natural : Stmt := topS 23
theorem sc_is_natural : FnScope ["given", "part"] ["given"] (defScope s_is_natural) := ⟨rfl, rfl, rfl, by decide +kernel, rfl, by decide +kernel, by decide +kernel⟩
abbrev s_same : Stmt := topS 24
theorem sc_same : FnScope ["one", "other"] ["one", "other"] (defScope s_same) := ⟨rfl, rfl, rfl, by decide +kernel, rfl, by decide +kernel, by decide +kernel⟩
abbrev s_names_in : Stmt := topS 25
theorem sc_names_in : FnScope ["given", "found", "product", "name", "_"] ["given"] (defScope s_names_in) := ⟨rfl, rfl, rfl, by decide +kernel, rfl, by decide +kernel, by decide +kernel⟩
abbrev s_put_to : Stmt := topS 26
theorem sc_put_to : FnScope ["shares", "key", "part", "together"] ["shares", "key", "part"] (defScope s_put_to) := ⟨rfl, rfl, rfl, by decide +kernel, rfl, by decide +kernel, by decide +kernel⟩
abbrev s_put_all_to : Stmt := topS 27
theorem sc_put_all_to : FnScope ["parts", "other", "product", "part"] ["parts", "other"] (defScope s_put_all_to) := ⟨rfl, rfl, rfl, by decide +kernel, rfl, by decide +kernel, by decide +kernel⟩
abbrev s_joined : Stmt := topS 28
theorem sc_joined : FnScope ["one", "other", "name", "power", "powers"] ["one", "other"] (defScope s_joined) := ⟨rfl, rfl, rfl, by decide +kernel, rfl, by decide +kernel, by decide +kernel⟩
abbrev s_number_raised : Stmt := topS 29
theorem sc_number_raised : FnScope ["number", "power", "risen", "square", "left"] ["number", "power"] (defScope s_number_raised) := ⟨rfl, rfl, rfl, by decide +kernel, rfl, by decide +kernel, by decide +kernel⟩
abbrev s_powers_of : Stmt := topS 30
theorem sc_powers_of : FnScope ["base", "wanted", "power", "found", "risen", "reached", "_"] ["base", "wanted"] (defScope s_powers_of) := ⟨rfl, rfl, rfl, by decide +kernel, rfl, by decide +kernel, by decide +kernel⟩
abbrev s_part_raised : Stmt := topS 31
theorem sc_part_raised : FnScope ["base", "power", "raised", "product", "top", "bottom", "risen", "name", "many"] ["base", "power"] (defScope s_part_raised) := ⟨rfl, rfl, rfl, by decide +kernel, rfl, by decide +kernel, by decide +kernel⟩
abbrev s_risen_fillings : Stmt := topS 32
theorem sc_risen_fillings : FnScope ["given", "filling", "wanted", "product", "name", "power"] ["given", "filling"] (defScope s_risen_fillings) := ⟨rfl, rfl, rfl, by decide +kernel, rfl, by decide +kernel, by decide +kernel⟩
abbrev s_filled : Stmt := topS 33
theorem sc_filled : FnScope ["product", "part", "risen", "kept", "told", "name", "power", "pair"] ["product", "part", "risen"] (defScope s_filled) := ⟨rfl, rfl, rfl, by decide +kernel, rfl, by decide +kernel, by decide +kernel⟩
abbrev s_power_in : Stmt := topS 34
theorem sc_power_in : FnScope ["product", "x", "name", "power"] ["product", "x"] (defScope s_power_in) := ⟨rfl, rfl, rfl, by decide +kernel, rfl, by decide +kernel, by decide +kernel⟩
abbrev s_totals_by_power : Stmt := topS 35
theorem sc_totals_by_power : FnScope ["given", "x", "product", "highest", "rows", "found", "part", "rest", "row", "power", "pair"] ["given", "x"] (defScope s_totals_by_power) := ⟨rfl, rfl, rfl, by decide +kernel, rfl, by decide +kernel, by decide +kernel⟩
abbrev s_sums_of_powers : Stmt := topS 36
theorem sc_sums_of_powers : FnScope ["highest", "rows", "k"] ["highest"] (defScope s_sums_of_powers) := ⟨rfl, rfl, rfl, by decide +kernel, rfl, by decide +kernel, by decide +kernel⟩
abbrev s_next_sum_of_powers : Stmt := topS 37
theorem sc_next_sum_of_powers : FnScope ["row", "k", "grown", "rest", "part", "power"] ["row", "k"] (defScope s_next_sum_of_powers) := ⟨rfl, rfl, rfl, by decide +kernel, rfl, by decide +kernel, by decide +kernel⟩
abbrev s_need_program : Stmt := topS 47
theorem sc_need_program : FnScope ["program"] ["program"] (defScope s_need_program) := ⟨rfl, rfl, rfl, by decide +kernel, rfl, by decide +kernel, by decide +kernel⟩
abbrev s_names_of : Stmt := topS 48
theorem sc_names_of : FnScope ["program", "found"] ["program"] (defScope s_names_of) := ⟨rfl, rfl, rfl, by decide +kernel, rfl, by decide +kernel, by decide +kernel⟩
abbrev s_sum_told : Stmt := topS 49
theorem sc_sum_told : FnScope ["expression", "word", "one", "other"] ["expression"] (defScope s_sum_told) := ⟨rfl, rfl, rfl, by decide +kernel, rfl, by decide +kernel, by decide +kernel⟩
abbrev s_word_of : Stmt := topS 50
theorem sc_word_of : FnScope ["thing", "forms", "word"] ["thing", "forms"] (defScope s_word_of) := ⟨rfl, rfl, rfl, by decide +kernel, rfl, by decide +kernel, by decide +kernel⟩
abbrev s_need_row : Stmt := topS 51
theorem sc_need_row : FnScope ["row", "statements", "laps", "parts", "left", "statement"] ["row", "statements", "laps"] (defScope s_need_row) := ⟨rfl, rfl, rfl, by decide +kernel, rfl, by decide +kernel, by decide +kernel⟩
abbrev s_need_statement : Stmt := topS 52
theorem sc_need_statement : FnScope ["statement", "statements", "laps", "word"] ["statement", "statements", "laps"] (defScope s_need_statement) := ⟨rfl, rfl, rfl, by decide +kernel, rfl, by decide +kernel, by decide +kernel⟩
abbrev s_need_expression : Stmt := topS 53
theorem sc_need_expression : FnScope ["expression", "deep", "word"] ["expression", "deep"] (defScope s_need_expression) := ⟨rfl, rfl, rfl, by decide +kernel, rfl, by decide +kernel, by decide +kernel⟩
abbrev s_need_number : Stmt := topS 54
theorem sc_need_number : FnScope ["n"] ["n"] (defScope s_need_number) := ⟨rfl, rfl, rfl, by decide +kernel, rfl, by decide +kernel, by decide +kernel⟩
abbrev s_need_name : Stmt := topS 55
theorem sc_need_name : FnScope ["x", "sign"] ["x"] (defScope s_need_name) := ⟨rfl, rfl, rfl, by decide +kernel, rfl, by decide +kernel, by decide +kernel⟩
abbrev s_find_in_row : Stmt := topS 56
theorem sc_find_in_row : FnScope ["row", "found", "statement"] ["row", "found"] (defScope s_find_in_row) := ⟨rfl, rfl, rfl, by decide +kernel, rfl, by decide +kernel, by decide +kernel⟩
abbrev s_find_in_expression : Stmt := topS 57
theorem sc_find_in_expression : FnScope ["expression", "found"] ["expression", "found"] (defScope s_find_in_expression) := ⟨rfl, rfl, rfl, by decide +kernel, rfl, by decide +kernel, by decide +kernel⟩
abbrev s_hangs_on_blurred : Stmt := topS 61
theorem sc_hangs_on_blurred : FnScope ["given", "word"] ["given"] (defScope s_hangs_on_blurred) := ⟨rfl, rfl, rfl, by decide +kernel, rfl, by decide +kernel, by decide +kernel⟩
abbrev s_at_first : Stmt := topS 62
theorem sc_at_first : FnScope ["names", "name"] ["names"] (defScope s_at_first) := ⟨rfl, rfl, rfl, by decide +kernel, rfl, by decide +kernel, by decide +kernel⟩
abbrev s_names_of_lap : Stmt := topS 63
theorem sc_names_of_lap : FnScope ["lap"] ["lap"] (defScope s_names_of_lap) := ⟨rfl, rfl, rfl, by decide +kernel, rfl, by decide +kernel, by decide +kernel⟩
abbrev s_behind_turn : Stmt := topS 64
theorem sc_behind_turn : FnScope ["lap"] ["lap"] (defScope s_behind_turn) := ⟨rfl, rfl, rfl, by decide +kernel, rfl, by decide +kernel, by decide +kernel⟩
abbrev s_do_set : Stmt := topS 65
theorem sc_do_set : FnScope ["sums", "statement"] ["sums", "statement"] (defScope s_do_set) := ⟨rfl, rfl, rfl, by decide +kernel, rfl, by decide +kernel, by decide +kernel⟩
abbrev s_do_lap : Stmt := topS 66
theorem sc_do_lap : FnScope ["sums", "lap", "turn", "guard", "ends", "name"] ["sums", "lap", "turn"] (defScope s_do_lap) := ⟨rfl, rfl, rfl, by decide +kernel, rfl, by decide +kernel, by decide +kernel⟩
abbrev s_is_even : Stmt := topS 67
theorem sc_is_even : FnScope ["guard", "turn"] ["guard", "turn"] (defScope s_is_even) := ⟨rfl, rfl, rfl, by decide +kernel, rfl, by decide +kernel, by decide +kernel⟩
abbrev s_told_in_turns : Stmt := topS 68
theorem sc_told_in_turns : FnScope ["guard", "turn", "one_taken", "told", "name", "growths", "more_told"] ["guard", "turn"] (defScope s_told_in_turns) := ⟨rfl, rfl, rfl, by decide +kernel, rfl, by decide +kernel, by decide +kernel⟩
abbrev s_all_told : Stmt := topS 69
theorem sc_all_told : FnScope ["given", "told", "name"] ["given", "told"] (defScope s_all_told) := ⟨rfl, rfl, rfl, by decide +kernel, rfl, by decide +kernel, by decide +kernel⟩
abbrev s_grown : Stmt := topS 70
theorem sc_grown : FnScope ["growth", "told"] ["growth", "told"] (defScope s_grown) := ⟨rfl, rfl, rfl, by decide +kernel, rfl, by decide +kernel, by decide +kernel⟩
abbrev s_in_turn : Stmt := topS 71
theorem sc_in_turn : FnScope ["given", "number", "ahead"] ["given", "number", "ahead"] (defScope s_in_turn) := ⟨rfl, rfl, rfl, by decide +kernel, rfl, by decide +kernel, by decide +kernel⟩
abbrev s_behind : Stmt := topS 72
theorem sc_behind : FnScope ["row", "names", "sums", "statement"] ["row", "names"] (defScope s_behind) := ⟨rfl, rfl, rfl, by decide +kernel, rfl, by decide +kernel, by decide +kernel⟩
abbrev s_keep : Stmt := topS 73
theorem sc_keep : FnScope ["sums", "name", "told"] ["sums", "name", "told"] (defScope s_keep) := ⟨rfl, rfl, rfl, by decide +kernel, rfl, by decide +kernel, by decide +kernel⟩
abbrev s_blurred : Stmt := topS 74
theorem sc_blurred : FnScope ["name"] ["name"] (defScope s_blurred) := ⟨rfl, rfl, rfl, by decide +kernel, rfl, by decide +kernel, by decide +kernel⟩
abbrev s_may_set : Stmt := topS 75
theorem sc_may_set : FnScope ["row", "found", "statement", "name"] ["row"] (defScope s_may_set) := ⟨rfl, rfl, rfl, by decide +kernel, rfl, by decide +kernel, by decide +kernel⟩
abbrev s_ends_of_even : Stmt := topS 76
theorem sc_ends_of_even : FnScope ["guard", "turn", "ahead", "told", "many", "name", "ends", "last"] ["guard", "turn", "ahead"] (defScope s_ends_of_even) := ⟨rfl, rfl, rfl, by decide +kernel, rfl, by decide +kernel, by decide +kernel⟩
abbrev s_looked : Stmt := topS 78
theorem sc_looked : FnScope ["program"] ["program"] (defScope s_looked) := ⟨rfl, rfl, rfl, by decide +kernel, rfl, by decide +kernel, by decide +kernel⟩
abbrev s_look_at_row : Stmt := topS 79
theorem sc_look_at_row : FnScope ["row", "place", "at", "statement", "inner"] ["row", "place"] (defScope s_look_at_row) := ⟨rfl, rfl, rfl, by decide +kernel, rfl, by decide +kernel, by decide +kernel⟩
abbrev s_falls : Stmt := topS 80
theorem sc_falls : FnScope ["lap", "guard", "measure", "ahead", "rest"] ["lap"] (defScope s_falls) := ⟨rfl, rfl, rfl, by decide +kernel, rfl, by decide +kernel, by decide +kernel⟩
abbrev s_count_of : Stmt := topS 82
theorem sc_count_of : FnScope ["program", "count", "_"] ["program"] (defScope s_count_of) := ⟨rfl, rfl, rfl, by decide +kernel, rfl, by decide +kernel, by decide +kernel⟩
abbrev s_counted : Stmt := topS 83
theorem sc_counted : FnScope ["row", "names", "place", "count", "sums", "at", "statement", "inner", "in_row", "turn"] ["row", "names", "place"] (defScope s_counted) := ⟨rfl, rfl, rfl, by decide +kernel, rfl, by decide +kernel, by decide +kernel⟩
abbrev s_count_of_lap : Stmt := topS 84
theorem sc_count_of_lap : FnScope ["guard", "in_row", "turn", "ahead", "place", "told", "each_turn", "count"] ["guard", "in_row", "turn", "ahead", "place"] (defScope s_count_of_lap) := ⟨rfl, rfl, rfl, by decide +kernel, rfl, by decide +kernel, by decide +kernel⟩
abbrev s_ran : Stmt := topS 87
theorem sc_ran : FnScope ["program", "names", "most", "run", "name"] ["program", "names", "most"] (defScope s_ran) := ⟨rfl, rfl, rfl, by decide +kernel, rfl, by decide +kernel, by decide +kernel⟩
abbrev s_do_row : Stmt := topS 88
theorem sc_do_row : FnScope ["run", "row", "place", "at", "statement"] ["run", "row", "place"] (defScope s_do_row) := ⟨rfl, rfl, rfl, by decide +kernel, rfl, by decide +kernel, by decide +kernel⟩
abbrev s_u_do_lap : Stmt := topS 89
theorem sc_u_do_lap : FnScope ["run", "lap", "place", "guard", "measure", "turns"] ["run", "lap", "place"] (defScope s_u_do_lap) := ⟨rfl, rfl, rfl, by decide +kernel, rfl, by decide +kernel, by decide +kernel⟩
abbrev s_reckoned : Stmt := topS 90
theorem sc_reckoned : FnScope ["expression", "names", "word", "one", "other"] ["expression", "names"] (defScope s_reckoned) := ⟨rfl, rfl, rfl, by decide +kernel, rfl, by decide +kernel, by decide +kernel⟩
abbrev s_law_next : Stmt := topS 92
theorem sc_law_next : FnScope ["_law_h", "_law_many", "_law_at", "_law_cell"] ["_law_h", "_law_many"] (defScope s_law_next) := ⟨rfl, rfl, rfl, by decide +kernel, rfl, by decide +kernel, by decide +kernel⟩
abbrev s_law_names : Stmt := topS 93
theorem sc_law_names : FnScope ["_law_h", "_law_some", "_law_word", "_law_turn", "_law_letters", "_law_ends", "_law_k", "_law_letter"] ["_law_h"] (defScope s_law_names) := ⟨rfl, rfl, rfl, by decide +kernel, rfl, by decide +kernel, by decide +kernel⟩
abbrev s_law_refuse : Stmt := topS 94
theorem sc_law_refuse : FnScope ["_law_way", "_law_program", "_law_bad", "_law_names_here"] ["_law_way", "_law_program", "_law_bad", "_law_names_here"] (defScope s_law_refuse) := ⟨rfl, rfl, rfl, by decide +kernel, rfl, by decide +kernel, by decide +kernel⟩
abbrev s_law_kinds : Stmt := topS 95
theorem sc_law_kinds : FnScope ["_law_way", "_law_program", "_law_bad", "_law_names_here", "e", "_law_kinds_here"] ["_law_way", "_law_program", "_law_bad", "_law_names_here"] (defScope s_law_kinds) := ⟨rfl, rfl, rfl, by decide +kernel, rfl, by decide +kernel, by decide +kernel⟩
abbrev s_law : Stmt := topS 96
theorem sc_law : FnScope ["_law_script", "_law_h", "_law_x", "_law_y", "_law_lap", "_law_program", "_law_bad", "_law_names_here", "_law_kept", "_law_turn", "_law_way"] ["_law_script"] (defScope s_law) := ⟨rfl, rfl, rfl, by decide +kernel, rfl, by decide +kernel, by decide +kernel⟩
abbrev s_Sum_init : Stmt := inClass (topS 15) 0
theorem sc_Sum_init : FnScope ["self", "parts", "product", "part"] ["self", "parts"] (defScope s_Sum_init) := ⟨rfl, rfl, rfl, by decide +kernel, rfl, by decide +kernel, by decide +kernel⟩
abbrev s_Run_init : Stmt := inClass (topS 86) 0
theorem sc_Run_init : FnScope ["self", "names", "most", "name", "number"] ["self", "names", "most"] (defScope s_Run_init) := ⟨rfl, rfl, rfl, by decide +kernel, rfl, by decide +kernel, by decide +kernel⟩
abbrev s_NeedntFall_init : Stmt := inClass (topS 5) 0
theorem sc_NeedntFall_init : FnScope ["self", "place"] ["self", "place"] (defScope s_NeedntFall_init) := ⟨rfl, rfl, rfl, by decide +kernel, rfl, by decide +kernel, by decide +kernel⟩
abbrev s_Uneven_init : Stmt := inClass (topS 6) 0
theorem sc_Uneven_init : FnScope ["self", "place"] ["self", "place"] (defScope s_Uneven_init) := ⟨rfl, rfl, rfl, by decide +kernel, rfl, by decide +kernel, by decide +kernel⟩
structure DefAt (K : PySem.W.Frag) (mg : Str → Option Value) (x qual : Str) (st : Stmt) (ps : List Str) (f : Addr) (fd : FuncData) : Prop where
  F : Fun K x qual st f fd
  g : mg x = some (.ref f)
  b : Binds K fd ps []
def HasDef (K : PySem.W.Frag) (mg : Str → Option Value) (x qual : Str) (st : Stmt) (ps : List Str) : Prop := ∃ f fd, DefAt K mg x qual st ps f fd
/-- what is written of the own exceptions -/
structure ExTxt (K : PySem.W.Frag) (mg : Str → Option Value) (L B D N U : Addr) : Prop where
  gL : mg "LapError" = some (.ref L)
  gB : mg "BadForm" = some (.ref B)
  gD : mg "Dry" = some (.ref D)
  gN : mg "NeedntFall" = some (.ref N)
  gU : mg "Uneven" = some (.ref U)
  rL : PySem.W.readsIn K L (.type "type") = true
  yL : PySem.W.specialIn K (.ref L) "__getattribute__" = some (some (.builtin "type.__getattribute__"))
  vL : PySem.W.findCls K (.ref L) (.type "type") "__init__" = some (.val (.builtin "ValueError.__init__"))
  kL : PySem.W.keepIn K (.ref L) = true
  pN : PySem.W.findIn K (.ref N) "place" = some none
  zN : PySem.W.findIn K (.ref N) "__setattr__" = some (some (.builtin "object.__setattr__"))
  pU : PySem.W.findIn K (.ref U) "place" = some none
  zU : PySem.W.findIn K (.ref U) "__setattr__" = some (some (.builtin "object.__setattr__"))
  xB : PySem.W.excIn K B [.type "ValueError", .type "Exception", .type "BaseException", .type "object"] "ValueError.__new__" = true
  kB : PySem.W.keepIn K (.ref B) = true
  bB : PySem.W.subIn K (.ref B) (.type "BaseException") = some true
  tB : PySem.W.typeIn K (.ref B) = some (.type "type")
  bL : PySem.W.subIn K (.ref L) (.type "BaseException") = some true
  hL : PySem.W.hasDictIn K L = true
  tL : PySem.W.typeIn K (.ref L) = some (.type "type")
  sBL : PySem.W.subIn K (.ref B) (.ref L) = some true
  hgB : PySem.W.findIn K (.ref B) "__getattribute__" = some (some (.builtin "BaseException.__getattribute__"))
  hkB : PySem.W.findIn K (.ref B) "__getattr__" = some none
  hdB : PySem.W.hasDictIn K B = true
  haB : PySem.W.findIn K (.ref B) "__class__" = some (some (.builtin "object.__class__"))
  hnB : PySem.W.specialIn K (.builtin "object.__class__") "__get__" = some (some (.builtin "getset_descriptor.__get__"))
  htB : PySem.W.takesIn K (.builtin "object.__class__") = some true
  hmB : PySem.W.mroIn K B (.type "object") = some true
  sBB : PySem.W.subIn K (.ref B) (.ref B) = some true
  iBB : PySem.W.kitOne K (.ref B) (.ref B) = some true
  iBV : PySem.W.kitOne K (.ref B) (.type "ValueError") = some true
  iBD : PySem.W.kitOne K (.ref B) (.ref D) = some false
  iBN : PySem.W.kitOne K (.ref B) (.ref N) = some false
  iBU : PySem.W.kitOne K (.ref B) (.ref U) = some false
  xD : PySem.W.excIn K D [.type "ValueError", .type "Exception", .type "BaseException", .type "object"] "ValueError.__new__" = true
  kD : PySem.W.keepIn K (.ref D) = true
  bD : PySem.W.subIn K (.ref D) (.type "BaseException") = some true
  tD : PySem.W.typeIn K (.ref D) = some (.type "type")
  sDL : PySem.W.subIn K (.ref D) (.ref L) = some true
  hgD : PySem.W.findIn K (.ref D) "__getattribute__" = some (some (.builtin "BaseException.__getattribute__"))
  hkD : PySem.W.findIn K (.ref D) "__getattr__" = some none
  hdD : PySem.W.hasDictIn K D = true
  haD : PySem.W.findIn K (.ref D) "__class__" = some (some (.builtin "object.__class__"))
  hmD : PySem.W.mroIn K D (.type "object") = some true
  sDD : PySem.W.subIn K (.ref D) (.ref D) = some true
  iDD : PySem.W.kitOne K (.ref D) (.ref D) = some true
  iDV : PySem.W.kitOne K (.ref D) (.type "ValueError") = some true
  iDB : PySem.W.kitOne K (.ref D) (.ref B) = some false
  iDN : PySem.W.kitOne K (.ref D) (.ref N) = some false
  iDU : PySem.W.kitOne K (.ref D) (.ref U) = some false
  kN : PySem.W.keepIn K (.ref N) = true
  bN : PySem.W.subIn K (.ref N) (.type "BaseException") = some true
  tN : PySem.W.typeIn K (.ref N) = some (.type "type")
  sNL : PySem.W.subIn K (.ref N) (.ref L) = some true
  hgN : PySem.W.findIn K (.ref N) "__getattribute__" = some (some (.builtin "BaseException.__getattribute__"))
  hkN : PySem.W.findIn K (.ref N) "__getattr__" = some none
  hdN : PySem.W.hasDictIn K N = true
  haN : PySem.W.findIn K (.ref N) "__class__" = some (some (.builtin "object.__class__"))
  hmN : PySem.W.mroIn K N (.type "object") = some true
  sNN : PySem.W.subIn K (.ref N) (.ref N) = some true
  iNN : PySem.W.kitOne K (.ref N) (.ref N) = some true
  iNV : PySem.W.kitOne K (.ref N) (.type "ValueError") = some true
  iNB : PySem.W.kitOne K (.ref N) (.ref B) = some false
  iND : PySem.W.kitOne K (.ref N) (.ref D) = some false
  iNU : PySem.W.kitOne K (.ref N) (.ref U) = some false
  kU : PySem.W.keepIn K (.ref U) = true
  bU : PySem.W.subIn K (.ref U) (.type "BaseException") = some true
  tU : PySem.W.typeIn K (.ref U) = some (.type "type")
  sUL : PySem.W.subIn K (.ref U) (.ref L) = some true
  hgU : PySem.W.findIn K (.ref U) "__getattribute__" = some (some (.builtin "BaseException.__getattribute__"))
  hkU : PySem.W.findIn K (.ref U) "__getattr__" = some none
  hdU : PySem.W.hasDictIn K U = true
  haU : PySem.W.findIn K (.ref U) "__class__" = some (some (.builtin "object.__class__"))
  hmU : PySem.W.mroIn K U (.type "object") = some true
  sUU : PySem.W.subIn K (.ref U) (.ref U) = some true
  iUU : PySem.W.kitOne K (.ref U) (.ref U) = some true
  iUV : PySem.W.kitOne K (.ref U) (.type "ValueError") = some true
  iUB : PySem.W.kitOne K (.ref U) (.ref B) = some false
  iUD : PySem.W.kitOne K (.ref U) (.ref D) = some false
  iUN : PySem.W.kitOne K (.ref U) (.ref N) = some false
  oN : OexC K N
  nN : ∃ f fd, PySem.W.findIn K (.ref N) "__init__" = some (some (.ref f)) ∧ PySem.W.typeIn K (.ref f) = some (.type "function") ∧ Fun K "__init__" "NeedntFall.__init__" s_NeedntFall_init f fd ∧ Binds K fd ["self", "place"] []
  oU : OexC K U
  nU : ∃ f fd, PySem.W.findIn K (.ref U) "__init__" = some (some (.ref f)) ∧ PySem.W.typeIn K (.ref f) = some (.type "function") ∧ Fun K "__init__" "Uneven.__init__" s_Uneven_init f fd ∧ Binds K fd ["self", "place"] []
structure RunTxt (K : PySem.W.Frag) (mg : Str → Option Value) (C_Run : Addr) : Prop where
  cl_Run : Cls K C_Run
  g_Run : mg "Run" = some (.ref C_Run)
  n_Run_entries : NoAttr K C_Run "entries"
  n_Run_most : NoAttr K C_Run "most"
  n_Run_names : NoAttr K C_Run "names"
  n_Run_told : NoAttr K C_Run "told"
  n_Run_turns : NoAttr K C_Run "turns"
  mk_Run : ∃ f fd, Mk K C_Run f ∧ Fun K "__init__" "Run.__init__" s_Run_init f fd ∧ Binds K fd ["self", "names", "most"] []
structure Txt (K : PySem.W.Frag) (mg : Str → Option Value) (C_Sum : Addr) : Prop where
  own_Run : ∃ C, RunTxt K mg C
  cl_Sum : Cls K C_Sum
  g_Sum : mg "Sum" = some (.ref C_Sum)
  n_Sum_parts : NoAttr K C_Sum "parts"
  mk_Sum : ∃ f fd, Mk K C_Sum f ∧ Fun K "__init__" "Sum.__init__" s_Sum_init f fd ∧ Binds K fd ["self", "parts"] []
  c_NOUGHT : ∃ a, mg "NOUGHT" = some (.ref a) ∧ ∀ H, SqT K H a [.int 0, .int 1]
  c_ONE : ∃ a, mg "ONE" = some (.ref a) ∧ ∀ H, SqT K H a [.int 1, .int 1]
  c_TURN : ∃ u, mg "TURN" = some u ∧ RelV (.str "the turn") u
  c_BLURRED : ∃ u, mg "BLURRED" = some u ∧ RelV (.str "blurred ") u
  c_MOST_LETTERS : ∃ u, mg "MOST_LETTERS" = some u ∧ RelV (.int 8) u
  c_HIGHEST_NUMBER : ∃ u, mg "HIGHEST_NUMBER" = some u ∧ RelV (.int 999) u
  c_MOST_DEEP : ∃ u, mg "MOST_DEEP" = some u ∧ RelV (.int 5) u
  c_MOST_STATEMENTS : ∃ u, mg "MOST_STATEMENTS" = some u ∧ RelV (.int 40) u
  c_MOST_LAPS : ∃ u, mg "MOST_LAPS" = some u ∧ RelV (.int 3) u
  c_ROWS : ∃ a, mg "ROWS" = some (.ref a) ∧ ∀ H, Dp K H (.ref a) (.tuple [.tuple [.str "row", .int 2]])
  c_STATEMENTS : ∃ a, mg "STATEMENTS" = some (.ref a) ∧ ∀ H, Dp K H (.ref a) (.tuple [.tuple [.str "set", .int 3], .tuple [.str "say", .int 2], .tuple [.str "lap", .int 4]])
  c_EXPRESSIONS : ∃ a, mg "EXPRESSIONS" = some (.ref a) ∧ ∀ H, Dp K H (.ref a) (.tuple [.tuple [.str "num", .int 2], .tuple [.str "name", .int 2], .tuple [.str "add", .int 3], .tuple [.str "times", .int 3]])
  ex : ∃ L B D N U, ExTxt K mg L B D N U
  d_share : HasDef K mg "share" "share" s_share ["top", "bottom"]
  d_plus : HasDef K mg "plus" "plus" s_plus ["one", "other"]
  d_minus : HasDef K mg "minus" "minus" s_minus ["one", "other"]
  d_times : HasDef K mg "times" "times" s_times ["one", "other"]
  d_sum_of_number : HasDef K mg "sum_of_number" "sum_of_number" s_sum_of_number ["n"]
  d_sum_of_name : HasDef K mg "sum_of_name" "sum_of_name" s_sum_of_name ["x"]
  d_added : HasDef K mg "added" "added" s_added ["one", "other"]
  d_lessened : HasDef K mg "lessened" "lessened" s_lessened ["one", "other"]
  d_timed : HasDef K mg "timed" "timed" s_timed ["one", "other"]
  d_put_in : HasDef K mg "put_in" "put_in" s_put_in ["given", "filling"]
  d_totalled : HasDef K mg "totalled" "totalled" s_totalled ["given", "x", "many"]
  d_is_natural : HasDef K mg "is_natural" "is_natural" s_is_natural ["given"]
  d_same : HasDef K mg "same" "same" s_same ["one", "other"]
  d_names_in : HasDef K mg "names_in" "names_in" s_names_in ["given"]
  d_put_to : HasDef K mg "_put_to" "_put_to" s_put_to ["shares", "key", "part"]
  d_put_all_to : HasDef K mg "_put_all_to" "_put_all_to" s_put_all_to ["parts", "other"]
  d_joined : HasDef K mg "_joined" "_joined" s_joined ["one", "other"]
  d_number_raised : HasDef K mg "_number_raised" "_number_raised" s_number_raised ["number", "power"]
  d_powers_of : HasDef K mg "_powers_of" "_powers_of" s_powers_of ["base", "wanted"]
  d_part_raised : HasDef K mg "_part_raised" "_part_raised" s_part_raised ["base", "power"]
  d_risen_fillings : HasDef K mg "_risen_fillings" "_risen_fillings" s_risen_fillings ["given", "filling"]
  d_filled : HasDef K mg "_filled" "_filled" s_filled ["product", "part", "risen"]
  d_power_in : HasDef K mg "_power_in" "_power_in" s_power_in ["product", "x"]
  d_totals_by_power : HasDef K mg "_totals_by_power" "_totals_by_power" s_totals_by_power ["given", "x"]
  d_sums_of_powers : HasDef K mg "_sums_of_powers" "_sums_of_powers" s_sums_of_powers ["highest"]
  d_next_sum_of_powers : HasDef K mg "_next_sum_of_powers" "_next_sum_of_powers" s_next_sum_of_powers ["row", "k"]
  d_need_program : HasDef K mg "need_program" "need_program" s_need_program ["program"]
  d_names_of : HasDef K mg "names_of" "names_of" s_names_of ["program"]
  d_sum_told : HasDef K mg "sum_told" "sum_told" s_sum_told ["expression"]
  d_word_of : HasDef K mg "_word_of" "_word_of" s_word_of ["thing", "forms"]
  d_need_row : HasDef K mg "_need_row" "_need_row" s_need_row ["row", "statements", "laps"]
  d_need_statement : HasDef K mg "_need_statement" "_need_statement" s_need_statement ["statement", "statements", "laps"]
  d_need_expression : HasDef K mg "_need_expression" "_need_expression" s_need_expression ["expression", "deep"]
  d_need_number : HasDef K mg "_need_number" "_need_number" s_need_number ["n"]
  d_need_name : HasDef K mg "_need_name" "_need_name" s_need_name ["x"]
  d_find_in_row : HasDef K mg "_find_in_row" "_find_in_row" s_find_in_row ["row", "found"]
  d_find_in_expression : HasDef K mg "_find_in_expression" "_find_in_expression" s_find_in_expression ["expression", "found"]
  d_hangs_on_blurred : HasDef K mg "hangs_on_blurred" "hangs_on_blurred" s_hangs_on_blurred ["given"]
  d_at_first : HasDef K mg "at_first" "at_first" s_at_first ["names"]
  d_names_of_lap : HasDef K mg "names_of_lap" "names_of_lap" s_names_of_lap ["lap"]
  d_behind_turn : HasDef K mg "behind_turn" "behind_turn" s_behind_turn ["lap"]
  d_do_set : HasDef K mg "do_set" "do_set" s_do_set ["sums", "statement"]
  d_do_lap : HasDef K mg "do_lap" "do_lap" s_do_lap ["sums", "lap", "turn"]
  d_is_even : HasDef K mg "is_even" "is_even" s_is_even ["guard", "turn"]
  d_told_in_turns : HasDef K mg "told_in_turns" "told_in_turns" s_told_in_turns ["guard", "turn"]
  d_all_told : HasDef K mg "all_told" "all_told" s_all_told ["given", "told"]
  d_grown : HasDef K mg "grown" "grown" s_grown ["growth", "told"]
  d_in_turn : HasDef K mg "in_turn" "in_turn" s_in_turn ["given", "number", "ahead"]
  d_behind : HasDef K mg "_behind" "_behind" s_behind ["row", "names"]
  d_keep : HasDef K mg "_keep" "_keep" s_keep ["sums", "name", "told"]
  d_blurred : HasDef K mg "_blurred" "_blurred" s_blurred ["name"]
  d_may_set : HasDef K mg "_may_set" "_may_set" s_may_set ["row"]
  d_ends_of_even : HasDef K mg "_ends_of_even" "_ends_of_even" s_ends_of_even ["guard", "turn", "ahead"]
  d_looked : HasDef K mg "looked" "looked" s_looked ["program"]
  d_look_at_row : HasDef K mg "_look_at_row" "_look_at_row" s_look_at_row ["row", "place"]
  d_falls : HasDef K mg "_falls" "_falls" s_falls ["lap"]
  d_count_of : HasDef K mg "count_of" "count_of" s_count_of ["program"]
  d_counted : HasDef K mg "_counted" "_counted" s_counted ["row", "names", "place"]
  d_count_of_lap : HasDef K mg "_count_of_lap" "_count_of_lap" s_count_of_lap ["guard", "in_row", "turn", "ahead", "place"]
  d_ran : HasDef K mg "ran" "ran" s_ran ["program", "names", "most"]
  d_do_row : HasDef K mg "_do_row" "_do_row" s_do_row ["run", "row", "place"]
  d_u_do_lap : HasDef K mg "_do_lap" "_do_lap" s_u_do_lap ["run", "lap", "place"]
  d_reckoned : HasDef K mg "_reckoned" "_reckoned" s_reckoned ["expression", "names"]
  d_law_next : HasDef K mg "_law_next" "_law_next" s_law_next ["_law_h", "_law_many"]
  d_law_names : HasDef K mg "_law_names" "_law_names" s_law_names ["_law_h"]
  d_law_refuse : HasDef K mg "_law_refuse" "_law_refuse" s_law_refuse ["_law_way", "_law_program", "_law_bad", "_law_names_here"]
  d_law_kinds : HasDef K mg "_law_kinds" "_law_kinds" s_law_kinds ["_law_way", "_law_program", "_law_bad", "_law_names_here"]
  m_sorted : mg "sorted" = none
  m_all : mg "all" = none
  m_set : mg "set" = none
  m_tuple : mg "tuple" = none
  m_len : mg "len" = none
  m_range : mg "range" = none
  m_max : mg "max" = none
  m_type : mg "type" = none
  m_str : mg "str" = none
  m_int : mg "int" = none
  m_any : mg "any" = none
  m_enumerate : mg "enumerate" = none
  m_isinstance : mg "isinstance" = none
  m_ValueError : mg "ValueError" = none
  m_list : mg "list" = none
  m_dict : mg "dict" = none
  i_gcd : mg "gcd" = some (.builtin "math.gcd")
/-! ### fractions -/
theorem divInt_num_pos {t b : Int} (h : 0 < b) : (Rat.divInt t b).num = t.fdiv ((Nat.gcd t.natAbs b.natAbs : Nat) : Int) := by
  rw [Rat.num_divInt, Int.sign_eq_one_of_pos h, Int.one_mul, Int.fdiv_eq_ediv_of_nonneg _ (by omega), Int.gcd, Nat.gcd_comm]
theorem divInt_den_pos {t b : Int} (h : 0 < b) : ((Rat.divInt t b).den : Int) = b.fdiv ((Nat.gcd t.natAbs b.natAbs : Nat) : Int) := by
  have e : ((b.natAbs : Nat) : Int) = b := by omega
  rw [Rat.den_divInt, if_neg (by omega), Int.fdiv_eq_ediv_of_nonneg _ (by omega), Int.gcd, Nat.gcd_comm, Int.natCast_ediv, e]
theorem gcd_pos {t b : Int} (h : b ≠ 0) : 0 < Nat.gcd t.natAbs b.natAbs := Nat.gcd_pos_of_pos_right _ (by omega)
theorem fdiv_neg_gcd {x : Int} {g : Nat} (hg : 0 < g) (hd : (g : Int) ∣ x) : x.fdiv (-(g : Int)) = (-x).fdiv (g : Int) := by
  obtain ⟨q, rfl⟩ := hd
  have e1 : (g : Int) * q = (-(g : Int)) * (-q) := by rw [Int.neg_mul_neg]
  have e2 : -((g : Int) * q) = (g : Int) * (-q) := by rw [Int.mul_neg]
  rw [e2, Int.mul_fdiv_cancel_left _ (by omega), e1, Int.mul_fdiv_cancel_left _ (by omega)]
theorem divInt_num_neg {t b : Int} (h : b < 0) : (Rat.divInt t b).num = t.fdiv (-((Nat.gcd t.natAbs b.natAbs : Nat) : Int)) := by
  rw [show Rat.divInt t b = Rat.divInt (-t) (-b) from (Rat.neg_divInt_neg t b).symm, divInt_num_pos (by omega : 0 < -b), fdiv_neg_gcd (gcd_pos (by omega)) (Int.ofNat_dvd_left.mpr (Nat.gcd_dvd_left _ _)), Int.natAbs_neg, Int.natAbs_neg]
theorem divInt_den_neg {t b : Int} (h : b < 0) : ((Rat.divInt t b).den : Int) = b.fdiv (-((Nat.gcd t.natAbs b.natAbs : Nat) : Int)) := by
  rw [show Rat.divInt t b = Rat.divInt (-t) (-b) from (Rat.neg_divInt_neg t b).symm, divInt_den_pos (by omega : 0 < -b), fdiv_neg_gcd (gcd_pos (by omega)) (Int.ofNat_dvd_left.mpr (Nat.gcd_dvd_right _ _)), Int.natAbs_neg, Int.natAbs_neg]
/-- the size of a fraction -/
def RB (a : Nat) (r : Rat) : Prop := r.num.natAbs < 2 ^ a ∧ r.den < 2 ^ a
theorem RB.divInt {a : Nat} {t b : Int} (h : b ≠ 0) (ht : t.natAbs < 2 ^ a) (hb : b.natAbs < 2 ^ a) : RB a (Rat.divInt t b) := by
  constructor
  · have hd : ((b.gcd t : Nat) : Int) ∣ b.sign * t := Int.dvd_trans (Int.gcd_dvd_right ..) (Int.dvd_mul_left _ _)
    rw [Rat.num_divInt, Int.natAbs_ediv_of_dvd hd, Int.natAbs_mul, Int.natAbs_sign, if_neg h, Nat.one_mul]
    exact Nat.lt_of_le_of_lt (Nat.div_le_self _ _) ht
  · rw [Rat.den_divInt, if_neg h]
    exact Nat.lt_of_le_of_lt (Nat.div_le_self _ _) hb
theorem RB.mono {a b : Nat} {r : Rat} (h : RB a r) (hab : a ≤ b) : RB b r := ⟨Nat.lt_of_lt_of_le h.1 (Nat.pow_le_pow_right (by decide) hab), Nat.lt_of_lt_of_le h.2 (Nat.pow_le_pow_right (by decide) hab)⟩
theorem den_ne (r : Rat) : (r.den : Int) ≠ 0 := by
  have := r.den_nz
  omega
theorem add_eq (r s : Rat) : r + s = Rat.divInt (r.num * s.den + s.num * r.den) (r.den * s.den) := by
  conv => lhs; rw [← Rat.num_divInt_den r, ← Rat.num_divInt_den s]
  exact Rat.divInt_add_divInt _ _ (den_ne r) (den_ne s)
theorem sub_eq (r s : Rat) : r - s = Rat.divInt (r.num * s.den - s.num * r.den) (r.den * s.den) := by
  conv => lhs; rw [← Rat.num_divInt_den r, ← Rat.num_divInt_den s]
  exact Rat.divInt_sub_divInt _ _ (den_ne r) (den_ne s)
theorem mul_eq (r s : Rat) : r * s = Rat.divInt (r.num * s.num) (r.den * s.den) := by
  conv => lhs; rw [← Rat.num_divInt_den r, ← Rat.num_divInt_den s]
  exact Rat.divInt_mul_divInt _ _ ..
theorem divInt_mul_den (t b : Int) (h : b ≠ 0) : (Rat.divInt t b).num * b = t * (Rat.divInt t b).den := by
  have e : Rat.divInt (Rat.divInt t b).num (Rat.divInt t b).den = Rat.divInt t b := Rat.num_divInt_den _
  exact (Rat.divInt_eq_divInt_iff (den_ne _) h).mp e
theorem natAbs_mul_lt {x y : Int} {a b : Nat} (hx : x.natAbs < 2 ^ a) (hy : y.natAbs < 2 ^ b) : (x * y).natAbs < 2 ^ (a + b) := by
  rw [Int.natAbs_mul, Nat.pow_add]
  exact Nat.mul_lt_mul'' hx hy
theorem natAbs_add_lt {x y : Int} {a : Nat} (hx : x.natAbs < 2 ^ a) (hy : y.natAbs < 2 ^ a) : (x + y).natAbs < 2 ^ (a + 1) := by
  rw [Nat.pow_succ]
  omega
theorem natAbs_sub_lt {x y : Int} {a : Nat} (hx : x.natAbs < 2 ^ a) (hy : y.natAbs < 2 ^ a) : (x - y).natAbs < 2 ^ (a + 1) := by
  rw [Nat.pow_succ]
  omega
theorem lt_up {n a b : Nat} (h : n < 2 ^ a) (hab : a ≤ b) : n < 2 ^ b := Nat.lt_of_lt_of_le h (Nat.pow_le_pow_right (by decide) hab)
/-! ### small things -/
theorem ixNat {n j : Nat} (h : j < n) : ixN n (j : Int) = some j := by
  unfold ixN
  rw [if_pos (by omega), if_pos (by omega)]
  rfl
theorem dpInts {K : PySem.W.Frag} {H : Hp} : ∀ cs : List Int, DpAll K H (cs.map V.int) (cs.map PyData.int)
  | [] => .nil
  | _ :: r => .cons (.int _) (dpInts r)
theorem canLayInts : ∀ cs : List Int, PyData.canLayAll0 (cs.map PyData.int) = true
  | [] => by simp [PyData.canLayAll0]
  | x :: r => by simp [PyData.canLayAll0, PyData.canLay0, canLayInts r]
theorem depthInts : ∀ cs : List Int, PyData.depthAll (cs.map PyData.int) = 0
  | [] => by simp [PyData.depthAll]
  | x :: r => by simp [PyData.depthAll, PyData.depth, depthInts r]
theorem shapedInts (cs : List Int) : SeqAt.shaped (.list (cs.map PyData.int)) = true := by
  simp [SeqAt.shaped, PyData.canLay0, PyData.depth, canLayInts, depthInts]
theorem eqvNil : ∀ cs : List Int, PyData.eqv (.list (cs.map PyData.int)) (.list []) = cs.isEmpty
  | [] => by simp [PyData.eqv, PyData.eqvAll]
  | x :: r => by simp [PyData.eqv, PyData.eqvAll]
/-! ### shares -/
theorem same_upd {H : Hp} {p : Addr} {o : HO} (h : H p = none) : Same H (upd H p o) := fun b x e => by
  rw [upd_ne (ne_of_none e h)]
  exact e
/-- // by any divisor but nought, below 2 ^ 9000 in size -/
def CDivZ (_ j : Int) : Prop := j ≠ 0 ∧ j.natAbs < 2 ^ 9000
theorem op_fdivZ {X : Cx} : OpR X (binaryOp .FloorDiv) (rI CDivZ fun i j => .int (i.fdiv j)) := opI fun _ _ _ _ _ _ _ hc q => floordiv_int hc.1 q (.inl (PyProof.noPylong_of_log2 (PySem.Flt.log2_lt_of (by decide) hc.2)))
theorem mulOk {i j : Int} {a b : Nat} (ha : i.natAbs < 2 ^ a) (hb : j.natAbs < 2 ^ b) (h0 : 0 < a) (h1 : 0 < b) (h : a + b ≤ 8999) : CMulW i j := wide_mul ha hb h0 h1 (by omega)
def ratV (r : Rat) : List V := [.int r.num, .int (r.den : Int)]
theorem ratV_num (r : Rat) : atI (ratV r) 0 = some (.int r.num) := atI_nat (j := 0) rfl
theorem ratV_den (r : Rat) : atI (ratV r) 1 = some (.int (r.den : Int)) := atI_nat (j := 1) rfl
theorem RB.den {a : Nat} {r : Rat} (h : RB a r) : ((r.den : Int)).natAbs < 2 ^ a := h.2
def spShare : Sp := fun vs H Q _ => ∃ (t b : Int), vs = [.int t, .int b] ∧ b ≠ 0 ∧ b.natAbs < 2 ^ 9000 ∧ ∀ p H', Same H H' → H p = none → H' p = some (.tup (ratV (Rat.divInt t b))) → Q (.ref p) H'
def spRat (K : PySem.W.Frag) (g : Rat → Rat → Rat) : Sp := fun vs H Q _ => ∃ (p q : Addr) (r s : Rat) (a b : Nat), vs = [.ref p, .ref q] ∧ SqT K H p (ratV r) ∧ SqT K H q (ratV s) ∧ RB a r ∧ RB b s ∧ 0 < a ∧ 0 < b ∧ a + b ≤ 8999 ∧
  ∀ o H', Same H H' → H o = none → H' o = some (.tup (ratV (g r s))) → Q (.ref o) H'
section
variable {P : Program} {w : World} {K : PySem.W.Frag} {mg : Str → Option Value} {base : Heap}
theorem ok_share {f : Addr} {fd : FuncData} {C : Addr} (T : Txt K mg C) (D : DefAt K mg "share" "share" s_share ["top", "bottom"] f fd) : FnOk P w K mg base CX0 1 f fd ["top", "bottom"] spShare := by
  refine D.F.ok sc_share (fun vs H Q E h => ?_) (fun cdv A outer s H vs Q E hr h => ?_)
  · obtain ⟨t, b, rfl, _⟩ := h
    rfl
  · obtain ⟨t, b, rfl, hb0, hb, q⟩ := h
    refine ⟨_, pss_cons (ps_set (i := 2) sc_share.nd rfl (.inl rfl) (pe_callBfun cr_gcd (by rfl) T.i_gcd (pa_cons (pv 0) (pa_cons (pv 1) pa_nil))))
      (pss_cons (ps_if (pt_cmpR op_lt (pv 1) pe_int (nomark _)) (pss_one (ps_set (i := 2) sc_share.nd rfl (.inl rfl) (pe_un un_neg (pv 2)))) pss_nil)
      (pss_one (ps_ret (pe_tup (pa_cons (pe_op op_fdivZ (pv 0) (pv 2)) (pa_cons (pe_op op_fdivZ (pv 1) (pv 2)) pa_nil)))))), ?_⟩
    have g0 := gcd_pos (t := t) hb0
    have g1 : Nat.gcd t.natAbs b.natAbs ≤ b.natAbs := Nat.gcd_le_right _ (by omega)
    refine ⟨_, rfl, _, rfl, t, b, rfl, _, rfl, _, _, rfl, rfl, _, rfl, ite2 (fun e => ?_) (fun e => ?_)⟩
    · have e' : b < 0 := of_decide_eq_true e
      refine ⟨_, rfl, _, rfl, _, rfl, _, rfl, _, _, rfl, rfl, ⟨by omega, by rw [Int.natAbs_neg]; exact Nat.lt_of_le_of_lt g1 hb⟩, _, rfl, _, rfl, _, _, rfl, rfl, ⟨by omega, by rw [Int.natAbs_neg]; exact Nat.lt_of_le_of_lt g1 hb⟩, (by show 2 ≤ sizeLine; decide), fun p hp => q p _ (same_upd hp) hp ?_⟩
      unfold ratV
      rw [divInt_num_neg e', divInt_den_neg e']
      exact upd_same
    · have e' : 0 < b := by
        have := of_decide_eq_false (Bool.eq_false_iff.mpr e)
        omega
      refine ⟨_, rfl, _, rfl, _, _, rfl, rfl, ⟨by omega, Nat.lt_of_le_of_lt g1 hb⟩, _, rfl, _, rfl, _, _, rfl, rfl, ⟨by omega, Nat.lt_of_le_of_lt g1 hb⟩, (by show 2 ≤ sizeLine; decide), fun p hp => q p _ (same_upd hp) hp ?_⟩
      unfold ratV
      rw [divInt_num_pos e', divInt_den_pos e']
      exact upd_same
theorem ok_plus {f : Addr} {fd : FuncData} {C : Addr} (T : Txt K mg C) (D : DefAt K mg "plus" "plus" s_plus ["one", "other"] f fd) : FnOk P w K mg base CX0 2 f fd ["one", "other"] (spRat K (· + ·)) := by
  obtain ⟨f1, fd1, D1⟩ := T.d_share
  have G : FnOk P w K mg base CX0 1 f1 fd1 ["top", "bottom"] spShare := ok_share T D1
  refine D.F.ok sc_plus (fun vs H Q E h => ?_) (fun cdv A outer s H vs Q E hr h => ?_)
  · obtain ⟨p, q, r, t, a, b, rfl, _⟩ := h
    rfl
  · obtain ⟨p, q, r, t, a, b, rfl, hp, hq, ra, rb, a0, b0, hab, k⟩ := h
    refine ⟨_, pss_one (ps_ret (pe_call G hr (by rfl) D1.g D1.F.kp D1.b .nil pass0 (pa_cons
      (pe_op op_add (pe_op op_mulW (pe_ix ix_tup (pv 0) pe_int (fun _ _ => rfl)) (pe_ix ix_tup (pv 1) pe_int (fun _ _ => rfl))) (pe_op op_mulW (pe_ix ix_tup (pv 1) pe_int (fun _ _ => rfl)) (pe_ix ix_tup (pv 0) pe_int (fun _ _ => rfl))))
      (pa_cons (pe_op op_mulW (pe_ix ix_tup (pv 0) pe_int (fun _ _ => rfl)) (pe_ix ix_tup (pv 1) pe_int (fun _ _ => rfl))) pa_nil)))), ?_⟩
    refine ⟨_, rfl, p, _, _, _, rfl, rfl, hp, ratV_num r, _, rfl, q, _, _, _, rfl, rfl, hq, ratV_den t, _, _, rfl, rfl, mulOk ra.1 rb.den a0 b0 hab,
      _, rfl, q, _, _, _, rfl, rfl, hq, ratV_num t, _, rfl, p, _, _, _, rfl, rfl, hp, ratV_den r, _, _, rfl, rfl, mulOk rb.1 ra.den b0 a0 (by omega), _, _, rfl, rfl,
      _, rfl, p, _, _, _, rfl, rfl, hp, ratV_den r, _, rfl, q, _, _, _, rfl, rfl, hq, ratV_den t, _, _, rfl, rfl, mulOk ra.den rb.den a0 b0 hab, _, _, rfl, ?_, ?_, fun o H' sm ho e => k o H' sm ho ?_⟩
    · exact Int.mul_ne_zero (den_ne r) (den_ne t)
    · exact lt_up (natAbs_mul_lt ra.den rb.den) (by omega)
    · rw [e]
      show some (HO.tup (ratV _)) = some (HO.tup (ratV (r + t)))
      rw [add_eq]
theorem ok_minus {f : Addr} {fd : FuncData} {C : Addr} (T : Txt K mg C) (D : DefAt K mg "minus" "minus" s_minus ["one", "other"] f fd) : FnOk P w K mg base CX0 2 f fd ["one", "other"] (spRat K (· - ·)) := by
  obtain ⟨f1, fd1, D1⟩ := T.d_share
  have G : FnOk P w K mg base CX0 1 f1 fd1 ["top", "bottom"] spShare := ok_share T D1
  refine D.F.ok sc_minus (fun vs H Q E h => ?_) (fun cdv A outer s H vs Q E hr h => ?_)
  · obtain ⟨p, q, r, t, a, b, rfl, _⟩ := h
    rfl
  · obtain ⟨p, q, r, t, a, b, rfl, hp, hq, ra, rb, a0, b0, hab, k⟩ := h
    refine ⟨_, pss_one (ps_ret (pe_call G hr (by rfl) D1.g D1.F.kp D1.b .nil pass0 (pa_cons
      (pe_op op_sub (pe_op op_mulW (pe_ix ix_tup (pv 0) pe_int (fun _ _ => rfl)) (pe_ix ix_tup (pv 1) pe_int (fun _ _ => rfl))) (pe_op op_mulW (pe_ix ix_tup (pv 1) pe_int (fun _ _ => rfl)) (pe_ix ix_tup (pv 0) pe_int (fun _ _ => rfl))))
      (pa_cons (pe_op op_mulW (pe_ix ix_tup (pv 0) pe_int (fun _ _ => rfl)) (pe_ix ix_tup (pv 1) pe_int (fun _ _ => rfl))) pa_nil)))), ?_⟩
    refine ⟨_, rfl, p, _, _, _, rfl, rfl, hp, ratV_num r, _, rfl, q, _, _, _, rfl, rfl, hq, ratV_den t, _, _, rfl, rfl, mulOk ra.1 rb.den a0 b0 hab,
      _, rfl, q, _, _, _, rfl, rfl, hq, ratV_num t, _, rfl, p, _, _, _, rfl, rfl, hp, ratV_den r, _, _, rfl, rfl, mulOk rb.1 ra.den b0 a0 (by omega), _, _, rfl, rfl,
      _, rfl, p, _, _, _, rfl, rfl, hp, ratV_den r, _, rfl, q, _, _, _, rfl, rfl, hq, ratV_den t, _, _, rfl, rfl, mulOk ra.den rb.den a0 b0 hab, _, _, rfl, ?_, ?_, fun o H' sm ho e => k o H' sm ho ?_⟩
    · exact Int.mul_ne_zero (den_ne r) (den_ne t)
    · exact lt_up (natAbs_mul_lt ra.den rb.den) (by omega)
    · rw [e]
      show some (HO.tup (ratV _)) = some (HO.tup (ratV (r - t)))
      rw [sub_eq]
theorem ok_times {f : Addr} {fd : FuncData} {C : Addr} (T : Txt K mg C) (D : DefAt K mg "times" "times" s_times ["one", "other"] f fd) : FnOk P w K mg base CX0 2 f fd ["one", "other"] (spRat K (· * ·)) := by
  obtain ⟨f1, fd1, D1⟩ := T.d_share
  have G : FnOk P w K mg base CX0 1 f1 fd1 ["top", "bottom"] spShare := ok_share T D1
  refine D.F.ok sc_times (fun vs H Q E h => ?_) (fun cdv A outer s H vs Q E hr h => ?_)
  · obtain ⟨p, q, r, t, a, b, rfl, _⟩ := h
    rfl
  · obtain ⟨p, q, r, t, a, b, rfl, hp, hq, ra, rb, a0, b0, hab, k⟩ := h
    refine ⟨_, pss_one (ps_ret (pe_call G hr (by rfl) D1.g D1.F.kp D1.b .nil pass0 (pa_cons
      (pe_op op_mulW (pe_ix ix_tup (pv 0) pe_int (fun _ _ => rfl)) (pe_ix ix_tup (pv 1) pe_int (fun _ _ => rfl)))
      (pa_cons (pe_op op_mulW (pe_ix ix_tup (pv 0) pe_int (fun _ _ => rfl)) (pe_ix ix_tup (pv 1) pe_int (fun _ _ => rfl))) pa_nil)))), ?_⟩
    refine ⟨_, rfl, p, _, _, _, rfl, rfl, hp, ratV_num r, _, rfl, q, _, _, _, rfl, rfl, hq, ratV_num t, _, _, rfl, rfl, mulOk ra.1 rb.1 a0 b0 hab,
      _, rfl, p, _, _, _, rfl, rfl, hp, ratV_den r, _, rfl, q, _, _, _, rfl, rfl, hq, ratV_den t, _, _, rfl, rfl, mulOk ra.den rb.den a0 b0 hab, _, _, rfl, ?_, ?_, fun o H' sm ho e => k o H' sm ho ?_⟩
    · exact Int.mul_ne_zero (den_ne r) (den_ne t)
    · exact lt_up (natAbs_mul_lt ra.den rb.den) (by omega)
    · rw [e]
      show some (HO.tup (ratV _)) = some (HO.tup (ratV (r * t)))
      rw [mul_eq]
end
theorem RB.add {a b : Nat} {r s : Rat} (h : RB a r) (g : RB b s) : RB (a + b + 1) (r + s) := by
  rw [add_eq]
  refine RB.divInt (Int.mul_ne_zero (den_ne r) (den_ne s)) (natAbs_add_lt (natAbs_mul_lt h.1 g.den) ?_) (lt_up (natAbs_mul_lt h.den g.den) (by omega))
  rw [Nat.add_comm]
  exact natAbs_mul_lt g.1 h.den
theorem RB.sub {a b : Nat} {r s : Rat} (h : RB a r) (g : RB b s) : RB (a + b + 1) (r - s) := by
  rw [sub_eq]
  refine RB.divInt (Int.mul_ne_zero (den_ne r) (den_ne s)) (natAbs_sub_lt (natAbs_mul_lt h.1 g.den) ?_) (lt_up (natAbs_mul_lt h.den g.den) (by omega))
  rw [Nat.add_comm]
  exact natAbs_mul_lt g.1 h.den
theorem RB.mul {a b : Nat} {r s : Rat} (h : RB a r) (g : RB b s) : RB (a + b) (r * s) := by
  rw [mul_eq]
  exact RB.divInt (Int.mul_ne_zero (den_ne r) (den_ne s)) (natAbs_mul_lt h.1 g.1) (natAbs_mul_lt h.den g.den)
/-! ### dicts whose keys are products: tuples of pairs (name, power) -/
abbrev Pr := List (Str × Int)
def keyN (m : Pr) : NestedKey := .tup (m.map fun x => .tup [.text x.1, .num x.2])
theorem keyN_inj' : ∀ {a b : Pr}, (a.map fun x => NestedKey.tup [.text x.1, .num x.2]) = (b.map fun x => NestedKey.tup [.text x.1, .num x.2]) → a = b
  | [], [], _ => rfl
  | [], _ :: _, h => by simp at h
  | _ :: _, [], h => by simp at h
  | (x1, x2) :: r, (y1, y2) :: t, h => by
    simp only [List.map_cons, List.cons.injEq, NestedKey.tup.injEq, NestedKey.text.injEq, NestedKey.num.injEq, and_true] at h
    obtain ⟨⟨h1, h2⟩, h3⟩ := h
    rw [h1, h2, keyN_inj' h3]
theorem keyN_inj {a b : Pr} (h : keyN a = keyN b) : a = b := by
  unfold keyN at h
  injection h with h
  exact keyN_inj' h
/-- the pair x stands at q; the product m stands at p -/
def PairAt (K : PySem.W.Frag) (H : Hp) (q : Addr) (x : Str × Int) : Prop := SqT K H q [.str x.1, .int x.2]
def ProdAt (K : PySem.W.Frag) (H : Hp) (p : Addr) (m : Pr) : Prop := ∃ qs : List Addr, SqT K H p (qs.map V.ref) ∧ Paired (PairAt K H) qs m
theorem SqT.keeps {K : PySem.W.Frag} {H H' : Hp} {a : Addr} {xs : List V} (h : SqT K H a xs) (k : ∀ b o, Rd H b (.tup o) → Rd H' b (.tup o)) : SqT K H' a xs := by
  rcases h with h | h
  · exact .inl (k _ _ h)
  · exact .inr h
/-- tuples stay -/
def TupsStay (H H' : Hp) : Prop := ∀ b o, Rd H b (.tup o) → Rd H' b (.tup o)
theorem TupsStay.refl (H : Hp) : TupsStay H H := fun _ _ h => h
theorem TupsStay.trans {H H1 H2 : Hp} (a : TupsStay H H1) (b : TupsStay H1 H2) : TupsStay H H2 := fun x o h => b x o (a x o h)
theorem TupsStay.same {H H' : Hp} (s : Same H H') : TupsStay H H' := fun b o h => by
  rcases h with h | ⟨ob, h⟩
  · exact .inl (s _ _ h)
  · exact .inr ⟨ob, s _ _ h⟩
def NotTup : HO → Prop
  | .tup _ => False
  | .frz _ (.tup _) => False
  | _ => True
theorem TupsStay.upd {H : Hp} {d : Addr} {u o : HO} (e : H d = some u) (n : NotTup u) : TupsStay H (upd H d o) := fun b xs h => by
  have nb : b ≠ d := fun z => by
    subst z
    rcases h with h | ⟨ob, h⟩
    · rw [e] at h
      cases h
      exact n
    · rw [e] at h
      cases h
      exact n
  rcases h with h | ⟨ob, h⟩
  · exact .inl (by rw [upd_ne nb]; exact h)
  · exact .inr ⟨ob, by rw [upd_ne nb]; exact h⟩
theorem TupsStay.new {H : Hp} {d : Addr} {o : HO} (e : H d = none) : TupsStay H (L2.upd H d o) := TupsStay.same (same_upd e)
theorem PairAt.stay {K : PySem.W.Frag} {H H' : Hp} {q : Addr} {x : Str × Int} (h : PairAt K H q x) (t : TupsStay H H') : PairAt K H' q x := SqT.keeps h t
theorem ProdAt.stay {K : PySem.W.Frag} {H H' : Hp} {p : Addr} {m : Pr} (h : ProdAt K H p m) (t : TupsStay H H') : ProdAt K H' p m := by
  obtain ⟨qs, h1, h2⟩ := h
  exact ⟨qs, SqT.keeps h1 t, Paired.mapP h2 fun _ _ z => PairAt.stay z t⟩
section
variable {X : Cx} {pins : List (Addr × Obj)} {σ : L2.St} {H : Hp} {s : Shared}
theorem ProdAt.nested (I : Inv X pins σ H s) {p : Addr} {m : Pr} (h : ProdAt X.K H p m) : (nestedKind X.prog X.w).is s.heap (keyN m) p := by
  obtain ⟨qs, h1, h2⟩ := h
  obtain ⟨its, rv, ⟨o, ho, hc, n, hd⟩, _⟩ := I.tuple h1
  have all : ∀ (qs : List Addr) (m : Pr) (its : List Value), Paired (PairAt X.K H) qs m → Vals (qs.map V.ref) its → NestedAll s.heap (m.map fun x => NestedKey.tup [.text x.1, .num x.2]) its := by
    intro qs m its q
    induction q generalizing its with
    | nil =>
      intro r
      cases r
      exact .nil
    | @cons q x qs m hq _ ih =>
      intro r
      rw [List.map_cons] at r
      cases r with
      | cons r1 r2 =>
        cases r1
        obtain ⟨jts, rj, ⟨o', ho', hc', n', hd'⟩, _⟩ := I.tuple hq
        rw [List.map_cons]
        refine .cons (.tup ho' hc' hd' ?_) (ih _ r2)
        cases rj with
        | cons r3 r4 =>
          cases r4 with
          | cons r5 r6 =>
            cases r6
            obtain ⟨t, rfl⟩ := r3
            obtain ⟨t', rfl⟩ := r5
            exact .cons (.text _ _) (.cons (.int _ _) .nil)
  refine ⟨.tup ho hc hd (by simpa using all qs m its h2 rv), ?_⟩
  show (keyN m).depth ≤ 8
  have hdep : ∀ m : Pr, NestedKey.depthAll (m.map fun x => NestedKey.tup [.text x.1, .num x.2]) ≤ 1 := by
    intro m
    induction m with
    | nil => simp [NestedKey.depthAll]
    | cons x r ih =>
      rw [List.map_cons]
      simp only [NestedKey.depthAll, NestedKey.depth]
      omega
  have := hdep m
  show NestedKey.depth (.tup _) ≤ 8
  simp only [NestedKey.depth]
  omega
theorem ProdAt.inj (I : Inv X pins σ H s) {p : Addr} {m m' : Pr} (h : ProdAt X.K H p m) (h' : ProdAt X.K H p m') : m = m' := by
  have a := h.nested I
  have b := h'.nested I
  exact keyN_inj ((nestedKind X.prog X.w).inj a b)
end
/-- the entries of such a dict's object -/
def rawN (w : World) (a : Addr) (xs : List (NestedKey × Addr × Value)) (h : Heap) : Prop :=
  ∃ o es ep, h.get? a = some o ∧ o.ExactDict ∧ o.data = .dict es ep ∧ es.toList = xs.map (fun x => (⟨x.1.hash w, .ref x.2.1, x.2.2⟩ : DictEntry))
def ndO (w : World) (a : Addr) (xs : List (NestedKey × Addr × Value)) : HO := .ext (rawN w a xs)
/-- what its entries are -/
abbrev KN (K : PySem.W.Frag) (H : Hp) : List (Pr × V) → List (NestedKey × Addr × Value) → Prop := Paired fun p q => keyN p.1 = q.1 ∧ ProdAt K H q.2.1 p.1 ∧ RelV p.2 q.2.2
/-- the dict L with such keys stands at d: u is how it stands there -/
structure NDAs (K : PySem.W.Frag) (w : World) (H : Hp) (d : Addr) (L : List (Pr × V)) (xs : List (NestedKey × Addr × Value)) : Prop where
  len : L.length ≤ sizeLine
  sys : (d == sysModules) = false
  rel : KN K H L xs
  nd : (L.map (·.1)).Nodup
def ND (K : PySem.W.Frag) (w : World) (H : Hp) (d : Addr) (L : List (Pr × V)) : Prop := ∃ xs, H d = some (ndO w d xs) ∧ NDAs K w H d L xs
def NF (K : PySem.W.Frag) (w : World) (H : Hp) (d : Addr) (o : Obj) (L : List (Pr × V)) : Prop := ∃ xs, H d = some (.frz o (ndO w d xs)) ∧ NDAs K w H d L xs
/-- .. to be read -/
def NR (K : PySem.W.Frag) (w : World) (H : Hp) (d : Addr) (L : List (Pr × V)) : Prop := ∃ xs, Rd H d (ndO w d xs) ∧ NDAs K w H d L xs
theorem ND.r {K w H d L} (h : ND K w H d L) : NR K w H d L := let ⟨xs, e, n⟩ := h; ⟨xs, .inl e, n⟩
theorem NF.r {K w H d o L} (h : NF K w H d o L) : NR K w H d L := let ⟨xs, e, n⟩ := h; ⟨xs, .inr ⟨o, e⟩, n⟩
theorem NDAs.stay {K w H H' d L xs} (n : NDAs K w H d L xs) (t : TupsStay H H') : NDAs K w H' d L xs := ⟨n.len, n.sys, Paired.mapP n.rel fun _ _ z => ⟨z.1, z.2.1.stay t, z.2.2⟩, n.nd⟩
theorem ND.stay {K w H H' d L} (h : ND K w H d L) (t : TupsStay H H') (k : ∀ o, H d = some o → H' d = some o) : ND K w H' d L := let ⟨xs, e, n⟩ := h; ⟨xs, k _ e, n.stay t⟩
theorem NF.stay {K w H H' d o L} (h : NF K w H d o L) (t : TupsStay H H') (k : ∀ o, H d = some o → H' d = some o) : NF K w H' d o L := let ⟨xs, e, n⟩ := h; ⟨xs, k _ e, n.stay t⟩
theorem NR.stay {K w H H' d L} (h : NR K w H d L) (t : TupsStay H H') (k : ∀ o, H d = some o → H' d = some o) : NR K w H' d L := by
  obtain ⟨xs, e, n⟩ := h
  refine ⟨xs, ?_, n.stay t⟩
  rcases e with e | ⟨o, e⟩
  · exact .inl (k _ e)
  · exact .inr ⟨o, k _ e⟩
section
variable {K : PySem.W.Frag} {H : Hp}
theorem KN.val {kvs : List (Pr × V)} {xs : List (NestedKey × Addr × Value)} (r : KN K H kvs xs) (k : Pr) : RelO (valV kvs k) ((atKey xs (keyN k)).map (·.2)) := by
  induction r with
  | nil => exact True.intro
  | @cons p q ps qs h t ih =>
    obtain ⟨h1, _, h2⟩ := h
    by_cases e : p.1 = k
    · have e' : q.1 = keyN k := by rw [← h1, e]
      have b : atKey (q :: qs) (keyN k) = some q.2 := by simp [atKey, List.find?_cons, e']
      rw [valV_pos e, b]
      exact h2
    · have e' : ¬ q.1 = keyN k := fun z => e (keyN_inj (h1.trans z))
      have b : atKey (q :: qs) (keyN k) = atKey qs (keyN k) := by simp [atKey, List.find?_cons, e']
      rw [valV_neg e, b]
      exact ih
theorem KN.repl {kvs : List (Pr × V)} {xs : List (NestedKey × Addr × Value)} (r : KN K H kvs xs) (k : Pr) {y : V} {u : Value} (ry : RelV y u) :
    KN K H (kvs.map fun kv => if kv.1 = k then (kv.1, y) else kv) (xs.map (putAt (keyN k) u)) := by
  induction r with
  | nil => exact .nil
  | @cons p q ps qs h t ih =>
    rw [List.map_cons, List.map_cons]
    refine .cons ?_ ih
    obtain ⟨h1, h2, h3⟩ := h
    unfold putAt
    by_cases e : p.1 = k
    · rw [if_pos e, if_pos (by rw [← h1, e])]
      exact ⟨h1, h2, ry⟩
    · rw [if_neg e, if_neg (fun z => e (keyN_inj (h1.trans z)))]
      exact ⟨h1, h2, h3⟩
theorem KN.put {kvs : List (Pr × V)} {xs : List (NestedKey × Addr × Value)} (r : KN K H kvs xs) (k : Pr) {b : Addr} {y : V} {u : Value} (hb : ProdAt K H b k) (ry : RelV y u) :
    KN K H (putK kvs k y) (storedH xs (keyN k) b u) := by
  have e : (kvs.any fun kv => decide (kv.1 = k)) = (atKey xs (keyN k)).isSome := by
    rw [valV_any, (r.val k).isSome_eq, Option.isSome_map]
  unfold putK storedH
  rw [e]
  by_cases q : (atKey xs (keyN k)).isSome = true
  · rw [if_pos q, if_pos q]
    exact r.repl k ry
  · rw [if_neg q, if_neg q]
    exact Paired.snoc r ⟨rfl, hb, ry⟩
theorem KN.drop {kvs : List (Pr × V)} {xs : List (NestedKey × Addr × Value)} (r : KN K H kvs xs) (k : Pr) : KN K H (dropK kvs k) (withoutH xs (keyN k)) := by
  induction r with
  | nil => exact .nil
  | @cons p q ps qs h t ih =>
    obtain ⟨h1, h2, h3⟩ := h
    unfold dropK withoutH
    rw [List.filter_cons, List.filter_cons]
    by_cases e : p.1 = k
    · rw [if_neg (by simp [e]), if_neg (by simp [← h1, e])]
      exact ih
    · rw [if_pos (by simp [e]), if_pos (by simp only [decide_eq_true_eq]; exact fun z => e (keyN_inj (h1.trans z)))]
      exact .cons ⟨h1, h2, h3⟩ ih
theorem nd_put {kvs : List (Pr × V)} (k : Pr) (v : V) (h : (kvs.map (·.1)).Nodup) : ((putK kvs k v).map (·.1)).Nodup := by
  unfold putK
  split
  · have e : (kvs.map fun kv => if kv.1 = k then (kv.1, v) else kv).map (·.1) = kvs.map (·.1) := by
      rw [List.map_map]
      refine List.map_congr_left fun x _ => ?_
      show (if x.1 = k then (x.1, v) else x).1 = x.1
      split <;> rfl
    rw [e]
    exact h
  · rename_i hn
    rw [List.map_append]
    refine List.nodup_append.mpr ⟨h, by simp, fun a ha b hb z => ?_⟩
    have eb : b = k := by simpa using hb
    subst z
    subst eb
    obtain ⟨x, hx, e⟩ := List.mem_map.mp ha
    exact hn (List.any_eq_true.mpr ⟨x, hx, by simp [e]⟩)
theorem nd_drop {kvs : List (Pr × V)} (k : Pr) (h : (kvs.map (·.1)).Nodup) : ((dropK kvs k).map (·.1)).Nodup := by
  unfold dropK
  exact h.sublist (List.Sublist.map _ List.filter_sublist)
end
section
variable {X : Cx} {pins : List (Addr × Obj)} {σ : L2.St} {H : Hp} {s : Shared} {a : Addr}
theorem rawN_ok {xs : List (NestedKey × Addr × Value)} (I : Inv X pins σ H s) (e : Rd H a (ndO X.w a xs)) : rawN X.w a xs s.heap := by
  have z : ObjOk X.prog X.w H s.heap a (ndO X.w a xs) := e.ok I.hok
  exact z.1
theorem keys_ok {L : List (Pr × V)} {xs : List (NestedKey × Addr × Value)} (I : Inv X pins σ H s) (r : KN X.K H L xs) : ∀ x ∈ xs, (nestedKind X.prog X.w).is s.heap x.1 x.2.1 := by
  induction r with
  | nil => intro x hx; exact nomatch hx
  | @cons p q ps qs h t ih =>
    intro x hx
    rcases List.mem_cons.mp hx with e | hx
    · subst e
      rw [← h.1]
      exact h.2.1.nested I
    · exact ih x hx
theorem keys_map {L : List (Pr × V)} {xs : List (NestedKey × Addr × Value)} {K : PySem.W.Frag} (r : KN K H L xs) : xs.map (·.1) = (L.map (·.1)).map keyN := by
  induction r with
  | nil => rfl
  | @cons p q ps qs h t ih => rw [List.map_cons, List.map_cons, List.map_cons, ih, ← h.1]
theorem nodup_keys {l : List Pr} (h : l.Nodup) : (l.map keyN).Nodup := by
  induction l with
  | nil => exact List.nodup_nil
  | cons x r ih =>
    obtain ⟨h1, h2⟩ := List.nodup_cons.mp h
    rw [List.map_cons]
    refine List.nodup_cons.mpr ⟨fun z => ?_, ih h2⟩
    obtain ⟨y, hy, e⟩ := List.mem_map.mp z
    rw [keyN_inj e] at hy
    exact h1 hy
/-- the library's own view of it -/
theorem NDAs.dict {L : List (Pr × V)} {xs : List (NestedKey × Addr × Value)} (I : Inv X pins σ H s) (n : NDAs X.K X.w H a L xs) (e : Rd H a (ndO X.w a xs)) : s.heap.DictOfH (nestedKind X.prog X.w) a xs := by
  obtain ⟨o, es, ep, h1, h2, h3, h4⟩ := rawN_ok I e
  refine ⟨o, es, ep, h1, h2, h3, h4, keys_ok I n.rel, ?_⟩
  rw [keys_map n.rel]
  exact nodup_keys n.nd
theorem rawN_of {h : Heap} {prog : Program} {w : World} {xs : List (NestedKey × Addr × Value)} (d : h.DictOfH (nestedKind prog w) a xs) : rawN w a xs h := by
  obtain ⟨o, es, ep, h1, h2, h3, h4, _⟩ := d
  exact ⟨o, es, ep, h1, h2, h3, h4⟩
theorem ndO_ok {prog : Program} {w : World} {H' : Hp} {h : Heap} {xs : List (NestedKey × Addr × Value)} (r : rawN w a xs h) : ObjOk prog w H' h a (ndO w a xs) := by
  refine ⟨r, let ⟨o, _, _, e, _⟩ := r; ⟨o, e⟩, fun h1 h2 x k => ?_⟩
  obtain ⟨o, es, ep, e, q⟩ := x
  exact ⟨o, es, ep, k _ e, q⟩
theorem notTup_nd {w : World} {xs : List (NestedKey × Addr × Value)} : NotTup (ndO w a xs) := True.intro
theorem notTup_ndf {w : World} {o : Obj} {xs : List (NestedKey × Addr × Value)} : NotTup (.frz o (ndO w a xs)) := True.intro
/-- its object is changed -/
theorem nd_write {L L' : List (Pr × V)} {xs xs' : List (NestedKey × Addr × Value)} {h' : Heap} {t' : Nat} (I : Inv X pins σ H s) (e : H a = some (ndO X.w a xs)) (hl : L'.length ≤ sizeLine) (n : NDAs X.K X.w H a L xs) (rel : KN X.K H L' xs') (hn : (L'.map (·.1)).Nodup)
    (dd : h'.DictOfH (nestedKind X.prog X.w) a xs') (hs : Heap.SameBut a s.heap h') : Inv X pins σ (upd H a (ndO X.w a xs')) { s with heap := h', toks := t' } ∧ ND X.K X.w (upd H a (ndO X.w a xs')) a L' := by
  have r := rawN_of dd
  refine ⟨d_write I (by rw [e]; exact True.intro) hs (let ⟨o, _, _, z, _⟩ := r; ⟨o, z⟩) (ndO_ok r), xs', upd_same, ?_⟩
  exact NDAs.stay (H := H) ⟨hl, n.sys, rel, hn⟩ (TupsStay.upd e True.intro)
theorem room9 {A : Around} (hu : A.units + 64 < cLine) : (nestedKind X.prog X.w).room A.in1 := by
  show A.in1.units + 8 < cLine
  rw [Around.in1_units]
  omega
theorem NR.typeIs {L : List (Pr × V)} (I : Inv X pins σ H s) (h : NR X.K X.w H a L) : s.TypeIs (.ref a) "dict" ∧ (∀ b, Value.ref a = .ref b → ∃ ob, s.heap.get? b = some ob ∧ ob.dict = none) ∧ (a == sysModules) = false := by
  obtain ⟨xs, e, n⟩ := h
  obtain ⟨o, es, ep, h1, h2, h3, h4⟩ := rawN_ok I e
  refine ⟨⟨o, h1, h2.1⟩, fun b q => ?_, n.sys⟩
  cases q
  exact ⟨o, h1, h2.2.1⟩
end
/-! ### their rules -/
def tNewN (w : World) : TE := fun _ H Q => ∀ p, H p = none → (p == sysModules) = false → Q (.ref p) (upd H p (ndO w p []))
def tGetN (K : PySem.W.Frag) (w : World) (td ty tx : TE) : TE := fun σ H Q => td σ H fun x H1 => ∃ a L0, x = .ref a ∧ NR K w H1 a L0 ∧ ty σ H1 fun y H2 => tx σ H2 fun z H3 => ∃ L k b, y = .ref b ∧ NR K w H3 a L ∧ ProdAt K H3 b k ∧ Q ((valV L k).getD z) H3
def tPopN (K : PySem.W.Frag) (w : World) (td ty tx : TE) : TE := fun σ H Q => td σ H fun x H1 => ∃ a L0, x = .ref a ∧ NR K w H1 a L0 ∧ ty σ H1 fun y H2 => tx σ H2 fun z H3 => ∃ L k b, y = .ref b ∧ ND K w H3 a L ∧ ProdAt K H3 b k ∧
  (∀ v o, valV L k = some v → ND K w (upd H3 a o) a (dropK L k) → Q v (upd H3 a o)) ∧ (valV L k = none → Q z H3)
def sPutN (K : PySem.W.Frag) (w : World) (td ty tv : TE) : TS := fun D σ H => tv σ H fun v H1 => td σ H1 fun x H2 => ty σ H2 fun y H3 => ∃ a L k b, x = .ref a ∧ y = .ref b ∧ ND K w H3 a L ∧ L.length < sizeLine ∧ ProdAt K H3 b k ∧
  ∀ o, ND K w (upd H3 a o) a (putK L k v) → D.nx σ (upd H3 a o)
section
variable {X : Cx} {o e f i value : Expr} {apos cpos pos pos' : Pos} {td ty tx tv : TE}
theorem pe_newN : PE X (.Dict [] [] pos) (tNewN X.w) := ⟨fun pins s σ H Q I h =>
  wpAny_Dict_empty ⟨.ref s.heap.objs.size, _, I.laid (a := s.heap.objs.size) (o := ndO X.w s.heap.objs.size []) (t' := s.toks) (fun _ _ q => Heap.get?_push_of_some _ q) (Nat.le_refl _)
    (ndO_ok ⟨_, #[], 0, Heap.get?_push_size _ rfl, ⟨rfl, rfl, rfl⟩, rfl, rfl⟩), rfl, h _ (I.hok.fresh (Nat.le_refl _)) (beq_eq_false_iff_ne.mpr (Ne.symm (Nat.ne_of_lt I.big)))⟩⟩
theorem pe_getN (hu : X.A.units + 64 < cLine) (ho : PE X o td) (he : PE X e ty) (hf : PE X f tx) (m : M2 X o "get" apos e f cpos) : PE X (.Call (.Attribute o "get" apos) [e, f] [] cpos) (tGetN X.K X.w td ty tx) := by
  refine ⟨fun pins s σ H Q I h => ?_⟩
  refine wpAny_Call_method m.base m.few m.line PySem.F.plainAttrs_dict PySem.F.slot_dict_get PySem.F.type_dict_get (thn (ho.run pins s σ H _ I h) fun u s1 ⟨x, H1, I1, rx, a, L0, ex, d, q1⟩ => ?_)
  subst ex
  obtain rfl : u = Value.ref a := rx
  obtain ⟨t1, t2, _⟩ := d.typeIs I1
  refine ⟨t1, t2, ?_⟩
  rw [m.trees]
  refine Calls.callWith_builtin rfl (Calls.evalArgs_plain (Calls.spliced_cons (thn (he.run pins s1 σ H1 _ I1 q1) fun iv s2 ⟨y, H2, I2, ry, q2⟩ =>
    Calls.spliced_cons (thn (hf.run pins s2 σ H2 _ I2 q2) fun fv s3 ⟨z, H3, I3, rz, L, k, b, ey, g, hk, q3⟩ => Calls.spliced_nil ?_))))
  subst ey
  obtain rfl : iv = Value.ref b := ry
  obtain ⟨xs, er, n⟩ := g
  have dd := n.dict I3 er
  refine call_meetsIn PySem.F.slot_dict_get dd.typeIs PySem.F.entry_dict_get (PySem.F.args_dict_get_3 _ _ _) (meetsH_dict_get_default (nestedKind X.prog X.w) a b n.sys fv) ⟨room9 hu, keyN k, xs, hk.nested I3, dd, ?_⟩
  exact ⟨_, H3, I3.tok _, (n.rel.val k).getD rz, q3⟩
theorem pe_popN (hu : X.A.units + 64 < cLine) (ho : PE X o td) (he : PE X e ty) (hf : PE X f tx) (m : M2 X o "pop" apos e f cpos) : PE X (.Call (.Attribute o "pop" apos) [e, f] [] cpos) (tPopN X.K X.w td ty tx) := by
  refine ⟨fun pins s σ H Q I h => ?_⟩
  refine wpAny_Call_method m.base m.few m.line PySem.F.plainAttrs_dict PySem.F.slot_dict_pop PySem.F.type_dict_pop (thn (ho.run pins s σ H _ I h) fun u s1 ⟨x, H1, I1, rx, a, L0, ex, d, q1⟩ => ?_)
  subst ex
  obtain rfl : u = Value.ref a := rx
  obtain ⟨t1, t2, _⟩ := d.typeIs I1
  refine ⟨t1, t2, ?_⟩
  rw [m.trees]
  refine Calls.callWith_builtin rfl (Calls.evalArgs_plain (Calls.spliced_cons (thn (he.run pins s1 σ H1 _ I1 q1) fun iv s2 ⟨y, H2, I2, ry, q2⟩ =>
    Calls.spliced_cons (thn (hf.run pins s2 σ H2 _ I2 q2) fun fv s3 ⟨z, H3, I3, rz, L, k, b, ey, g, hk, q3, q4⟩ => Calls.spliced_nil ?_))))
  subst ey
  obtain rfl : iv = Value.ref b := ry
  obtain ⟨xs, er, n⟩ := g
  have dd := n.dict I3 (.inl er)
  have hz : xs.length ≤ sizeLine := by rw [← Paired.length n.rel]; exact n.len
  cases l : valV L k with
  | none =>
    have hn : atKey xs (keyN k) = none := Option.map_eq_none_iff.mp (RelO.none_of (by rw [← l]; exact n.rel.val k))
    exact PySem.call_pop_default_heap (hsz := hz) (room9 hu) (hk.nested I3) n.sys dd hn fun tk => ⟨z, H3, I3.tok _, rz, q4 l⟩
  | some v =>
    obtain ⟨w', hw, rw'⟩ := RelO.some_of (v := v) (o := (atKey xs (keyN k)).map (·.2)) (by rw [← l]; exact n.rel.val k)
    obtain ⟨p, hp, hp2⟩ := Option.map_eq_some_iff.mp hw
    refine PySem.call_pop_heap (hsz := hz) (.inr ⟨fv, rfl⟩) (PySem.F.args_dict_pop_3 _ _ _) (room9 hu) (hk.nested I3) n.sys dd hp fun h' hm' hs => ?_
    have hl : (dropK L k).length ≤ sizeLine := Nat.le_trans (dropK_le L k) n.len
    obtain ⟨I4, n4⟩ := nd_write (t' := s3.toks + (nestedKind X.prog X.w).draws (keyN k)) I3 er hl n (n.rel.drop k) (nd_drop k n.nd) hm' hs
    rw [hp2]
    exact ⟨v, _, I4, rw', q3 v _ l n4⟩
theorem ps_putN (hu : X.A.units + 64 < cLine) (ho : PE X o td) (hi : PE X i ty) (hv : PE X value tv) (hs : swapsWith value (some (.Subscript o i pos')) pos.line X.env = pure false) :
    PS X (.Assign [.Subscript o i pos'] value pos) (sPutN X.K X.w td ty tv) := by
  refine ⟨fun pins s σ H D I h => ?_⟩
  refine wpAny_Assign_Subscript (thn (hv.run pins s σ H _ I h) fun r s1 ⟨v, H1, I1, rv, q1⟩ => thn (ho.run pins s1 σ H1 _ I1 q1) fun u s2 ⟨x, H2, I2, rx, q2⟩ => thn (hi.run pins s2 σ H2 _ I2 q2) fun iv s3 ⟨y, H3, I3, ry, a, L, k, b, ex, ey, g, hlt, hk, q3⟩ => ?_) hs
  subst ex ey
  obtain rfl : u = Value.ref a := rx
  obtain rfl : iv = Value.ref b := ry
  obtain ⟨xs, er, n⟩ := g
  have dd := n.dict I3 (.inl er)
  have hz : xs.length ≤ sizeLine := by rw [← Paired.length n.rel]; exact n.len
  refine PySem.wpAny_setItem_heap (hsz := hz) (room9 hu) (hk.nested I3) dd fun h' dd' hs' => ?_
  have hl : (putK L k v).length ≤ sizeLine := by have := length_putK L k v; omega
  obtain ⟨I4, n4⟩ := nd_write (t' := s3.toks + (nestedKind X.prog X.w).draws (keyN k)) I3 er hl n (n.rel.put k hk rv) (nd_put k v n.nd) dd' hs'
  exact ⟨σ, _, I4, q3 _ n4⟩
end
/-! ### .. walked by its pairs, and copied by a comprehension -/
/-- the entries of such a dict that is locked -/
theorem NF.entries {X : Cx} {pins : List (Addr × Obj)} {σ : L2.St} {H : Hp} {s : Shared} {d : Addr} {o : Obj} {L : List (Pr × V)} (I : Inv X pins σ H s) (h : NF X.K X.w H d o L) :
    s.heap.get? d = some o ∧ ∃ es ep, o.data = .dict es ep ∧ DT.Raw s.heap d es ep ∧ es.size = L.length ∧
      ∀ i (hi : i < es.size), ∃ (k : Pr) (v : V) (b : Addr), L[i]? = some (k, v) ∧ es[i].key = .ref b ∧ RelV v es[i].val ∧ ProdAt X.K H b k := by
  obtain ⟨xs, e, n⟩ := h
  have hd : s.heap.get? d = some o := (I.hok d _ e).1
  obtain ⟨o', es, ep, h1, h2, h3, h4⟩ := rawN_ok I (.inr ⟨o, e⟩)
  rw [hd] at h1
  cases h1
  have hl : L.length = xs.length := Paired.length n.rel
  have hs : es.size = L.length := by rw [← Array.length_toList, h4, List.length_map, hl]
  refine ⟨hd, es, ep, h3, ⟨o, hd, h2, h3⟩, hs, fun i hi => ?_⟩
  have hiL : i < L.length := by omega
  obtain ⟨q, hq, r1, r2, r3⟩ := paired_get n.rel (List.getElem?_eq_getElem hiL)
  have en : es[i] = (⟨q.1.hash X.w, .ref q.2.1, q.2.2⟩ : DictEntry) := by
    have z : es[i]? = (xs.map (fun x => (⟨x.1.hash X.w, .ref x.2.1, x.2.2⟩ : DictEntry)))[i]? := by rw [← Array.getElem?_toList, h4]
    rw [List.getElem?_map, hq, Array.getElem?_eq_getElem hi] at z
    exact Option.some.inj z
  exact ⟨L[i].1, L[i].2, q.2.1, List.getElem?_eq_getElem hiL, by rw [en], by rw [en]; exact r3, r2⟩
/-- its pairs, each a new tuple -/
def ItN (K : PySem.W.Frag) (w : World) (d : Addr) (o : Obj) (L : List (Pr × V)) : It :=
  ⟨fun i H => NF K w H d o L ∧ i < L.length, fun i H x H' => ∃ (T b : Addr) (k : Pr) (v : V), L[i]? = some (k, v) ∧ x = .ref T ∧ H T = none ∧ ProdAt K H b k ∧ H' = upd H T (.tup [.ref b, v]), fun i H => NF K w H d o L ∧ L.length ≤ i⟩
theorem turn_itemsN {P : Program} {w : World} {K : PySem.W.Frag} {d : Addr} {o : Obj} {es : Array DictEntry} {ep : Nat} {L : List (Pr × V)} {elts : List Expr} {kk : Nat} {tpos : Pos} (it : Addr) (hod : o.data = .dict es ep) (hsz : es.size = L.length) :
    Turn P w K (.Tuple elts kk tpos) (ItN K w d o L) [it] it (fun i h => ∃ ok ov, IsItemIter h it d i es.size ep ok ov) where
  mem := by simp
  obj := fun i h ⟨ok, ov, e⟩ b hb => by
    cases (show b = it by simpa using hb)
    exact ⟨_, e, fun v z => nomatch z⟩
  keep := fun i h h' ⟨ok, ov, e⟩ k => ⟨ok, ov, k it (by simp) _ e⟩
  item := by
    intro X hP hw hK hc i pins s σ H E I hf st hg
    subst hP hw hK
    obtain ⟨hF, hi⟩ := hg
    obtain ⟨hgd, es', ep', hdt, raw, _, ent⟩ := hF.entries I
    obtain ⟨rfl, rfl⟩ := dict_ep hod hdt
    obtain ⟨ok, ov, he⟩ := st
    have hi' : i < es'.size := by omega
    obtain ⟨k, v, b, hL, hk, rv, hb⟩ := ent i hi'
    have hlt : it < s.heap.objs.size := Heap.lt_size he
    refine DT.nextI he raw hi' fun h1 hout hT hz hk1 => ⟨_, rfl, wpAny_letOwnedTupleGo_items (s := { s with heap := h1 }) hout fun h2 he2 sb => ?_⟩
    have keepAll : ∀ c ob, c ∉ [it] → s.heap.get? c = some ob → h2.get? c = some ob := fun c ob hc' e => (sb.2 c (by simpa using hc')).trans (hk1 c ob (by simpa using hc') e)
    have tupAt : h2.get? s.heap.objs.size = some { cls := .type "tuple", data := .seq #[es'[i].key, es'[i].val] } := (sb.2 _ (Nat.ne_of_gt hlt)).trans hT
    have fresh : H s.heap.objs.size = none := I.hok.fresh (Nat.le_refl _)
    have okT : ObjOk X.prog X.w (upd H s.heap.objs.size (.tup [.ref b, v])) h2 s.heap.objs.size (.tup [.ref b, v]) :=
      ⟨by show 2 ≤ sizeLine; decide, [es'[i].key, es'[i].val], .cons hk (.cons rv .nil), ⟨_, tupAt, rfl, _, rfl⟩⟩
    refine ⟨.ref s.heap.objs.size, _, I.turnedNew (t' := s.toks) (ch := [it]) keepAll hf (Nat.le_refl _) okT, rfl, ⟨_, b, k, v, hL, rfl, fresh, hb, rfl⟩, ⟨_, _, he2⟩, fun c hc' => ?_⟩
    cases (show c = it by simpa using hc')
    rw [upd_ne (Nat.ne_of_lt hlt)]
    exact (hf it (by simp)).1
  done := by
    intro X hP hw hK hc i pins s σ H E I hf st hg
    subst hP hw hK
    obtain ⟨hF, hi⟩ := hg
    obtain ⟨hgd, es', ep', hdt, raw, hs', _⟩ := hF.entries I
    obtain ⟨rfl, rfl⟩ := dict_ep hod hdt
    obtain ⟨f0, f1, f2, f3, f4, f5⟩ := hf it (by simp)
    obtain ⟨ok, ov, he⟩ := st
    exact DT.endI (I.ok.hd hc) he raw (by omega) fun h' eb => ⟨rfl, I.turned (t' := s.toks) (fun c ob hc' e => eb c ob hc' e) f0 f1 f3 f4 f5⟩
  self := fun A i s Q E ⟨_, _, e⟩ h => PySem.W.kcp_self e h
def iItemsN (K : PySem.W.Frag) (w : World) (td : TE) : TI := fun σ H R => td σ H fun x H1 => ∃ d o L, x = .ref d ∧ NF K w H1 d o L ∧ R (ItN K w d o L) H1
theorem pi_itemsN {X : Cx} {e : Expr} {td : TE} {apos cpos : Pos} {elts : List Expr} {kk : Nat} {tpos : Pos} (he : PE X e td) (hbase : attributeBase e "items" X.env (eval e X.env) = eval e X.env := by rfl) (hline : (apos.endLine == cpos.line) = true := by rfl) :
    PI X (.Tuple elts kk tpos) (.Call (.Attribute e "items" apos) [] [] cpos) (iItemsN X.K X.w td) := by
  refine ⟨fun pins s σ H R I h => wpAny_Call_method (T := "dict") (id := "dict.items") hbase rfl hline F.plainAttrs_dict F.slot_dict_items F.type_dict_items (thn (he.run pins s σ H _ I h) fun u s1 ⟨x, H1, I1, rx, d, o, L, ex, hF, q⟩ => ?_)⟩
  subst ex
  obtain rfl : u = Value.ref d := rx
  obtain ⟨t1, t2, hs⟩ := hF.r.typeIs I1
  obtain ⟨hgd, es, ep, hdt, raw, hsz, _⟩ := hF.entries I1
  refine ⟨t1, t2, ?_⟩
  have view : Inv X pins σ H1 { s1 with heap := s1.heap.push { cls := .type "dict_items", data := .fields #[.ref d] } } := I1.kept (t' := s1.toks) fun b ob z => Heap.get?_push_of_some _ z
  refine method_meetsIn F.slot_dict_items F.entry_dict_items rfl (PySem.evalArgs_none ⟨rfl, raw.typeIs, F.args_dict_items_1 _, _, DT.meetsItems (es := es) (ep := ep) hs, raw, ?_⟩)
  refine DT.iterI (d := d) (es := es) (ep := ep) (s := { s1 with heap := s1.heap.push { cls := .type "dict_items", data := .fields #[.ref d] } }) ⟨_, Heap.get?_push_size _ rfl, rfl, rfl⟩ (raw.push _) ?_
  exact pi_one (tk := s1.toks) view _ (turn_itemsN _ hdt hsz) ⟨.none, .none, Heap.get?_push_size _ rfl⟩ q
/-- for k, v in d.items() by turns -/
theorem for_itemsN {K : PySem.W.Frag} {w : World} {d : Addr} {o : Obj} {L : List (Pr × V)} {g : TG} {tb : TS} {D : Ends} {σ : L2.St} {H : Hp} (Pv : Nat → L2.St → Hp → Prop) (h0 : Pv 0 σ H) (hl : ∀ i σ H, i ≤ L.length → Pv i σ H → NF K w H d o L)
    (hs : ∀ i k v σ H T b, L[i]? = some (k, v) → Pv i σ H → H T = none → ProdAt K H b k → g (.ref T) σ (upd H T (.tup [.ref b, v])) fun σ2 H2 => tb { D with nx := Pv (i + 1), ct := Pv (i + 1), bk := D.nx } σ2 H2) (hd : ∀ σ H, Pv L.length σ H → D.nx σ H) :
    ∃ W : Nat → Nat → L2.St → Hp → Prop, (∃ m, W 0 m σ H) ∧ ∀ i m σ H, W i m σ H → ((ItN K w d o L).stop i H ∧ D.nx σ H) ∨ ((ItN K w d o L).go i H ∧ ∃ N : L2.St → Hp → Prop, (∀ σ' H', N σ' H' → ∃ m', m' < m ∧ W (i + 1) m' σ' H') ∧
      ∀ x H', (ItN K w d o L).yld i H x H' → g x σ H' fun σ2 H2 => tb { D with nx := N, ct := N, bk := D.nx } σ2 H2) := by
  refine ⟨fun i m σ H => m = L.length - i ∧ i ≤ L.length ∧ Pv i σ H, ⟨_, rfl, Nat.zero_le _, h0⟩, fun i m σ H ⟨em, hi, p⟩ => ?_⟩
  have F := hl i σ H hi p
  by_cases lt : i < L.length
  · refine .inr ⟨⟨F, lt⟩, Pv (i + 1), fun σ' H' p' => ⟨L.length - (i + 1), by omega, rfl, lt, p'⟩, fun x H' ⟨T, b, k, v, hL, ex, nT, hb, eH⟩ => ?_⟩
    subst ex
    subst eH
    exact hs i k v σ H T b hL p nT hb
  · have e : i = L.length := by omega
    subst e
    exact .inl ⟨⟨F, Nat.le_refl _⟩, hd σ H p⟩
/-! ### a dict comprehension whose keys are products -/
def setN (K : PySem.W.Frag) (w : World) (D : Addr) (y z : V) (H : Hp) (Nx : Hp → Prop) : Prop := ∃ L k b, y = .ref b ∧ ND K w H D L ∧ L.length < sizeLine ∧ ProdAt K H b k ∧ ∀ o, ND K w (upd H D o) D (putK L k z) → Nx (upd H D o)
theorem setN_run {X : Cx} {pins : List (Addr × Obj)} {σ : L2.St} {H : Hp} {s : Shared} {E : Value → Shared → Prop} {D : Addr} {y z : V} {u r : Value} {Nx : Hp → Prop} {Q : Unit → Shared → Prop} (hu : X.A.units + 64 < cLine) (I : Inv X pins σ H s) (ry : RelV y u) (rz : RelV z r)
    (st : setN X.K X.w D y z H Nx) (h : ∀ s' H', Inv X pins σ H' s' → Nx H' → Q () s') : wpAny (model X.prog X.w) X.A (dictSet D u r) Q E s := by
  obtain ⟨L, k, b, ey, ⟨xs, er, n⟩, hlt, hk, q⟩ := st
  subst ey
  obtain rfl : u = Value.ref b := ry
  have dd := n.dict I (.inl er)
  have room : (nestedKind X.prog X.w).room X.A := by
    show X.A.units + 8 < cLine
    omega
  refine PySem.wpAny_dictSet_heap (hsz := by rw [← Paired.length n.rel]; exact n.len) room (hk.nested I) dd fun h' dd' hs' => ?_
  have hl : (putK L k z).length ≤ sizeLine := by have := length_putK L k z; omega
  obtain ⟨I', n'⟩ := nd_write (t' := s.toks + (nestedKind X.prog X.w).draws (keyN k)) I er hl n (n.rel.put k hk rz) (nd_put k z n.nd) dd' hs'
  exact h _ _ I' (q _ n')
section
variable {X : Cx}
/-- {k: v for target in iter if ..}: D the new dict -/
def tDn (K : PySem.W.Frag) (w : World) (wi : TI) (g : TG) (tt : TT) (tk tv : TE) (vs : List Nat) : TE := fun σ H Q => wi σ H fun J H1 => ∀ D, H1 D = none → (D == sysModules) = false → ∃ W : Nat → Nat → Hp → Prop, (∃ m, W 0 m (upd H1 D (ndO w D []))) ∧ ∀ i m H, W i m H →
  (J.stop i H ∧ Q (.ref D) H) ∨ (J.go i H ∧ ∃ Nx : Hp → Prop, (∀ H', Nx H' → ∃ m', m' < m ∧ W (i + 1) m' H') ∧ ∀ x H', J.yld i H x H' → g x (wipe σ vs) H' fun σ2 H2 => wipe σ2 vs = wipe σ vs ∧ tt σ2 H2 fun b H3 =>
    if b = true then tk σ2 H3 fun y H4 => tv σ2 H4 fun z H5 => setN K w D y z H5 Nx else Nx H3)
theorem dn_core {pins : List (Addr × Obj)} {s : Shared} {σ : L2.St} {H : Hp} {Q : VK} {kx vx tg iter : Expr} {ifs : List Expr} {scope : Scope} {own : List (Str × Nat)} {pos pos' : Pos} {wi : TI} {g : TG} {tt : TT} {tk tv : TE} {use : Option (Value → Sem Unit)} {Qf : Value → Shared → Prop}
    (hu : X.A.units + 64 < cLine) (hc : X.calm = true) (hN : X.N.Nodup) (I : Inv X pins σ H s) (hi : PI X tg iter wi) (ok : BlkOk X.N X.env.scope scope own)
    (hg : ∀ (s : Shared) (H : Hp) (C : Addr) (cl : List (Str × Addr)) (fp : List Addr), PG (X.blk s H scope (compEnvC scope cl C X.env) fp) tg g) (ht : ∀ (s : Shared) (H : Hp) (C : Addr) (cl : List (Str × Addr)) (fp : List Addr), PTs (X.blk s H scope (compEnvC scope cl C X.env) fp) ifs tt) (hk : ∀ (s : Shared) (H : Hp) (C : Addr) (cl : List (Str × Addr)) (fp : List Addr), PE (X.blk s H scope (compEnvC scope cl C X.env) fp) kx tk) (he : ∀ (s : Shared) (H : Hp) (C : Addr) (cl : List (Str × Addr)) (fp : List Addr), PE (X.blk s H scope (compEnvC scope cl C X.env) fp) vx tv) (hs : ∀ x, foldedSetIterable iter X.env x = pure x)
    (h : tDn X.K X.w wi g tt tk tv (own.map (·.2)) σ H Q)
    (hRR : ∀ D C s' m H', Inv X pins σ H' s' → Q (.ref D) H' → s'.heap.Ns C m → FpOk X pins H' C → compPost (model X.prog X.w) X.A X.xe use Qf (.ref D) C (.ok .next) s') :
    wpAny (model X.prog X.w) X.A (comprehension (.DictComp kx vx [⟨tg, iter, ifs, 0⟩] scope pos) scope X.env pos' newDict false (eval iter X.env) use) Qf X.xe s := by
  have free : ∀ y ∈ scope.names, y.2 = .free → ∃ c, X.env.cells.lookup y.1 = some c := fun y hy e => (ok.free y hy e).elim (fun k => I.ok.has _ (.inl k)) (fun k => I.ok.has _ (.inr k))
  refine wpAny_comprehension_free (use := use) rfl hs (closure_ok free) ok.kind (fun y hy e => by rw [ok.uniq y hy, e]) (thn (hi.run pins s σ H _ I h) fun _ _ hx => thn hx fun _ s2 h2 => ?_)
  obtain ⟨it, fp, tn, J, H2, rfl, I2, T, st2, f2, q⟩ := h2
  refine wpAny_newObj_type (newEnv_comp ?_)
  -- the new dict, at D
  generalize hD : s2.heap.objs.size = D
  have nD : H2 D = none := I2.hok.fresh (Nat.le_of_eq hD)
  have sD : (D == sysModules) = false := by rw [← hD]; exact beq_eq_false_iff_ne.mpr (Ne.symm (Nat.ne_of_lt I2.big))
  obtain ⟨W, ⟨m0, w0⟩, turn⟩ := q D nD sD
  generalize hs3 : ({ s2 with heap := s2.heap.push { cls := .type "dict", data := .dict #[] } } : Shared) = s3
  have h3 : s3.heap = s2.heap.push { cls := .type "dict", data := .dict #[] } := by rw [← hs3]
  have I3 : Inv X pins σ (upd H2 D (ndO X.w D [])) s3 := by
    subst hs3
    refine I2.laid (t' := s2.toks) (fun b o e => Heap.get?_push_of_some _ e) (Nat.le_of_eq hD) (ndO_ok ⟨{ cls := .type "dict", data := .dict #[] }, #[], 0, ?_, ⟨rfl, rfl, rfl⟩, rfl, rfl⟩)
    rw [← hD]
    exact Heap.get?_push_size _ rfl
  have below : ∀ b ∈ fp, b < s2.heap.objs.size := fun b hb => let ⟨_, e, _⟩ := T.obj _ _ st2 b hb; Heap.lt_size e
  have f3 : ∀ b ∈ fp, FpOk X pins (upd H2 D (ndO X.w D [])) b ∧ b < s3.heap.objs.size := fun b hb => by
    refine ⟨⟨?_, (f2 b hb).2⟩, by rw [h3, Heap.size_push]; exact Nat.lt_succ_of_lt (below b hb)⟩
    rw [upd_ne (by rw [← hD]; exact Nat.ne_of_lt (below b hb))]
    exact (f2 b hb).1
  have st3 : tn 0 s3.heap := T.keep _ _ _ st2 fun b _ o e => by rw [h3]; exact Heap.get?_push_of_some _ e
  have I4 := block_start I3 ok hN f3
  have pg := hg s3 (upd H2 D (ndO X.w D [])) s3.heap.objs.size (cellsFrom (s3.heap.objs.size + 1) scope.names (cloFrom X.env.cells scope.names [])) fp
  have pt := ht s3 (upd H2 D (ndO X.w D [])) s3.heap.objs.size (cellsFrom (s3.heap.objs.size + 1) scope.names (cloFrom X.env.cells scope.names [])) fp
  have pk := hk s3 (upd H2 D (ndO X.w D [])) s3.heap.objs.size (cellsFrom (s3.heap.objs.size + 1) scope.names (cloFrom X.env.cells scope.names [])) fp
  have pe := he s3 (upd H2 D (ndO X.w D [])) s3.heap.objs.size (cellsFrom (s3.heap.objs.size + 1) scope.names (cloFrom X.env.cells scope.names [])) fp
  have nfp : ∀ b ∈ fp, (upd H2 D (ndO X.w D [])) b = none := fun b hb => (f3 b hb).1.1
  show codeAny _ _ (.compStart (.DictComp kx vx [⟨tg, iter, ifs, 0⟩] scope pos) 0 (.ref it) (.ref D) (compEnvC scope (cellsFrom (s3.heap.objs.size + 1) scope.names (cloFrom X.env.cells scope.names [])) s3.heap.objs.size X.env))
    (compPost (model X.prog X.w) X.A X.xe use Qf (.ref D) s3.heap.objs.size) { s3 with heap := pushCells (s3.heap.push { cls := .type "dict", data := .dict #[] }) scope.names }
  generalize hce : compEnvC scope (cellsFrom (s3.heap.objs.size + 1) scope.names (cloFrom X.env.cells scope.names [])) s3.heap.objs.size X.env = ce at I4 pg pt pk pe ⊢
  have cL : ce.locals = s3.heap.objs.size := by rw [← hce]; rfl
  generalize upd H2 D (ndO X.w D []) = H3 at I3 I4 pg pt pk pe w0 nfp f3
  generalize hs4 : ({ s3 with heap := pushCells (s3.heap.push { cls := .type "dict", data := .dict #[] }) scope.names } : Shared) = s4 at I4 ⊢
  have st4 : tn 0 s4.heap := T.keep _ _ _ st3 fun b _ o e => by rw [← hs4]; exact pushCells_keeps _ _ _ _ (Heap.get?_push_of_some _ e)
  have stat : ∀ {σ' : L2.St} {H' : Hp} {s' : Shared}, Inv (X.blk s3 H3 scope ce fp) [] σ' H' s' → (∀ b ∈ fp, H' b = none) → ∀ b ∈ fp, FpOk (X.blk s3 H3 scope ce fp) [] H' b := fun I' hn b hb =>
    ⟨hn b hb, (I'.ok.exf b hb).1, I'.ok.exfs b hb, .inl hb, fun x c e => (I'.ok.exf b hb).2 x c e, fun p hp => absurd (show p ∈ ([] : List (Addr × Obj)) ++ [] from hp) (by simp)⟩
  let Here : Nat → Shared → Prop := fun n s' => ∃ i H', Inv (X.blk s3 H3 scope ce fp) [] (wipe σ (own.map (·.2))) H' s' ∧ tn i s'.heap ∧ (∀ b ∈ fp, H' b = none) ∧ W i n H'
  have loop : codeAny (model X.prog X.w) X.A (.compLoop (.DictComp kx vx [⟨tg, iter, ifs, 0⟩] scope pos) 0 (.ref it) (.ref D) ce) (compPost (model X.prog X.w) X.A X.xe use Qf (.ref D) s3.heap.objs.size) s4 := by
    refine compLoop_anyD Here (fun n s5 hHere => ?_) m0 ⟨0, H3, I4, st4, nfp, w0⟩
    obtain ⟨i, H5, I5, st5, n5, w5⟩ := hHere
    rcases turn i n H5 w5 with ⟨stop, fine⟩ | ⟨go, Nx, hNx, step⟩
    · refine thnF (T.done (X.blk s3 H3 scope ce fp) rfl rfl rfl hc i [] s5 _ H5 (fun _ _ => False) I5 (stat I5 n5) st5 stop) fun r s6 ⟨hr, I6⟩ => ?_
      subst hr
      -- back in the def
      have I7 : Inv X pins σ H5 s6 := I3.call' (ch := fp) I6.os I6.base I6.hok I6.bare fun b hb => let z := (f3 b hb).1; ⟨z.2.2.2.1, z.2.1, z.2.2.2.2.1, z.2.2.2.2.2⟩
      have nC : H5 s3.heap.objs.size = none := cL ▸ (show H5 ce.locals = none from I6.free)
      obtain ⟨m, ns, _⟩ := I6.loc
      have ns : s6.heap.Ns s3.heap.objs.size m := cL ▸ (show s6.heap.Ns ce.locals m from ns)
      exact hRR D s3.heap.objs.size s6 m H5 I7 fine ns (I3.fpOk (Nat.le_refl _) nC)
    · refine thnF (T.item (X.blk s3 H3 scope ce fp) rfl rfl rfl hc i [] s5 _ H5 (fun _ _ => False) I5 (stat I5 n5) st5 go) fun r s6 ⟨u, hr, h6⟩ => ?_
      subst hr
      refine thnF h6 fun _ s7 ⟨x, H7, I7, r7, y7, st7, n7⟩ => ?_
      have I7p := I7.pinned (stat I7 n7) (T.obj _ _ st7)
      refine thnF (pg.run _ s7 _ H7 x u _ I7p r7 (step x H7 y7)) fun _ s8 ⟨σ8, H8, I8, hw8, q8⟩ => thnF (pt.run _ s8 σ8 H8 _ I8 q8) fun b s9 ⟨H9, I9, q9⟩ => ?_
      -- the turn's end
      have fin : ∀ {s' : Shared} {H' : Hp}, Inv (X.blk s3 H3 scope ce fp) ([] ++ pinsAt fp s7.heap) σ8 H' s' → Nx H' → ∃ m, m < n ∧ Here m s' := fun {s' H'} I' nx => by
        obtain ⟨m', hm, w'⟩ := hNx H' nx
        have pin' : ∀ b ∈ fp, ∀ o, s7.heap.get? b = some o → s'.heap.get? b = some o ∧ H' b = none := fun b hb o e =>
          let z := I'.pin (b, o) (List.mem_append_right _ (List.mem_append_right _ (mem_pinsAt hb e)))
          ⟨z.1, z.2.1⟩
        refine ⟨m', hm, i + 1, H', (I'.unpinned (pins := [])).weak (by rw [← hw8, wipe_length]) (fun j v e => ?_), T.keep _ _ _ st7 fun b hb o e => (pin' b hb o e).1, fun b hb => ?_, w'⟩
        · rw [← hw8] at e
          exact (wipe_some e).1
        · obtain ⟨o, e, _⟩ := T.obj _ _ st7 b hb
          exact (pin' b hb o e).2
      cases b with
      | false =>
        simp only [Bool.false_eq_true, if_false] at q9 ⊢
        exact fin I9 q9
      | true =>
        simp only [if_true] at q9 ⊢
        refine thnF (pk.run _ s9 σ8 H9 _ I9 q9) fun z s10 ⟨yk, H10, I10, r10, q10⟩ => thnF (pe.run _ s10 σ8 H10 _ I10 q10) fun z2 s11 ⟨yv, H11, I11, r11, put⟩ => ?_
        exact setN_run (X := X.blk s3 H3 scope ce fp) hu I11 r10 r11 put fun s12 H12 I12 nx => fin I12 nx
  exact codeAny_compStart_dict loop (T.self X.A 0 _ _ _ st4 loop)
theorem pe_dn {kx vx tg iter : Expr} {ifs : List Expr} {scope : Scope} {own : List (Str × Nat)} {pos : Pos} {wi : TI} {g : TG} {tt : TT} {tk tv : TE} (hu : X.A.units + 64 < cLine) (hc : X.calm = true) (hN : X.N.Nodup) (hi : PI X tg iter wi) (ok : BlkOk X.N X.env.scope scope own)
    (hg : ∀ (s : Shared) (H : Hp) (C : Addr) (cl : List (Str × Addr)) (fp : List Addr), PG (X.blk s H scope (compEnvC scope cl C X.env) fp) tg g) (ht : ∀ (s : Shared) (H : Hp) (C : Addr) (cl : List (Str × Addr)) (fp : List Addr), PTs (X.blk s H scope (compEnvC scope cl C X.env) fp) ifs tt) (hk : ∀ (s : Shared) (H : Hp) (C : Addr) (cl : List (Str × Addr)) (fp : List Addr), PE (X.blk s H scope (compEnvC scope cl C X.env) fp) kx tk) (he : ∀ (s : Shared) (H : Hp) (C : Addr) (cl : List (Str × Addr)) (fp : List Addr), PE (X.blk s H scope (compEnvC scope cl C X.env) fp) vx tv) (hs : ∀ x, foldedSetIterable iter X.env x = pure x := by intro _; rfl) :
    PE X (.DictComp kx vx [⟨tg, iter, ifs, 0⟩] scope pos) (tDn X.K X.w wi g tt tk tv (own.map (·.2))) := by
  refine ⟨fun pins s σ H Q I h => ?_⟩
  rw [arm_eval_DictComp]
  refine dn_core hu hc hN I hi ok hg ht hk he hs h fun D C s' m H' I' q hn ⟨f0, f1, f2, f3, f4, f5⟩ => ⟨m, hn, fun h'' sb => ?_⟩
  exact ⟨.ref D, H', I'.turned (t' := s'.toks) (fun b o hb e => (sb.2 b hb).trans e) f0 f1 f3 f4 f5, rfl, q⟩
/-- .. over the pairs of such a dict that is locked -/
theorem dn_items {K : PySem.W.Frag} {w : World} {d : Addr} {o : Obj} {L : List (Pr × V)} {g : TG} {tt : TT} {tk tv : TE} {vs : List Nat} {σ : L2.St} {H1 : Hp} {D : Addr} {Qd : Hp → Prop} (Pv : Nat → Hp → Prop) (h0 : Pv 0 (upd H1 D (ndO w D []))) (hl : ∀ i H, i ≤ L.length → Pv i H → NF K w H d o L)
    (hs : ∀ i k v H T b, L[i]? = some (k, v) → Pv i H → H T = none → ProdAt K H b k → g (.ref T) (wipe σ vs) (upd H T (.tup [.ref b, v])) fun σ2 H2 => wipe σ2 vs = wipe σ vs ∧ tt σ2 H2 fun b H3 =>
      if b = true then tk σ2 H3 fun y H4 => tv σ2 H4 fun z H5 => setN K w D y z H5 (Pv (i + 1)) else Pv (i + 1) H3) (hd : ∀ H, Pv L.length H → Qd H) :
    ∃ W : Nat → Nat → Hp → Prop, (∃ m, W 0 m (upd H1 D (ndO w D []))) ∧ ∀ i m H, W i m H → ((ItN K w d o L).stop i H ∧ Qd H) ∨ ((ItN K w d o L).go i H ∧ ∃ Nx : Hp → Prop, (∀ H', Nx H' → ∃ m', m' < m ∧ W (i + 1) m' H') ∧
      ∀ x H', (ItN K w d o L).yld i H x H' → g x (wipe σ vs) H' fun σ2 H2 => wipe σ2 vs = wipe σ vs ∧ tt σ2 H2 fun b H3 => if b = true then tk σ2 H3 fun y H4 => tv σ2 H4 fun z H5 => setN K w D y z H5 Nx else Nx H3) := by
  refine ⟨fun i m H => m = L.length - i ∧ i ≤ L.length ∧ Pv i H, ⟨_, rfl, Nat.zero_le _, h0⟩, fun i m H ⟨em, hi, p⟩ => ?_⟩
  have F := hl i H hi p
  by_cases lt : i < L.length
  · refine .inr ⟨⟨F, lt⟩, Pv (i + 1), fun H' p' => ⟨L.length - (i + 1), by omega, rfl, lt, p'⟩, fun x H' ⟨T, b, k, v, hL, ex, nT, hb, eH⟩ => ?_⟩
    subst ex
    subst eH
    exact hs i k v H T b hL p nT hb
  · have e : i = L.length := by omega
    subst e
    exact .inl ⟨⟨F, Nat.le_refl _⟩, hd H p⟩
end
/-! ### a display of one pair; == of two such dicts with shares -/
def tOneN (K : PySem.W.Frag) (w : World) (tk tv : TE) : TE := fun σ H Q => ∀ p, H p = none → (p == sysModules) = false → tk σ (upd H p (ndO w p [])) fun y H1 => tv σ H1 fun z H2 => ∃ k b, y = .ref b ∧ ProdAt K H2 b k ∧ H2 p = some (ndO w p []) ∧
  ∀ o, ND K w (upd H2 p o) p [(k, z)] → Q (.ref p) (upd H2 p o)
section
variable {X : Cx}
theorem pe_oneN {pos : Pos} {k v : Expr} {tk tv : TE} (hu : X.A.units + 64 < cLine) (hk : PE X k tk) (hv : PE X v tv) : PE X (.Dict [some k] [v] pos) (tOneN X.K X.w tk tv) := by
  refine ⟨fun pins s σ H Q I q => ?_⟩
  have nP := I.hok.fresh (Nat.le_refl s.heap.objs.size)
  have sP : (s.heap.objs.size == sysModules) = false := beq_eq_false_iff_ne.mpr (Ne.symm (Nat.ne_of_lt I.big))
  have I1 := I.laid (a := s.heap.objs.size) (o := ndO X.w s.heap.objs.size []) (h' := s.heap.push { cls := .type "dict", data := .dict #[] }) (t' := s.toks) (fun _ _ q => Heap.get?_push_of_some _ q) (Nat.le_refl _) (ndO_ok ⟨_, #[], 0, Heap.get?_push_size _ rfl, ⟨rfl, rfl, rfl⟩, rfl, rfl⟩)
  rw [arm_eval_Dict, zip_pairTrees [some k] [v] X.env pos rfl rfl, dictDisplay_pairs _ (by intro z; cases z) (by show 1 < 17; decide)]
  refine wpAny_bind (wpAny_standAt (wpAny_bind (PySem.wpAny_subDictH (knd := nestedKind X.prog X.w) (Q := fun d s' => wpAny (model X.prog X.w) X.A (pure (Value.ref d)) (EP X pins σ Q) X.xe s') (show X.A.units + 8 < cLine by omega) (by show 1 ≤ 15; decide) ?_)))
  refine thn ((pps_cons hk hv pps_nil).run pins _ σ _ (fun ps H2 => match ps with
    | [(y, z)] => ∃ k b, y = .ref b ∧ ProdAt X.K H2 b k ∧ H2 s.heap.objs.size = some (ndO X.w s.heap.objs.size []) ∧ ∀ o, ND X.K X.w (upd H2 s.heap.objs.size o) s.heap.objs.size [(k, z)] → Q (.ref s.heap.objs.size) (upd H2 s.heap.objs.size o)
    | _ => False) I1 (q _ nP sP)) fun ws s2 ⟨ps, H2, I2, rel, fin⟩ => ?_
  match ps, ws, rel, fin with
  | [(y, z)], _, .cons (b := (u, r)) ⟨ry, rz⟩ .nil, ⟨m, b, ey, hb, e2, fin⟩ =>
    subst ey
    obtain rfl : u = Value.ref b := ry
    have n0 : NDAs X.K X.w H2 s.heap.objs.size [] [] := ⟨Nat.zero_le _, sP, .nil, List.nodup_nil⟩
    refine ⟨[(keyN m, b, r)], ⟨rfl, rfl, hb.nested I2, True.intro⟩, n0.dict I2 (.inl e2), fun h' tk dd hs => wpAny_pure ?_⟩
    obtain ⟨I3, n3⟩ := nd_write (L' := [(m, z)]) (t' := tk) I2 e2 (by show 1 ≤ sizeLine; decide) n0 (.cons ⟨rfl, hb, rz⟩ .nil) (by simp) dd hs
    exact ⟨.ref s.heap.objs.size, _, I3, rfl, fin _ n3⟩
end
/-! ### shares as values -/
/-- the shares M stand as the values L -/
abbrev RatL (K : PySem.W.Frag) (H : Hp) : List (Pr × V) → List (Pr × Rat) → Prop := Paired fun p m => p.1 = m.1 ∧ ∃ q, p.2 = .ref q ∧ SqT K H q (ratV m.2)
def lookM (M : List (Pr × Rat)) (k : Pr) : Option Rat := (M.find? fun x => decide (x.1 = k)).map (·.2)
def eqM (M N : List (Pr × Rat)) : Bool := M.length == N.length && M.all fun x => decide (lookM N x.1 = some x.2)
theorem RatL.val {K : PySem.W.Frag} {H : Hp} {L : List (Pr × V)} {M : List (Pr × Rat)} (r : RatL K H L M) (k : Pr) : (valV L k = none ∧ lookM M k = none) ∨ ∃ q x, valV L k = some (.ref q) ∧ lookM M k = some x ∧ SqT K H q (ratV x) := by
  induction r with
  | nil => exact .inl ⟨rfl, rfl⟩
  | @cons p m ps ms h t ih =>
    obtain ⟨h1, q, h2, h3⟩ := h
    by_cases e : p.1 = k
    · refine .inr ⟨q, m.2, ?_, ?_, h3⟩
      · rw [valV_pos e, h2]
      · simp [lookM, ← h1, e]
    · have a : valV (p :: ps) k = valV ps k := valV_neg e
      have b : lookM (m :: ms) k = lookM ms k := by
        have e' : ¬ m.1 = k := fun z => e (h1.trans z)
        simp [lookM, e']
      rw [a, b]
      exact ih
theorem ratEq {X : Cx} {pins : List (Addr × Obj)} {σ : L2.St} {H : Hp} {s : Shared} {A : Around} (I : Inv X pins σ H s) {p q : Addr} {r t : Rat} (hp : SqT X.K H p (ratV r)) (hq : SqT X.K H q (ratV t)) (hu : A.units + 64 < cLine) : SeqAt.EqAt A s (.ref p) (.ref q) (decide (r = t)) := by
  have dp : ∀ {p : Addr} {r : Rat}, SqT X.K H p (ratV r) → Dp X.K H (.ref p) (.tuple [.int r.num, .int (r.den : Int)]) := fun e => .tup e (.cons (.int _) (.cons (.int _) .nil))
  obtain ⟨as, ra⟩ := Dp.reads I _ _ (.ref p) (dp hp) rfl
  obtain ⟨bs, rb⟩ := Dp.reads I _ _ (.ref q) (dp hq) rfl
  have z := SeqAt.eqAt_reads _ _ A s (.ref p) (.ref q) as bs ra rb (by simp [PyData.canLay0, PyData.canLayAll0]) (by simp [PyData.canLay0, PyData.canLayAll0]) (by simp [PyData.depth, PyData.depthAll]; omega)
  have e : PyData.eqv (.tuple [.int r.num, .int (r.den : Int)]) (.tuple [.int t.num, .int (t.den : Int)]) = decide (r = t) := by
    by_cases h : r = t
    · subst h
      simp [PyData.eqv, PyData.eqvAll]
    · rw [decide_eq_false h]
      have ne : ¬ (r.num = t.num ∧ r.den = t.den) := fun ⟨a, b⟩ => h (Rat.ext a b)
      simp only [PyData.eqv, PyData.eqvAll, Bool.and_true]
      rw [Bool.and_eq_false_iff]
      by_cases a : r.num = t.num
      · right
        have b : ¬ r.den = t.den := fun b => ne ⟨a, b⟩
        simp
        omega
      · left
        simpa using a
  rw [e] at z
  exact z
/-! ### == of such dicts -/
section
variable {prog : Program} {w : World} {A : Around} {E : Value → Shared → Prop} {s : Shared}
/-- what one entry's look in the other dict gives -/
def hitN (eqf : Value → Value → Bool) (ys : List (NestedKey × Addr × Value)) (x : NestedKey × Addr × Value) : Bool := match atKey ys x.1 with
  | none => false
  | some p => eqf x.2.2 p.2
theorem samePairsN {nm : String} {a b : Addr} {xs ys : List (NestedKey × Addr × Value)} {eqf : Value → Value → Bool} {Q : Bool → Shared → Prop} (ha : (a == sysModules) = false) (hb : (b == sysModules) = false)
    (da : s.heap.DictOfH (nestedKind prog w) a xs) (db : s.heap.DictOfH (nestedKind prog w) b ys) (hu : A.units + 8 < cLine) (hv : ∀ x p, x ∈ xs → atKey ys x.1 = some p → SeqAt.EqAt A s x.2.2 p.2 (eqf x.2.2 p.2))
    (h : Q (xs.length == ys.length && xs.all (hitN eqf ys)) s) : wpAny (model prog w) A (Builtin.Dict.samePairs nm a b) Q E s := by
  obtain ⟨oa, es, ep, hoa, _, hda, hea, hisa, hna⟩ := da
  obtain ⟨ob, es', ep', hob, _, hdb, heb, hisb, hnb⟩ := db
  have la : es.size = xs.length := size_of_entries hea
  have lb : es'.size = ys.length := size_of_entries heb
  unfold Builtin.Dict.samePairs Builtin.Dict.showsAll
  rw [if_neg (by rw [ha]; exact Bool.false_ne_true), if_neg (by rw [hb]; exact Bool.false_ne_true)]
  refine wpAny_bind (wpAny_pure (wpAny_bind (wpAny_pure (wpAny_bind (wpAny_dictEntries hoa hda ?_)))))
  dsimp only
  refine wpAny_bind (wpAny_dictEntries hob hdb ?_)
  by_cases sz : es.size = es'.size
  case neg =>
    rw [if_pos (by simpa using sz)]
    rw [show (xs.length == ys.length) = false by simpa [← la, ← lb] using sz, Bool.false_and] at h
    exact wpAny_bind (wpAny_rule (wpAny_pure h))
  rw [show (xs.length == ys.length) = true by simp [← la, ← lb, sz], Bool.true_and] at h
  rw [if_neg (by rw [sz]; simp)]
  refine wpAny_bind (wpAny_dictEpoch hoa hda (wpAny_bind ?_))
  rw [Std.Legacy.Range.forIn_eq_forIn_range']
  simp only [Std.Legacy.Range.size, Nat.sub_zero, Nat.add_sub_cancel, Nat.div_one]
  refine wpAny_forIn_list _ (fun rest q s' => s' = s ∧ q = (none, ()) ∧ ∃ i, rest = List.range' i (es.size - i) ∧ i ≤ es.size ∧ (xs.take i).all (hitN eqf ys) = true) _ ?_ ?_ _ _ ⟨rfl, rfl, 0, by simp, Nat.zero_le _, by simp⟩
  · rintro j rest q s' ⟨rfl, rfl, i, hr, hi, done⟩
    have hlt : i < es.size := by
      by_cases z : i < es.size
      · exact z
      · rw [show es.size - i = 0 by omega] at hr
        cases hr
    rw [show es.size - i = (es.size - (i + 1)) + 1 by omega, List.range'_succ] at hr
    obtain ⟨rfl, hrest⟩ := List.cons.inj hr
    have jx : j < xs.length := by omega
    have en : es[j] = entryOfKey (nestedKind prog w) xs[j] := by
      have z := entry_at hea j
      rw [Array.getElem?_eq_getElem hlt, List.getElem?_eq_getElem jx] at z
      exact Option.some.inj z
    have mem : xs[j] ∈ xs := List.getElem_mem jx
    -- what is known when this entry is not the same
    have bad : hitN eqf ys xs[j] = false → xs.all (hitN eqf ys) = false := fun z => by
      rw [List.all_eq_false]
      exact ⟨_, mem, by rw [z]; exact Bool.false_ne_true⟩
    refine wpAny_bind (wpAny_dictEntries hoa hda ?_)
    rw [Array.getElem?_eq_getElem hlt, en]
    show wpAny _ _ (holding [Value.ref xs[j].2.1, xs[j].2.2] _ >>= _) _ _ _
    refine wpAny_bind (wpAny_holding (wpAny_bind (wpAny_dictFind_heap (knd := nestedKind prog w) hu (hisa _ mem) hob hdb heb hisb hnb (fun no => ?_) fun t p ht => ?_)))
    · have e : hitN eqf ys xs[j] = false := by
        unfold hitN
        rw [atKey_none_of_get no]
      rw [bad e] at h
      refine wpAny_pure ?_
      show wpAny _ _ (if (!false) = true then _ else _) _ _ _
      rw [if_pos (by decide)]
      exact wpAny_pure (wpAny_pure h)
    · have at' : atKey ys xs[j].1 = some p := atKey_of_get hnb ht
      have e : hitN eqf ys xs[j] = eqf xs[j].2.2 p.2 := by
        unfold hitN
        rw [at']
      refine wpAny_bind (wpAny_dictEntries hob hdb ?_)
      rw [entry_at heb t, ht]
      show wpAny _ _ (holding [p.2] (eqBool xs[j].2.2 p.2)) _ _ _
      refine wpAny_holding (hv _ p mem at' prog w _ _ ?_)
      cases hq : eqf xs[j].2.2 p.2 with
      | false =>
        rw [bad (e.trans hq)] at h
        show wpAny _ _ (if (!false) = true then _ else _) _ _ _
        rw [if_pos (by decide)]
        exact wpAny_pure (wpAny_pure h)
      | true =>
        show wpAny _ _ (if (!true) = true then _ else _) _ _ _
        rw [if_neg (by decide)]
        refine wpAny_bind (wpAny_dictEpoch hoa hda ?_)
        rw [if_neg (by simp)]
        refine wpAny_pure ⟨rfl, rfl, j + 1, hrest, hlt, ?_⟩
        rw [List.take_add_one, List.getElem?_eq_getElem jx, List.all_append, done]
        simp [e, hq]
  · rintro q s' ⟨rfl, rfl, i, hr, hi, done⟩
    have e : i = xs.length := by
      by_cases z : i < es.size
      · rw [show es.size - i = (es.size - (i + 1)) + 1 by omega, List.range'_succ] at hr
        cases hr
      · omega
    rw [e, List.take_length] at done
    rw [done] at h
    exact wpAny_pure h
end
section
variable {X : Cx}
/-- both dicts of shares -/
def rEqN (K : PySem.W.Frag) (w : World) (neg : Bool) : R2 := fun x y H Q => ∃ (a b : Addr) (L L' : List (Pr × V)) (M N : List (Pr × Rat)), x = .ref a ∧ y = .ref b ∧ NR K w H a L ∧ NR K w H b L' ∧ RatL K H L M ∧ RatL K H L' N ∧ Q (.bl (neg != eqM M N)) H
theorem eqN_hits {pins : List (Addr × Obj)} {σ : L2.St} {H : Hp} {s : Shared} {A : Around} (hu : A.units + 64 < cLine) (I : Inv X pins σ H s) {L L' : List (Pr × V)} {M N : List (Pr × Rat)} {ys : List (NestedKey × Addr × Value)} (rM : RatL X.K H L M) (rN : RatL X.K H L' N) (rb : KN X.K H L' ys) :
    ∃ eqf : Value → Value → Bool, ∀ xs, KN X.K H L xs → (∀ x p, x ∈ xs → atKey ys x.1 = some p → SeqAt.EqAt A s x.2.2 p.2 (eqf x.2.2 p.2)) ∧ xs.all (hitN eqf ys) = M.all fun x => decide (lookM N x.1 = some x.2) := by
  classical
  refine ⟨fun u v => decide (∃ (p q : Addr) (r : Rat), u = .ref p ∧ v = .ref q ∧ SqT X.K H p (ratV r) ∧ SqT X.K H q (ratV r)), fun xs rx => ?_⟩
  have inj : ∀ {p : Addr} {r t : Rat}, SqT X.K H p (ratV r) → SqT X.K H p (ratV t) → r = t := fun h1 h2 => by
    have z := I.tuple_inj h1 h2
    unfold ratV at z
    injection z with z1 z2
    injection z2 with z2 _
    injection z1 with z1
    injection z2 with z2
    exact Rat.ext z1 (by omega)
  have look : ∀ (k : Pr), (atKey ys (keyN k) = none ∧ lookM N k = none) ∨ ∃ (b q : Addr) (t : Rat), atKey ys (keyN k) = some (b, .ref q) ∧ lookM N k = some t ∧ SqT X.K H q (ratV t) := fun k => by
    have r := rb.val k
    rcases rN.val k with ⟨e1, e2⟩ | ⟨q, t, e1, e2, e3⟩
    · rw [e1] at r
      exact .inl ⟨Option.map_eq_none_iff.mp (RelO.none_of r), e2⟩
    · rw [e1] at r
      obtain ⟨u, hu', ru⟩ := RelO.some_of r
      obtain ⟨p, hp, hp2⟩ := Option.map_eq_some_iff.mp hu'
      obtain ⟨b, u'⟩ := p
      cases hp2
      obtain rfl : u' = Value.ref q := ru
      exact .inr ⟨b, q, t, hp, e2, e3⟩
  have one : ∀ (k : Pr) (p : Addr) (r : Rat), SqT X.K H p (ratV r) → ∀ (c : Addr), hitN (fun u v => decide (∃ (p q : Addr) (r : Rat), u = .ref p ∧ v = .ref q ∧ SqT X.K H p (ratV r) ∧ SqT X.K H q (ratV r))) ys (keyN k, c, .ref p) = decide (lookM N k = some r) := fun k p r hp c => by
    unfold hitN
    rcases look k with ⟨e1, e2⟩ | ⟨b, q, t, e1, e2, e3⟩
    · rw [e1, e2]
      simp
    · rw [e1, e2]
      show decide _ = _
      by_cases h : t = r
      · subst h
        rw [decide_eq_true ⟨p, q, t, rfl, rfl, hp, e3⟩]
        simp
      · have no : ¬ ∃ (p' q' : Addr) (r' : Rat), Value.ref p = .ref p' ∧ Value.ref q = .ref q' ∧ SqT X.K H p' (ratV r') ∧ SqT X.K H q' (ratV r') := fun ⟨p', q', r', h1, h2, h3, h4⟩ => by
          cases h1
          cases h2
          exact h ((inj e3 h4).trans (inj hp h3).symm)
        rw [decide_eq_false no]
        simp [h]
  constructor
  · -- each value is a share
    have vals : ∀ (L : List (Pr × V)) (M : List (Pr × Rat)) (xs : List (NestedKey × Addr × Value)), RatL X.K H L M → KN X.K H L xs → ∀ x ∈ xs, ∃ (k : Pr) (p : Addr) (r : Rat), x.1 = keyN k ∧ x.2.2 = .ref p ∧ SqT X.K H p (ratV r) := by
      intro L M xs rM
      induction rM generalizing xs with
      | nil =>
        intro rx x hx
        cases rx
        exact nomatch hx
      | @cons l m ls ms h t ih =>
        intro rx x hx
        cases rx with
        | @cons _ y _ ys hy ty =>
          rcases List.mem_cons.mp hx with e | hx
          · subst e
            obtain ⟨_, q, e1, e2⟩ := h
            obtain ⟨k1, _, rv⟩ := hy
            rw [e1] at rv
            exact ⟨l.1, q, m.2, k1.symm, rv, e2⟩
          · exact ih _ ty x hx
    intro x p hx hp
    obtain ⟨k, a, r, ek, ea, hr⟩ := vals _ _ _ rM rx x hx
    rw [ek] at hp
    rcases look k with ⟨e1, _⟩ | ⟨b, q, t, e1, e2, e3⟩
    · rw [e1] at hp
      cases hp
    · rw [e1] at hp
      cases hp
      rw [ea]
      have z := ratEq I hr e3 hu
      have e : decide (r = t) = decide (∃ (p q' : Addr) (r : Rat), Value.ref a = .ref p ∧ Value.ref q = .ref q' ∧ SqT X.K H p (ratV r) ∧ SqT X.K H q' (ratV r)) := by
        by_cases h : r = t
        · subst h
          rw [decide_eq_true rfl, decide_eq_true ⟨a, q, r, rfl, rfl, hr, e3⟩]
        · have no : ¬ ∃ (p q' : Addr) (r : Rat), Value.ref a = .ref p ∧ Value.ref q = .ref q' ∧ SqT X.K H p (ratV r) ∧ SqT X.K H q' (ratV r) := fun ⟨p', q', r', h1, h2, h3, h4⟩ => by
            cases h1
            cases h2
            exact h ((inj hr h3).trans (inj e3 h4).symm)
          rw [decide_eq_false h, decide_eq_false no]
      have z' : SeqAt.EqAt A s (.ref a) (.ref q) (decide (∃ (p q' : Addr) (r : Rat), Value.ref a = .ref p ∧ Value.ref q = .ref q' ∧ SqT X.K H p (ratV r) ∧ SqT X.K H q' (ratV r))) := by
        rw [← e]
        exact z
      exact z'
  · clear rb look
    induction rM generalizing xs with
    | nil =>
      cases rx
      rfl
    | @cons l m ls ms h t ih =>
      cases rx with
      | @cons _ y _ xs' hy ty =>
        obtain ⟨e0, q, e1, e2⟩ := h
        obtain ⟨k1, _, rv⟩ := hy
        rw [e1] at rv
        obtain ⟨y1, y2, y3⟩ := y
        simp only at k1 rv
        obtain rfl : y3 = Value.ref q := rv
        rw [List.all_cons, List.all_cons, ih _ ty, ← k1, one l.1 q m.2 e2 y2, e0]
theorem op_eqN (hu : X.A.units + 72 < cLine) : OpR X (compareOp .Eq) (rEqN X.K X.w false) := by
  intro pins s σ H x y v u Q I rx ry h
  obtain ⟨a, b, L, L', M, N, rfl, rfl, ⟨xs, ea, na⟩, ⟨ys, eb, nb⟩, rM, rN, q⟩ := h
  obtain rfl : v = Value.ref a := rx
  obtain rfl : u = Value.ref b := ry
  have da := na.dict I ea
  have db := nb.dict I eb
  obtain ⟨eqf, hits⟩ := eqN_hits (A := X.A.in1) (by rw [Around.in1_units]; omega) I rM rN nb.rel
  obtain ⟨h1, h2⟩ := hits xs na.rel
  refine wpAny_richCompare_same_room (op := .Eq) da.typeIs db.typeIs PySem.F.slot_dict_eq (wpAny_call_entry PySem.F.slot_dict_eq da.typeIs PySem.F.entry_dict_eq ?_ (PySem.F.args_dict_eq_2 _ _)) (by omega)
  show wpAny _ _ (Builtin.Dict.dictSlotArgs "__eq__" ⟨[.ref a, .ref b], []⟩ >>= _) _ _ s
  refine wpAny_bind ?_
  unfold Builtin.Dict.dictSlotArgs
  refine wpAny_bind (wpAny_notOrdered_dict da.typeIs ?_)
  show wpAny _ _ (pure (Value.ref a, Value.ref b)) _ _ s
  refine wpAny_pure ?_
  refine wpAny_bind (wpAny_isInstance (T := "dict") db.typeIs PySem.F.sub_dict_dict ?_)
  simp only [Bool.not_true, Bool.false_eq_true, if_false]
  refine wpAny_bind (wpAny_pure (wpAny_bind (wpAny_pure (wpAny_bind (samePairsN na.sys nb.sys da db (by rw [Around.in1_units]; omega) h1 ?_)))))
  refine wpAny_pure ⟨_, rfl, (fun x => nomatch x), ?_⟩
  have el : (xs.length == ys.length) = (M.length == N.length) := by rw [← Paired.length na.rel, ← Paired.length nb.rel, Paired.length rM, Paired.length rN]
  have e : ((xs.length == ys.length && xs.all (hitN eqf ys)) == true) = (false != eqM M N) := by
    rw [el, h2]
    unfold eqM
    simp
  rw [e]
  exact ⟨.bl (false != eqM M N), H, I, rfl, q⟩
theorem op_neN (hu : X.A.units + 72 < cLine) : OpR X (compareOp .NotEq) (rEqN X.K X.w true) := by
  intro pins s σ H x y v u Q I rx ry h
  obtain ⟨a, b, L, L', M, N, rfl, rfl, ⟨xs, ea, na⟩, ⟨ys, eb, nb⟩, rM, rN, q⟩ := h
  obtain rfl : v = Value.ref a := rx
  obtain rfl : u = Value.ref b := ry
  have da := na.dict I ea
  have db := nb.dict I eb
  obtain ⟨eqf, hits⟩ := eqN_hits (A := X.A.in1) (by rw [Around.in1_units]; omega) I rM rN nb.rel
  obtain ⟨h1, h2⟩ := hits xs na.rel
  refine wpAny_richCompare_same_room (op := .NotEq) da.typeIs db.typeIs PySem.F.slot_dict_ne (wpAny_call_entry PySem.F.slot_dict_ne da.typeIs PySem.F.entry_dict_ne ?_ (PySem.F.args_dict_ne_2 _ _)) (by omega)
  show wpAny _ _ (Builtin.Dict.dictSlotArgs "__ne__" ⟨[.ref a, .ref b], []⟩ >>= _) _ _ s
  refine wpAny_bind ?_
  unfold Builtin.Dict.dictSlotArgs
  refine wpAny_bind (wpAny_notOrdered_dict da.typeIs ?_)
  show wpAny _ _ (pure (Value.ref a, Value.ref b)) _ _ s
  refine wpAny_pure ?_
  refine wpAny_bind (wpAny_isInstance (T := "dict") db.typeIs PySem.F.sub_dict_dict ?_)
  simp only [Bool.not_true, Bool.false_eq_true, if_false]
  refine wpAny_bind (wpAny_pure (wpAny_bind (wpAny_pure (wpAny_bind (samePairsN na.sys nb.sys da db (by rw [Around.in1_units]; omega) h1 ?_)))))
  refine wpAny_pure ⟨_, rfl, (fun x => nomatch x), ?_⟩
  have el : (xs.length == ys.length) = (M.length == N.length) := by rw [← Paired.length na.rel, ← Paired.length nb.rel, Paired.length rM, Paired.length rN]
  have e : ((xs.length == ys.length && xs.all (hitN eqf ys)) == false) = (true != eqM M N) := by
    rw [el, h2]
    show (eqM M N == false) = (true != eqM M N)
    cases eqM M N <;> rfl
  rw [e]
  exact ⟨.bl (true != eqM M N), H, I, rfl, q⟩
end
/-! ### y = {k: v for ..} on one row, y a local name -/
section
variable {X : Cx}
theorem ps_setDn {i : Nat} {y : Str} {py : Pos} {kx vx tg iter : Expr} {ifs : List Expr} {scope : Scope} {own : List (Str × Nat)} {pos spos : Pos} {wi : TI} {g : TG} {tt : TT} {tk tv : TE} (hu : X.A.units + 64 < cLine) (hc : X.calm = true) (hN : X.N.Nodup)
    (hy : X.N[i]? = some y) (hyl : X.env.scope.names.lookup y = some .local) (hsw : swapsWith (.DictComp kx vx [⟨tg, iter, ifs, 0⟩] scope pos) (some (.Name y py)) spos.line X.env = pure true) (hi : PI X tg iter wi) (ok : BlkOk X.N X.env.scope scope own)
    (hg : ∀ (s : Shared) (H : Hp) (C : Addr) (cl : List (Str × Addr)) (fp : List Addr), PG (X.blk s H scope (compEnvC scope cl C X.env) fp) tg g) (ht : ∀ (s : Shared) (H : Hp) (C : Addr) (cl : List (Str × Addr)) (fp : List Addr), PTs (X.blk s H scope (compEnvC scope cl C X.env) fp) ifs tt)
    (hk : ∀ (s : Shared) (H : Hp) (C : Addr) (cl : List (Str × Addr)) (fp : List Addr), PE (X.blk s H scope (compEnvC scope cl C X.env) fp) kx tk) (he : ∀ (s : Shared) (H : Hp) (C : Addr) (cl : List (Str × Addr)) (fp : List Addr), PE (X.blk s H scope (compEnvC scope cl C X.env) fp) vx tv)
    (hs : ∀ x, foldedSetIterable iter X.env x = pure x := by intro _; rfl) : PS X (.Assign [.Name y py] (.DictComp kx vx [⟨tg, iter, ifs, 0⟩] scope pos) spos) (tAsg (tDn X.K X.w wi g tt tk tv (own.map (·.2))) (gName i)) := by
  refine ⟨fun pins s σ H D I h => ?_⟩
  rw [exec_Assign_Name_used _ _ _ _ hsw]
  refine wpAny_bind (wpAny_standAt (wpAny_bind ?_))
  show wpAny _ X.A (do let _ ← comprehension (.DictComp kx vx [⟨tg, iter, ifs, 0⟩] scope pos) scope X.env (firstIterPos [⟨tg, iter, ifs, 0⟩] pos) newDict false (eval iter X.env) (some (assign (.Name y py) X.env))) _ _ s
  have h' : tDn X.K X.w wi g tt tk tv (own.map (·.2)) σ H (fun x H1 => gName i x σ H1 D.nx) := h
  refine wpAny_bind (thn (dn_core (Qf := fun _ s' => SP X pins D .next s') hu hc hN I hi ok hg ht hk he hs h' fun L C s' m H' I' q hn ⟨f0, f1, f2, f3, f4, f5⟩ => ?_) fun _ s' hq => wpAny_pure (wpAny_pure hq))
  show wpAny _ _ (assign (.Name y py) X.env (.ref L)) _ _ _
  refine wpAny_assign_Name (store_ok2 (v := V.ref L) I' hN hy (.inl hyl) rfl (fun s2 I2 ⟨a, sb, ha⟩ => ⟨m, hn.sameBut sb ?_, fun h3 sb3 => ⟨_, H', I2.turned (t' := s2.toks) (fun b o hb e => (sb3.2 b hb).trans e) f0 f1 f3 f4 f5, q⟩⟩) (.inr hyl))
  rcases ha with z | z
  · rw [z]
    exact f1
  · exact fun e => f4 y a z e.symm
theorem sw_trueD {kx vx : Expr} {gs : List Comprehension} {scope : Scope} {pos py : Pos} {y : Str} {l : Nat} {env : Env} (hk : env.scope.kind = .function) (hy : env.scope.names.lookup y = some .local) (hl : (py.line == pos.line) = true)
    (ha : (scope.names.any fun (n, k) => n == y && (k == .local || k == .cell)) = false) : swapsWith (.DictComp kx vx gs scope pos) (some (.Name y py)) l env = pure true := by
  have a : env.kindOf y = some .local := hy
  have b : env.blockKind = .function := by
    unfold Env.blockKind
    rw [hk]
    rfl
  unfold swapsWith
  simp only [a, b, ha, Expr.pos, hl]
  rfl
end
/-! ### sums as lists of products with shares -/
abbrev Poly := List (Pr × Rat)
def lin (f : Pr → Rat) (M : Poly) : Rat := (M.map fun x => x.2 * f x.1).sum
theorem lin_nil (f : Pr → Rat) : lin f [] = 0 := rfl
theorem lin_cons (f : Pr → Rat) (x : Pr × Rat) (M : Poly) : lin f (x :: M) = x.2 * f x.1 + lin f M := by
  unfold lin
  rw [List.map_cons, List.sum_cons]
theorem lin_append (f : Pr → Rat) (M N : Poly) : lin f (M ++ N) = lin f M + lin f N := by
  induction M with
  | nil => rw [List.nil_append, lin_nil, Rat.zero_add]
  | cons x r ih => rw [List.cons_append, lin_cons, lin_cons, ih, Rat.add_assoc]
def putM (M : Poly) (k : Pr) (t : Rat) : Poly := if (M.any fun x => decide (x.1 = k)) = true then M.map (fun x => if x.1 = k then (x.1, t) else x) else M ++ [(k, t)]
def dropM (M : Poly) (k : Pr) : Poly := M.filter fun x => decide (x.1 ≠ k)
def addM (M : Poly) (k : Pr) (r : Rat) : Poly := if (lookM M k).getD 0 + r = 0 then dropM M k else putM M k ((lookM M k).getD 0 + r)
def coef (M : Poly) (k : Pr) : Rat := (lookM M k).getD 0
theorem lookM_nil (k : Pr) : lookM [] k = none := rfl
theorem lookM_cons (x : Pr × Rat) (M : Poly) (k : Pr) : lookM (x :: M) k = if x.1 = k then some x.2 else lookM M k := by
  unfold lookM
  by_cases e : x.1 = k
  · simp [e]
  · simp [e]
theorem lookM_none {M : Poly} {k : Pr} (h : ∀ x ∈ M, x.1 ≠ k) : lookM M k = none := by
  induction M with
  | nil => rfl
  | cons x r ih => rw [lookM_cons, if_neg (h x (by simp)), ih fun y hy => h y (by simp [hy])]
theorem lookM_any (M : Poly) (k : Pr) : (M.any fun x => decide (x.1 = k)) = (lookM M k).isSome := by
  induction M with
  | nil => rfl
  | cons x r ih =>
    rw [List.any_cons, lookM_cons, ih]
    by_cases e : x.1 = k
    · simp [e]
    · simp [e]
theorem lookM_mem {M : Poly} {k : Pr} {r : Rat} (h : lookM M k = some r) : (k, r) ∈ M := by
  induction M with
  | nil => cases h
  | cons x t ih =>
    rw [lookM_cons] at h
    by_cases e : x.1 = k
    · rw [if_pos e] at h
      cases h
      obtain ⟨a, b⟩ := x
      cases e
      exact List.mem_cons_self
    · rw [if_neg e] at h
      exact List.mem_cons_of_mem _ (ih h)
theorem lookM_of {M : Poly} (hn : (M.map (·.1)).Nodup) {k : Pr} {r : Rat} (h : (k, r) ∈ M) : lookM M k = some r := by
  induction M with
  | nil => cases h
  | cons x t ih =>
    rw [List.map_cons] at hn
    obtain ⟨n1, n2⟩ := List.nodup_cons.mp hn
    rw [lookM_cons]
    rcases List.mem_cons.mp h with e | h
    · subst e
      rw [if_pos rfl]
    · rw [if_neg (fun e => n1 (by rw [e]; exact List.mem_map.mpr ⟨_, h, rfl⟩)), ih n2 h]
theorem not_in {M : Poly} {k : Pr} (h : k ∉ M.map (·.1)) : ∀ x ∈ M, x.1 ≠ k := fun x hx e => h (List.mem_map.mpr ⟨x, hx, e⟩)
theorem dropM_id {M : Poly} {k : Pr} (h : ∀ x ∈ M, x.1 ≠ k) : dropM M k = M := List.filter_eq_self.mpr fun x hx => by simpa using h x hx
theorem map_id_of {M : Poly} {k : Pr} {t : Rat} (h : ∀ x ∈ M, x.1 ≠ k) : (M.map fun x => if x.1 = k then (x.1, t) else x) = M := by
  induction M with
  | nil => rfl
  | cons x r ih => rw [List.map_cons, if_neg (h x (by simp)), ih fun y hy => h y (by simp [hy])]
theorem lin_drop (f : Pr → Rat) {M : Poly} (hn : (M.map (·.1)).Nodup) (k : Pr) : lin f (dropM M k) = lin f M - coef M k * f k := by
  induction M with
  | nil =>
    show (0 : Rat) = 0 - (0 : Rat) * f k
    grind
  | cons x r ih =>
    rw [List.map_cons] at hn
    obtain ⟨n1, n2⟩ := List.nodup_cons.mp hn
    by_cases e : x.1 = k
    · have a : dropM (x :: r) k = dropM r k := List.filter_cons_of_neg (by simp [e])
      have b : dropM r k = r := dropM_id (not_in (by rw [← e]; exact n1))
      have c : coef (x :: r) k = x.2 := by unfold coef; rw [lookM_cons, if_pos e]; rfl
      rw [a, b, c, lin_cons, e]
      grind
    · have a : dropM (x :: r) k = x :: dropM r k := List.filter_cons_of_pos (by simp [e])
      have c : coef (x :: r) k = coef r k := by unfold coef; rw [lookM_cons, if_neg e]
      rw [a, c, lin_cons, lin_cons, ih n2]
      grind
theorem lin_put (f : Pr → Rat) {M : Poly} (hn : (M.map (·.1)).Nodup) (k : Pr) (t : Rat) : lin f (putM M k t) = lin f M - coef M k * f k + t * f k := by
  unfold putM
  rw [lookM_any]
  cases h : lookM M k with
  | none =>
    have c : coef M k = 0 := by unfold coef; rw [h]; rfl
    rw [if_neg (by simp), lin_append, lin_cons, lin_nil, c]
    grind
  | some r =>
    rw [if_pos (show (some r).isSome = true from rfl)]
    induction M with
    | nil => cases h
    | cons x m ih =>
      rw [List.map_cons] at hn
      obtain ⟨n1, n2⟩ := List.nodup_cons.mp hn
      by_cases e : x.1 = k
      · have c : coef (x :: m) k = x.2 := by unfold coef; rw [lookM_cons, if_pos e]; rfl
        rw [List.map_cons, if_pos e, map_id_of (not_in (by rw [← e]; exact n1)), lin_cons, lin_cons, c, e]
        grind
      · rw [lookM_cons, if_neg e] at h
        have c : coef (x :: m) k = coef m k := by unfold coef; rw [lookM_cons, if_neg e]
        rw [List.map_cons, if_neg e, lin_cons, lin_cons, ih n2 h, c]
        grind
theorem lin_add (f : Pr → Rat) {M : Poly} (hn : (M.map (·.1)).Nodup) (k : Pr) (r : Rat) : lin f (addM M k r) = lin f M + r * f k := by
  unfold addM
  split
  · rename_i h
    rw [lin_drop f hn]
    have : coef M k = -r := by unfold coef; grind
    grind
  · rw [lin_put f hn]
    show lin f M - coef M k * f k + (coef M k + r) * f k = _
    grind
theorem keys_put (M : Poly) (k : Pr) (t : Rat) : ∀ x ∈ putM M k t, x.1 = k ∧ x.2 = t ∨ x ∈ M := by
  intro x hx
  unfold putM at hx
  split at hx
  · obtain ⟨y, hy, e⟩ := List.mem_map.mp hx
    by_cases z : y.1 = k
    · rw [if_pos z] at e
      subst e
      exact .inl ⟨z, rfl⟩
    · rw [if_neg z] at e
      subst e
      exact .inr hy
  · rcases List.mem_append.mp hx with h | h
    · exact .inr h
    · have e : x = (k, t) := by simpa using h
      subst e
      exact .inl ⟨rfl, rfl⟩
theorem nodup_putM {M : Poly} (k : Pr) (t : Rat) (h : (M.map (·.1)).Nodup) : ((putM M k t).map (·.1)).Nodup := by
  unfold putM
  split
  · have e : (M.map fun x => if x.1 = k then (x.1, t) else x).map (·.1) = M.map (·.1) := by
      rw [List.map_map]
      refine List.map_congr_left fun x _ => ?_
      show (if x.1 = k then (x.1, t) else x).1 = x.1
      split <;> rfl
    rw [e]
    exact h
  · rename_i hn
    rw [List.map_append]
    refine List.nodup_append.mpr ⟨h, by simp, fun a ha b hb z => ?_⟩
    have eb : b = k := by simpa using hb
    subst z
    subst eb
    obtain ⟨x, hx, e⟩ := List.mem_map.mp ha
    exact hn (List.any_eq_true.mpr ⟨x, hx, by simp [e]⟩)
theorem nodup_dropM {M : Poly} (k : Pr) (h : (M.map (·.1)).Nodup) : ((dropM M k).map (·.1)).Nodup := h.sublist (List.Sublist.map _ List.filter_sublist)
theorem nodup_addM {M : Poly} (k : Pr) (r : Rat) (h : (M.map (·.1)).Nodup) : ((addM M k r).map (·.1)).Nodup := by
  unfold addM
  split
  · exact nodup_dropM k h
  · exact nodup_putM k _ h
theorem len_addM (M : Poly) (k : Pr) (r : Rat) : (addM M k r).length ≤ M.length + 1 := by
  unfold addM dropM putM
  split
  · exact Nat.le_succ_of_le (List.length_filter_le _ _)
  · split
    · rw [List.length_map]
      omega
    · rw [List.length_append]
      exact Nat.le_refl _
/-- what holds of each part of a sum -/
structure Good (A : Pr → Prop) (M : Poly) : Prop where
  nd : (M.map (·.1)).Nodup
  nz : ∀ x ∈ M, x.2 ≠ 0
  pr : ∀ x ∈ M, A x.1
theorem Good.nil {A : Pr → Prop} : Good A [] where
  nd := List.nodup_nil
  nz := fun _ h => nomatch h
  pr := fun _ h => nomatch h
theorem nodup_len {α : Type} [DecidableEq α] : ∀ {l m : List α}, l.Nodup → (∀ x ∈ l, x ∈ m) → l.length ≤ m.length
  | [], _, _, _ => Nat.zero_le _
  | x :: r, m, h, s => by
    obtain ⟨h1, h2⟩ := List.nodup_cons.mp h
    have hx : x ∈ m := s x (by simp)
    have ih := nodup_len (m := m.erase x) h2 fun y hy => (List.mem_erase_of_ne (fun e => h1 (by rw [← e]; exact hy))).mpr (s y (by simp [hy]))
    rw [List.length_erase_of_mem hx] at ih
    have := List.length_pos_of_mem hx
    rw [List.length_cons]
    omega
theorem Good.add {A : Pr → Prop} {M : Poly} (g : Good A M) {k : Pr} (hk : A k) (r : Rat) : Good A (addM M k r) := by
  refine ⟨nodup_addM k r g.nd, fun x hx => ?_, fun x hx => ?_⟩
  · unfold addM at hx
    split at hx
    · exact g.nz x (List.mem_filter.mp hx).1
    · rename_i nz
      rcases keys_put M k _ x hx with ⟨_, e⟩ | h
      · rw [e]
        exact nz
      · exact g.nz x h
  · unfold addM at hx
    split at hx
    · exact g.pr x (List.mem_filter.mp hx).1
    · rcases keys_put M k _ x hx with ⟨e, _⟩ | h
      · rw [e]
        exact hk
      · exact g.pr x h
theorem Good.tail {A : Pr → Prop} {x : Pr × Rat} {M : Poly} (g : Good A (x :: M)) : Good A M := by
  have nd := g.nd
  rw [List.map_cons] at nd
  exact ⟨(List.nodup_cons.mp nd).2, fun y hy => g.nz y (by simp [hy]), fun y hy => g.pr y (by simp [hy])⟩
theorem coef_lin {M : Poly} (hn : (M.map (·.1)).Nodup) (k : Pr) : coef M k = lin (fun p => if p = k then 1 else 0) M := by
  induction M with
  | nil => rfl
  | cons x r ih =>
    rw [List.map_cons] at hn
    obtain ⟨n1, n2⟩ := List.nodup_cons.mp hn
    rw [lin_cons, ← ih n2]
    unfold coef
    rw [lookM_cons]
    by_cases e : x.1 = k
    · rw [if_pos e, if_pos e, lookM_none (not_in (by rw [← e]; exact n1))]
      show x.2 = x.2 * 1 + 0
      grind
    · rw [if_neg e, if_neg e]
      grind
/-- two sums that tell the same, whatever is asked, have the same parts -/
theorem eqM_of {A B : Pr → Prop} {M N : Poly} (g : Good A M) (h : Good B N) (e : ∀ f, lin f M = lin f N) : eqM M N = true := by
  have c : ∀ k, coef M k = coef N k := fun k => by rw [coef_lin g.nd, coef_lin h.nd, e]
  have inN : ∀ (M N : Poly) (A B : Pr → Prop), Good A M → Good B N → (∀ k, coef M k = coef N k) → ∀ x ∈ M, lookM N x.1 = some x.2 := fun M N A B g h c x hx => by
    have l := lookM_of g.nd (k := x.1) (r := x.2) hx
    have z := c x.1
    unfold coef at z
    rw [l] at z
    cases y : lookM N x.1 with
    | none =>
      rw [y] at z
      exact absurd z (g.nz x hx)
    | some t =>
      rw [y] at z
      have z' : x.2 = t := z
      rw [z']
  have a := inN M N A B g h c
  have b := inN N M B A h g fun k => (c k).symm
  have sub : ∀ {M N : Poly}, (∀ x ∈ M, lookM N x.1 = some x.2) → ∀ k ∈ M.map (·.1), k ∈ N.map (·.1) := fun a k hk => by
    obtain ⟨x, hx, e⟩ := List.mem_map.mp hk
    subst e
    exact List.mem_map.mpr ⟨_, lookM_mem (a x hx), rfl⟩
  have len : M.length = N.length := by
    have l1 := nodup_len g.nd fun k hk => sub a k hk
    have l2 := nodup_len h.nd fun k hk => sub b k hk
    rw [List.length_map, List.length_map] at l1 l2
    omega
  unfold eqM
  rw [len]
  simp only [beq_self_eq_true, Bool.true_and, List.all_eq_true, decide_eq_true_eq]
  exact a
/-! ### their size -/
def Whole (D : Nat) (r : Rat) : Prop := (r * (D : Rat)).den = 1
def mag (D : Nat) (r : Rat) : Nat := (r * (D : Rat)).num.natAbs
theorem den_one {x : Rat} (h : x.den = 1) : x = (x.num : Rat) := by
  refine Rat.ext ?_ ?_
  · rw [Rat.num_intCast]
  · rw [Rat.den_intCast, h]
theorem Whole.zero (D : Nat) : Whole D 0 := by
  unfold Whole
  rw [Rat.zero_mul]
  rfl
theorem mag_zero (D : Nat) : mag D 0 = 0 := by
  unfold mag
  rw [Rat.zero_mul]
  rfl
theorem Whole.add {D : Nat} {r s : Rat} (h : Whole D r) (g : Whole D s) : Whole D (r + s) ∧ mag D (r + s) ≤ mag D r + mag D s := by
  unfold Whole mag at *
  have e : (r + s) * (D : Rat) = (((r * (D : Rat)).num + (s * (D : Rat)).num : Int) : Rat) := by
    rw [Rat.add_mul, Rat.intCast_add, ← den_one h, ← den_one g]
  rw [e, Rat.den_intCast, Rat.num_intCast]
  exact ⟨rfl, Int.natAbs_add_le _ _⟩
theorem Whole.neg {D : Nat} {r : Rat} (h : Whole D r) : Whole D (-r) ∧ mag D (-r) = mag D r := by
  unfold Whole mag at *
  rw [Rat.neg_mul, Rat.neg_den, Rat.neg_num, Int.natAbs_neg]
  exact ⟨h, rfl⟩
theorem Whole.mul {D E : Nat} {r s : Rat} (h : Whole D r) (g : Whole E s) : Whole (D * E) (r * s) ∧ mag (D * E) (r * s) = mag D r * mag E s := by
  unfold Whole mag at *
  have e : (r * s) * ((D * E : Nat) : Rat) = (((r * (D : Rat)).num * (s * (E : Rat)).num : Int) : Rat) := by
    rw [Rat.intCast_mul, ← den_one h, ← den_one g, Rat.natCast_mul]
    grind
  rw [e, Rat.den_intCast, Rat.num_intCast]
  exact ⟨rfl, Int.natAbs_mul _ _⟩
theorem mag_pos {D : Nat} {r : Rat} (hD : 0 < D) (h : r ≠ 0) : 0 < mag D r := by
  unfold mag
  have : r * (D : Rat) ≠ 0 := fun z => by
    rcases Rat.mul_eq_zero.mp z with z | z
    · exact h z
    · have : (D : Rat) = ((0 : Nat) : Rat) := z
      have := Rat.natCast_inj.mp this
      omega
  have n0 : (r * (D : Rat)).num ≠ 0 := fun z => this (Rat.num_eq_zero.mp z)
  omega
theorem RB.of {D a : Nat} {r : Rat} (hD : 0 < D) (h : Whole D r) (hm : mag D r < 2 ^ a) (hd : D < 2 ^ a) : RB a r := by
  have e : r = Rat.divInt (r * (D : Rat)).num (D : Int) := by
    have z := den_one h
    have d0 : (D : Rat) ≠ 0 := fun q => by
      have : (D : Rat) = ((0 : Nat) : Rat) := q
      have := Rat.natCast_inj.mp this
      omega
    rw [Rat.divInt_eq_div]
    show r = ((r * (D : Rat)).num : Rat) / ((D : Int) : Rat)
    rw [← z]
    have : ((D : Int) : Rat) = (D : Rat) := rfl
    rw [this, Rat.mul_div_cancel d0]
  rw [e]
  exact RB.divInt (by omega) hm hd
/-- the size of all shares of a sum: D times them are whole, these numbers without their signs together -/
def szM (D : Nat) (M : Poly) : Nat := (M.map fun x => mag D x.2).sum
def AllWhole (D : Nat) (M : Poly) : Prop := ∀ x ∈ M, Whole D x.2
theorem szM_cons (D : Nat) (x : Pr × Rat) (M : Poly) : szM D (x :: M) = mag D x.2 + szM D M := by
  unfold szM
  rw [List.map_cons, List.sum_cons]
theorem szM_nil (D : Nat) : szM D [] = 0 := rfl
theorem szM_append (D : Nat) (M N : Poly) : szM D (M ++ N) = szM D M + szM D N := by
  induction M with
  | nil => rw [List.nil_append, szM_nil, Nat.zero_add]
  | cons x r ih => rw [List.cons_append, szM_cons, szM_cons, ih, Nat.add_assoc]
theorem mag_le_szM {D : Nat} {M : Poly} {x : Pr × Rat} (h : x ∈ M) : mag D x.2 ≤ szM D M := by
  induction M with
  | nil => cases h
  | cons y r ih =>
    rw [szM_cons]
    rcases List.mem_cons.mp h with e | h
    · subst e
      omega
    · have := ih h
      omega
theorem szM_drop (D : Nat) (M : Poly) (k : Pr) : szM D (dropM M k) ≤ szM D M := by
  induction M with
  | nil => exact Nat.le_refl _
  | cons x r ih =>
    unfold dropM
    rw [List.filter_cons, szM_cons]
    split
    · rw [szM_cons]
      exact Nat.add_le_add_left ih _
    · exact Nat.le_trans ih (Nat.le_add_left _ _)
theorem szM_put {D : Nat} {M : Poly} (hn : (M.map (·.1)).Nodup) (k : Pr) (t : Rat) : szM D (putM M k t) + mag D (coef M k) = szM D M + mag D t := by
  unfold putM
  rw [lookM_any]
  cases h : lookM M k with
  | none =>
    have c : coef M k = 0 := by unfold coef; rw [h]; rfl
    rw [if_neg (by simp), szM_append, szM_cons, szM_nil, c, mag_zero]
    rfl
  | some r =>
    rw [if_pos (show (some r).isSome = true from rfl)]
    induction M with
    | nil => cases h
    | cons x m ih =>
      rw [List.map_cons] at hn
      obtain ⟨n1, n2⟩ := List.nodup_cons.mp hn
      by_cases e : x.1 = k
      · have c : coef (x :: m) k = x.2 := by unfold coef; rw [lookM_cons, if_pos e]; rfl
        rw [List.map_cons, if_pos e, map_id_of (not_in (by rw [← e]; exact n1)), szM_cons, szM_cons, c]
        show mag D t + szM D m + mag D x.2 = mag D x.2 + szM D m + mag D t
        omega
      · rw [lookM_cons, if_neg e] at h
        have c : coef (x :: m) k = coef m k := by unfold coef; rw [lookM_cons, if_neg e]
        have := ih n2 h
        rw [List.map_cons, if_neg e, szM_cons, szM_cons, c]
        omega
theorem AllWhole.at_ {D : Nat} {M : Poly} (h : AllWhole D M) (k : Pr) : Whole D (coef M k) ∧ mag D (coef M k) ≤ szM D M := by
  have e : coef M k = (lookM M k).getD 0 := rfl
  rw [e]
  cases l : lookM M k with
  | none => exact ⟨Whole.zero D, by show mag D 0 ≤ _; rw [mag_zero]; omega⟩
  | some r => exact ⟨h _ (lookM_mem l), mag_le_szM (x := (k, r)) (lookM_mem l)⟩
theorem AllWhole.add {D : Nat} {M : Poly} (h : AllWhole D M) (hn : (M.map (·.1)).Nodup) (k : Pr) {r : Rat} (hr : Whole D r) : AllWhole D (addM M k r) ∧ szM D (addM M k r) ≤ szM D M + mag D r := by
  have hc := h.at_ k
  have ha := hc.1.add hr
  have e : coef M k = (lookM M k).getD 0 := rfl
  unfold addM
  rw [← e]
  split
  · exact ⟨fun x hx => h x (List.mem_filter.mp hx).1, Nat.le_trans (szM_drop D M k) (Nat.le_add_right _ _)⟩
  · refine ⟨fun x hx => ?_, ?_⟩
    · rcases keys_put M k _ x hx with ⟨_, z⟩ | z
      · rw [z]
        exact ha.1
      · exact h x z
    · have := szM_put (D := D) hn k (coef M k + r)
      omega
/-! ### the class Sum -/
def tFreeze (t : TS) : TS := fun D σ H => t { D with nx := fun σ' H' => ∃ d u, H' d = some u ∧ Mut (some u) ∧ ∀ od, D.nx σ' (upd H' d (.frz od u)) } σ H
/-- behind the statement a thing is only read any more -/
theorem ps_freeze {X : Cx} {st : Stmt} {t : TS} (h : PS X st t) : PS X st (tFreeze t) := ⟨fun pins s σ H D I hw => thn (h.run pins s σ _ _ I hw) fun f s1 q => by
  cases f with
  | next =>
    obtain ⟨σ', H', I2, d, u, e, mu, q⟩ := q
    obtain ⟨od, I3⟩ := I2.lock e mu
    exact ⟨σ', _, I3, q od⟩
  | brk => exact q
  | cont => exact q
  | ret v => exact q⟩
def sumF (d : Addr) : List (Str × V) := putF "parts" (.ref d) []
theorem sumF_parts (d : Addr) : (sumF d).lookup ("parts" : Str) = some (.ref d) := by
  unfold sumF
  rw [lookup_putF, if_pos rfl]
/-- a Sum with the parts M stands at p -/
def SumAt (K : PySem.W.Frag) (w : World) (C : Addr) (H : Hp) (p : Addr) (M : Poly) : Prop := ∃ (dx d : Addr) (o : Obj) (L : List (Pr × V)), H p = some (.ins C dx (sumF d)) ∧ NF K w H d o L ∧ RatL K H L M
/-- .. a dict with these parts, changed or not -/
def PartsAt (K : PySem.W.Frag) (w : World) (H : Hp) (d : Addr) (M : Poly) : Prop := ∃ L : List (Pr × V), ND K w H d L ∧ RatL K H L M
theorem RatL.stay {K : PySem.W.Frag} {H H' : Hp} {L : List (Pr × V)} {M : Poly} (r : RatL K H L M) (t : TupsStay H H') : RatL K H' L M := Paired.mapP r fun _ _ ⟨e, q, e1, e2⟩ => ⟨e, q, e1, SqT.keeps e2 t⟩
theorem SumAt.same {K w C H H' p M} (h : SumAt K w C H p M) (s : Same H H') : SumAt K w C H' p M := by
  obtain ⟨dx, d, o, L, e, n, r⟩ := h
  exact ⟨dx, d, o, L, s _ _ e, n.stay (.same s) fun o e => s _ _ e, r.stay (.same s)⟩
theorem ND.new {K : PySem.W.Frag} {w : World} {H : Hp} {D : Addr} (s : (D == sysModules) = false) : ND K w (upd H D (ndO w D [])) D [] := ⟨[], upd_same, Nat.zero_le _, s, .nil, List.nodup_nil⟩
theorem PartsAt.new {K : PySem.W.Frag} {w : World} {H : Hp} {D : Addr} (s : (D == sysModules) = false) : PartsAt K w (upd H D (ndO w D [])) D [] := ⟨[], .new s, .nil⟩
/-- what stays when only d was changed, which is no tuple -/
def Else (d : Addr) (H H' : Hp) : Prop := ∀ b o, H b = some o → b ≠ d → H' b = some o
theorem Else.tups {d : Addr} {H H' : Hp} {u : HO} (h : Else d H H') (e : H d = some u) (n : NotTup u) : TupsStay H H' := fun b xs q => by
  have nb : b ≠ d := fun z => by
    subst z
    rcases q with q | ⟨ob, q⟩
    · rw [e] at q
      cases q
      exact n
    · rw [e] at q
      cases q
      exact n
  rcases q with q | ⟨ob, q⟩
  · exact .inl (h _ _ q nb)
  · exact .inr ⟨ob, h _ _ q nb⟩
theorem Else.refl (d : Addr) (H : Hp) : Else d H H := fun _ _ e _ => e
theorem Else.trans {d : Addr} {H H1 H2 : Hp} (a : Else d H H1) (b : Else d H1 H2) : Else d H H2 := fun x o e n => b x o (a x o e n) n
theorem Else.same {d : Addr} {H H1 H2 : Hp} (a : Else d H H1) (b : Same H1 H2) : Else d H H2 := fun x o e n => b x o (a x o e n)
theorem Same.else {d : Addr} {H H1 : Hp} (a : Same H H1) : Else d H H1 := fun x o e _ => a x o e
theorem Else.upd {d : Addr} {H : Hp} {o : HO} : Else d H (upd H d o) := fun b o' e n => by rw [upd_ne n]; exact e
theorem Else.fresh {d : Addr} {H0 H H' : Hp} (n : H0 d = none) (a : Same H0 H) (b : Else d H H') : Same H0 H' := fun x o e => b x o (a x o e) (ne_of_none e n)
theorem ND.ne {K : PySem.W.Frag} {w : World} {H : Hp} {d b : Addr} {L : List (Pr × V)} {o : HO} (h : ND K w H d L) (e : H b = some o) (n : ∀ xs, o ≠ ndO w d xs) : b ≠ d := fun z => by
  obtain ⟨xs, q, _⟩ := h
  rw [z, q] at e
  cases e
  exact n xs rfl
/-- no new parts by a key that is not there -/
theorem put_take {L : List (Pr × V)} (hn : (L.map (·.1)).Nodup) {i : Nat} {k : Pr} {v : V} (h : L[i]? = some (k, v)) : putK (L.take i) k v = L.take (i + 1) := by
  have hi : i < L.length := (List.getElem?_eq_some_iff.mp h).1
  have no : valV (L.take i) k = none := by
    cases e : valV (L.take i) k with
    | none => rfl
    | some u =>
      exfalso
      unfold valV at e
      obtain ⟨p, hp, _⟩ := Option.map_eq_some_iff.mp e
      have e1 : p.1 = k := by simpa using List.find?_some hp
      have mem := List.mem_of_find?_eq_some hp
      obtain ⟨j, hj⟩ := List.mem_iff_getElem?.mp mem
      rw [List.getElem?_take] at hj
      split at hj
      · rename_i lt
        have a : (L.map (·.1))[j]? = some k := by rw [List.getElem?_map, hj, ← e1]; rfl
        have b : (L.map (·.1))[i]? = some k := by rw [List.getElem?_map, h]; rfl
        have := nd_ix hn a b
        omega
      · cases hj
  rw [putK_new _ no, List.take_add_one, h]
  rfl
section
variable {P : Program} {w : World} {K : PySem.W.Frag} {mg : Str → Option Value} {base : Heap} {C : Addr}
def spInit (K : PySem.W.Frag) (w : World) (C : Addr) : Sp := fun vs H Q _ => ∃ (p dx d : Addr) (M : Poly), vs = [.ref p, .ref d] ∧ H p = some (.ins C dx []) ∧ PartsAt K w H d M ∧ ∀ H', SumAt K w C H' p M → (∀ b o, H b = some o → b ≠ p → H' b = some o) → Q .non H'
theorem ok_Sum_init {f : Addr} {fd : FuncData} (T : Txt K mg C) (F : Fun K "__init__" "Sum.__init__" s_Sum_init f fd) : FnOk P w K mg base CX0 1 f fd ["self", "parts"] (spInit K w C) := by
  refine F.ok sc_Sum_init (fun vs H Q E h => ?_) (fun cdv A outer s H vs Q E hr h => ?_)
  · obtain ⟨p, dx, d, M, rfl, _⟩ := h
    rfl
  · obtain ⟨p, dx, d, M, rfl, hp, ⟨L, ⟨xs, ed, na⟩, rL⟩, q⟩ := h
    refine ⟨_, (pss_one (ps_freeze (ps_fld (pv 0) (pe_lock (pe_dn (own := [("product", 2), ("part", 3)]) (g := gTup K 2 (gCons (gName 2) (gCons (gName 3) gNil))) (tt := tYes) hr.units rfl sc_Sum_init.nd (pi_itemsN (pv 1)) (blkOk_by (own := [("product", 2), ("part", 3)]) (N := ["self", "parts", "product", "part"]) (sc := defScope s_Sum_init) (by decide +kernel)) (fun _ _ _ _ _ => pg_tup (by rfl) (pgs_cons (pg_name (i := 2) sc_Sum_init.nd rfl (.inl rfl)) (pgs_cons (pg_name (i := 3) sc_Sum_init.nd rfl (.inl rfl)) pgs_nil))) (fun _ _ _ _ _ => pts_nil) (fun _ _ _ _ _ => pv 2) (fun _ _ _ _ _ => pv 3))) rfl))), ?_⟩
    refine ⟨d, _, ed, True.intro, fun od => ?_⟩
    have npd : p ≠ d := ne_of hp ed (by intro z; cases z)
    have nF : NF K w (upd H d (.frz od (ndO w d xs))) d od L := ⟨xs, upd_same, na.stay (.upd ed True.intro)⟩
    refine ⟨_, rfl, d, od, L, rfl, nF, fun D nD sD => dn_items (fun i H2 => ND K w H2 D (L.take i) ∧ Same (upd H d (.frz od (ndO w d xs))) H2) ⟨by rw [List.take_zero]; exact ND.new sD, same_upd nD⟩ (fun i H2 _ h => nF.stay (.same h.2) fun o e => h.2 _ _ e) ?_ ?_⟩
    · rintro i k v H2 Tt b hL ⟨n2, s2⟩ nT hb
      have i1 : i < L.length := (List.getElem?_eq_some_iff.mp hL).1
      refine ⟨Tt, [.ref b, v], rfl, SqT.of upd_same, rfl, _, [v], rfl, _, [], rfl, rfl, rfl, _, rfl, _, rfl, L.take i, k, b, rfl, ?_, ?_, hb.stay (.new nT), fun o n3 => ?_⟩
      · exact n2.stay (.new nT) fun o e => same_upd nT _ _ e
      · rw [List.length_take]
        have := na.len
        omega
      · rw [put_take na.nd hL] at n3
        refine ⟨n3, fun c u e => ?_⟩
        have nc : c ≠ D := ne_of_none e nD
        rw [upd_ne nc]
        exact same_upd nT _ _ (s2 _ _ e)
    · rintro H2 ⟨n2, s2⟩
      rw [List.take_length] at n2
      obtain ⟨ys, eD, nb⟩ := n2
      have ed2 : H2 d = some (.frz od (ndO w d xs)) := s2 _ _ upd_same
      have hp2 : H2 p = some (.ins C dx []) := s2 _ _ (by rw [upd_ne npd]; exact hp)
      have nDd : D ≠ d := (ne_of_none upd_same nD).symm
      have nDp : D ≠ p := (ne_of_none (by rw [upd_ne npd]; exact hp) nD).symm
      refine ⟨ed2, _, rfl, p, C, dx, [], rfl, (by rw [upd_ne npd]; exact hp2), T.cl_Sum, T.n_Sum_parts, (by show 0 < 1000; decide), D, ndO w D ys, ?_, True.intro, fun od' => ?_⟩
      · rw [upd_ne nDp, upd_ne nDd]
        exact eD
      · have t1 : TupsStay H2 (upd H2 d (ndO w d xs)) := .upd ed2 True.intro
        have t2 : TupsStay (upd H2 d (ndO w d xs)) (upd (upd H2 d (ndO w d xs)) p (.ins C dx (sumF D))) := .upd (u := .ins C dx []) (by rw [upd_ne npd]; exact hp2) True.intro
        have t3 : TupsStay (upd (upd H2 d (ndO w d xs)) p (.ins C dx (sumF D))) (upd (upd (upd H2 d (ndO w d xs)) p (.ins C dx (sumF D))) D (.frz od' (ndO w D ys))) := .upd (u := ndO w D ys) (by rw [upd_ne nDp, upd_ne nDd]; exact eD) True.intro
        have t : TupsStay H2 _ := (t1.trans t2).trans t3
        have t0 : TupsStay H H2 := (TupsStay.upd ed True.intro).trans (.same s2)
        refine q _ ⟨dx, D, od', L, ?_, ⟨ys, upd_same, nb.stay t⟩, rL.stay (t0.trans t)⟩ fun b o e nb' => ?_
        · rw [upd_ne nDp.symm]
          exact upd_same
        · have nbD : b ≠ D := by
            by_cases z : b = d
            · rw [z]
              exact nDd.symm
            · exact ne_of_none (by rw [upd_ne z]; exact e) nD
          rw [upd_ne nbD, upd_ne nb']
          by_cases z : b = d
          · subst z
            rw [upd_same]
            rw [ed] at e
            exact e
          · rw [upd_ne z]
            exact s2 _ _ (by rw [upd_ne z]; exact e)
end
/-! ### what a sum's shares keep to -/
structure Fit (A : Pr → Prop) (n D S : Nat) (M : Poly) : Prop where
  good : Good A M
  len : M.length ≤ n
  wh : AllWhole D M
  sz : szM D M ≤ S
theorem Fit.nil {A : Pr → Prop} {n D S : Nat} : Fit A n D S [] where
  good := .nil
  len := Nat.zero_le _
  wh := fun _ h => nomatch h
  sz := Nat.zero_le _
theorem Fit.mono {A : Pr → Prop} {n n' D S S' : Nat} {M : Poly} (h : Fit A n D S M) (hn : n ≤ n') (hS : S ≤ S') : Fit A n' D S' M := ⟨h.good, Nat.le_trans h.len hn, h.wh, Nat.le_trans h.sz hS⟩
theorem Fit.add {A : Pr → Prop} {n D S : Nat} {M : Poly} (h : Fit A n D S M) {k : Pr} {r : Rat} (hk : A k) (hr : Whole D r) : Fit A (n + 1) D (S + mag D r) (addM M k r) := by
  obtain ⟨a, b⟩ := h.wh.add h.good.nd k hr
  exact ⟨h.good.add hk r, Nat.le_trans (len_addM M k r) (Nat.succ_le_succ h.len), a, Nat.le_trans b (Nat.add_le_add_right h.sz _)⟩
theorem Fit.coef {A : Pr → Prop} {n D S : Nat} {M : Poly} (h : Fit A n D S M) (k : Pr) : Whole D (coef M k) ∧ mag D (coef M k) ≤ S := let z := h.wh.at_ k; ⟨z.1, Nat.le_trans z.2 h.sz⟩
theorem Fit.one {A : Pr → Prop} {n D S : Nat} {M : Poly} (h : Fit A n D S M) {x : Pr × Rat} (hx : x ∈ M) : Whole D x.2 ∧ mag D x.2 ≤ S := ⟨h.wh x hx, Nat.le_trans (mag_le_szM hx) h.sz⟩
/-- all of N added to M -/
def sumM (M N : Poly) : Poly := N.foldl (fun acc x => addM acc x.1 x.2) M
theorem sumM_cons (M N : Poly) (x : Pr × Rat) : sumM M (x :: N) = sumM (addM M x.1 x.2) N := rfl
theorem sumM_append (M N N' : Poly) : sumM M (N ++ N') = sumM (sumM M N) N' := List.foldl_append
theorem sumM_take {M N : Poly} {i : Nat} {x : Pr × Rat} (h : N[i]? = some x) : sumM M (N.take (i + 1)) = addM (sumM M (N.take i)) x.1 x.2 := by
  rw [List.take_add_one, h]
  show sumM M (N.take i ++ [x]) = _
  rw [sumM_append]
  rfl
theorem lin_sumM (f : Pr → Rat) : ∀ {M : Poly} (N : Poly), (M.map (·.1)).Nodup → lin f (sumM M N) = lin f M + lin f N
  | M, [], _ => by
    show lin f M = lin f M + lin f []
    rw [lin_nil, Rat.add_zero]
  | M, x :: N, h => by
    rw [sumM_cons, lin_sumM f N (nodup_addM x.1 x.2 h), lin_add f h, lin_cons]
    grind
theorem Fit.sum {A : Pr → Prop} {D : Nat} : ∀ (N : Poly) {n S : Nat} {M : Poly}, Fit A n D S M → (∀ x ∈ N, A x.1 ∧ Whole D x.2) → Fit A (n + N.length) D (S + szM D N) (sumM M N)
  | [], _, _, _, h, _ => h
  | x :: N, n, S, M, h, hN => by
    have a := hN x (by simp)
    have z := Fit.sum N (h.add (k := x.1) (r := x.2) a.1 a.2) fun y hy => hN y (by simp [hy])
    rw [szM_cons, List.length_cons]
    exact z.mono (by omega) (by omega)
theorem szM_take (D : Nat) (N : Poly) (i : Nat) : szM D (N.take i) ≤ szM D N := by
  induction N generalizing i with
  | nil => rw [List.take_nil]; exact Nat.le_refl _
  | cons x r ih =>
    cases i with
    | zero => exact Nat.zero_le _
    | succ i =>
      rw [List.take_succ_cons, szM_cons, szM_cons]
      exact Nat.add_le_add_left (ih i) _
/-- small enough to be reckoned with -/
abbrev big : Nat := 2 ^ 4000
theorem RB.small {D : Nat} {r : Rat} (hD : 0 < D) (hd : D < big) (h : Whole D r) (hm : mag D r < big) : RB 4000 r := RB.of hD h hm hd
/-! ### adding a share to the parts of a sum -/
theorem RatL.look {K : PySem.W.Frag} {H : Hp} {L : List (Pr × V)} {M : Poly} (r : RatL K H L M) (k : Pr) {z : Addr} (hz : SqT K H z (ratV 0)) : ∃ q, (valV L k).getD (.ref z) = .ref q ∧ SqT K H q (ratV (coef M k)) := by
  rcases r.val k with ⟨e1, e2⟩ | ⟨q, x, e1, e2, e3⟩
  · refine ⟨z, by rw [e1]; rfl, ?_⟩
    unfold coef
    rw [e2]
    exact hz
  · refine ⟨q, by rw [e1]; rfl, ?_⟩
    unfold coef
    rw [e2]
    exact e3
theorem RatL.put {K : PySem.W.Frag} {H : Hp} {L : List (Pr × V)} {M : Poly} (r : RatL K H L M) (k : Pr) {t : Rat} {q : Addr} (hq : SqT K H q (ratV t)) : RatL K H (putK L k (.ref q)) (putM M k t) := by
  have e : (L.any fun kv => decide (kv.1 = k)) = (M.any fun x => decide (x.1 = k)) := by
    rw [valV_any, lookM_any]
    rcases r.val k with ⟨e1, e2⟩ | ⟨_, _, e1, e2, _⟩
    · rw [e1, e2]
      rfl
    · rw [e1, e2]
      rfl
  unfold putK putM
  rw [e]
  by_cases c : (M.any fun x => decide (x.1 = k)) = true
  · rw [if_pos c, if_pos c]
    clear e c
    induction r with
    | nil => exact .nil
    | @cons l m ls ms h t' ih =>
      rw [List.map_cons, List.map_cons]
      refine .cons ?_ ih
      obtain ⟨h1, h2⟩ := h
      by_cases z : l.1 = k
      · rw [if_pos z, if_pos (h1 ▸ z)]
        exact ⟨h1, q, rfl, hq⟩
      · rw [if_neg z, if_neg (fun y => z (h1.trans y))]
        exact ⟨h1, h2⟩
  · rw [if_neg c, if_neg c]
    exact Paired.snoc r ⟨rfl, q, rfl, hq⟩
theorem RatL.drop {K : PySem.W.Frag} {H : Hp} {L : List (Pr × V)} {M : Poly} (r : RatL K H L M) (k : Pr) : RatL K H (dropK L k) (dropM M k) := by
  induction r with
  | nil => exact .nil
  | @cons l m ls ms h t ih =>
    unfold dropK dropM
    rw [List.filter_cons, List.filter_cons]
    obtain ⟨h1, h2⟩ := h
    by_cases z : l.1 = k
    · rw [if_neg (by simp [z]), if_neg (by simp [← h1, z])]
      exact ih
    · rw [if_pos (by simp [z]), if_pos (by simp [← h1, z])]
      exact .cons ⟨h1, h2⟩ ih
theorem dropM_none {M : Poly} {k : Pr} (h : lookM M k = none) : dropM M k = M := by
  refine dropM_id fun x hx e => ?_
  have : (lookM M k).isSome = true := by
    rw [← lookM_any]
    exact List.any_eq_true.mpr ⟨x, hx, by simp [e]⟩
  rw [h] at this
  cases this
section
variable {P : Program} {w : World} {K : PySem.W.Frag} {mg : Str → Option Value} {base : Heap} {C : Addr}
def spPut (K : PySem.W.Frag) (w : World) : Sp := fun vs H Q _ => ∃ (d b p : Addr) (k : Pr) (r : Rat) (M : Poly) (A : Pr → Prop) (n D S : Nat), vs = [.ref d, .ref b, .ref p] ∧ PartsAt K w H d M ∧ Fit A n D S M ∧ ProdAt K H b k ∧ SqT K H p (ratV r) ∧ Whole D r ∧
  0 < D ∧ D < big ∧ S < big ∧ mag D r < big ∧ n < sizeLine ∧ ∀ H', PartsAt K w H' d (addM M k r) → Else d H H' → Q .non H'
theorem ok_put_to {f : Addr} {fd : FuncData} (T : Txt K mg C) (F : DefAt K mg "_put_to" "_put_to" s_put_to ["shares", "key", "part"] f fd) : FnOk P w K mg base CX0 3 f fd ["shares", "key", "part"] (spPut K w) := by
  obtain ⟨f1, fd1, D_plus⟩ := T.d_plus
  have G_plus : FnOk P w K mg base CX0 2 f1 fd1 ["one", "other"] (spRat K (· + ·)) := ok_plus T D_plus
  obtain ⟨aN, gN, tN⟩ := T.c_NOUGHT
  refine F.F.ok sc_put_to (fun vs H Q E h => ?_) (fun cdv A outer s H vs Q E hr h => ?_)
  · obtain ⟨d, b, p, k, r, M, A, n, D, S, rfl, _⟩ := h
    rfl
  · obtain ⟨d, b, p, k, r, M, A, n, D, S, rfl, ⟨L, nL, rL⟩, fit, hb, hp, wr, hD, hd, hS, hm, hn, q⟩ := h
    refine ⟨_, pss_cons (ps_set (i := 3) sc_put_to.nd rfl (.inl rfl) (pe_call G_plus (hr.mono (by decide)) (by rfl) D_plus.g D_plus.F.kp D_plus.b .nil pass0 (pa_cons (pe_getN hr.units (pv 0) (pv 1) (pe_glob (v := .ref aN) rfl gN rfl) ⟨rfl, rfl, rfl, rfl⟩) (pa_cons (pv 2) pa_nil))))
      (pss_one (ps_if (pt_cmpR (op_eqD hr.units) (pv 3) (pe_glob (v := .ref aN) rfl gN rfl) (nomark _)) (pss_one (ps_expr (pe_popN hr.units (pv 0) (pv 1) pe_non ⟨rfl, rfl, rfl, rfl⟩))) (pss_one (ps_putN hr.units (pv 0) (pv 1) (pv 3) rfl)))), ?_⟩
    obtain ⟨qa, eqa, hqa⟩ := rL.look k (tN H)
    have wc := fit.coef k
    refine ⟨_, rfl, d, L, rfl, nL.r, _, rfl, L, k, b, rfl, nL.r, hb, _, rfl, ?_⟩
    refine ⟨qa, p, coef M k, r, 4000, 4000, by rw [eqa]; rfl, hqa, hp, .small hD hd wc.1 (Nat.lt_of_le_of_lt wc.2 hS), .small hD hd wr hm, by decide, by decide, by decide, fun o H1 sm no eo => ?_⟩
    have nL1 : ND K w H1 d L := nL.stay (.same sm) fun u e => sm _ _ e
    have rL1 := rL.stay (.same sm)
    have hb1 := hb.stay (.same sm)
    have fin : ∀ (H' : Hp), PartsAt K w H' d (addM M k r) → Else d H1 H' → Q .non H' := fun H' h1 h2 => q H' h1 ((Same.else sm).trans h2)
    refine ⟨_, rfl, .tuple [.int (coef M k + r).num, .int ((coef M k + r).den : Int)], .tuple [.int 0, .int 1], .tup (SqT.of eo) (.cons (.int _) (.cons (.int _) .nil)), .tup (tN H1) (.cons (.int _) (.cons (.int _) .nil)), by simp [SeqAt.shaped, PyData.canLay0, PyData.canLayAll0, PyData.depth, PyData.depthAll],
      by decide, _, rfl, ite2 (fun e => ?_) (fun e => ?_)⟩
    · have e0 : coef M k + r = 0 := by
        simp only [PyData.eqv, PyData.eqvAll, Bool.and_true, Bool.and_eq_true, beq_iff_eq] at e
        exact Rat.num_eq_zero.mp e.1
      have ea : addM M k r = dropM M k := if_pos e0
      rw [ea] at fin
      obtain ⟨xs, ed, na⟩ := id nL1
      refine ⟨_, rfl, d, L, rfl, nL1.r, _, rfl, L, k, b, rfl, nL1, hb1, fun v o hv n2 => ?_, fun hv => ?_⟩
      · exact fin _ ⟨dropK L k, n2, (rL1.drop k).stay (.upd ed True.intro)⟩ .upd
      · have hno : lookM M k = none := by
          rcases rL.val k with ⟨_, e2⟩ | ⟨_, _, e1, _⟩
          · exact e2
          · rw [e1] at hv
            cases hv
        rw [dropM_none hno] at fin
        exact fin H1 ⟨L, nL1, rL1⟩ (.refl _ _)
    · have e0 : ¬ coef M k + r = 0 := fun z => by
        rw [z] at e
        exact e (by decide)
      have ea : addM M k r = putM M k (coef M k + r) := if_neg e0
      rw [ea] at fin
      obtain ⟨xs, ed, na⟩ := id nL1
      refine ⟨_, rfl, _, rfl, _, rfl, d, L, k, b, rfl, rfl, nL1, ?_, hb1, fun o' n2 => ?_⟩
      · have a1 := fit.len
        have a2 : L.length = M.length := Paired.length rL
        omega
      · exact fin _ ⟨_, n2, (rL1.put k (SqT.of eo)).stay (.upd ed True.intro)⟩ .upd
end
/-! ### sums made, added, lessened -/
theorem SqT.keeps' {K : PySem.W.Frag} {H H' : Hp} {a : Addr} {xs : List V} (h : SqT K H a xs) (t : TupsStay H H') : SqT K H' a xs := SqT.keeps h t
theorem PartsAt.stay {K w H H' d M} (h : PartsAt K w H d M) (t : TupsStay H H') (k : ∀ o, H d = some o → H' d = some o) : PartsAt K w H' d M := let ⟨L, n, r⟩ := h; ⟨L, n.stay t k, r.stay t⟩
theorem PartsAt.made {K w H d M} {C x dx : Addr} (h : PartsAt K w H d M) (nx : H x = none) (ndx : H dx = none) : PartsAt K w (upd (upd H dx (.own x)) x (.ins C dx [])) d M := by
  have s : Same H (upd (upd H dx (.own x)) x (.ins C dx [])) := fun b o e => by
    rw [upd_ne (ne_of_none e nx), upd_ne (ne_of_none e ndx)]
    exact e
  exact h.stay (.same s) fun o e => s _ _ e
theorem RatL.at_ {K : PySem.W.Frag} {H : Hp} {L : List (Pr × V)} {N : Poly} (r : RatL K H L N) {i : Nat} {k : Pr} {v : V} (h : L[i]? = some (k, v)) : ∃ (q : Addr) (x : Rat), N[i]? = some (k, x) ∧ v = .ref q ∧ SqT K H q (ratV x) := by
  obtain ⟨m, hm, e1, q, e2, e3⟩ := paired_get r h
  obtain ⟨m1, m2⟩ := m
  simp only at e1 e2 e3
  subst e1
  exact ⟨q, m2, hm, e2, e3⟩
theorem PartsAt.elseNF {K : PySem.W.Frag} {w : World} {H H' : Hp} {d d2 : Addr} {o : Obj} {L2 L : List (Pr × V)} (n : NF K w H d2 o L2) (e : ND K w H d L) (h : Else d H H') : NF K w H' d2 o L2 := by
  obtain ⟨xs, ed, na⟩ := e
  obtain ⟨ys, e2, nb⟩ := n
  exact ⟨ys, h _ _ e2 (ne_of e2 ed (by intro z; cases z)), nb.stay (h.tups ed True.intro)⟩
section
variable {P : Program} {w : World} {K : PySem.W.Frag} {mg : Str → Option Value} {base : Heap} {C : Addr}
def spPutAll (K : PySem.W.Frag) (w : World) (C : Addr) : Sp := fun vs H Q _ => ∃ (d p : Addr) (M N : Poly) (A : Pr → Prop) (n D S : Nat), vs = [.ref d, .ref p] ∧ PartsAt K w H d M ∧ SumAt K w C H p N ∧ Fit A n D S M ∧ (∀ x ∈ N, A x.1 ∧ Whole D x.2) ∧
  0 < D ∧ D < big ∧ S + szM D N < big ∧ n + N.length < sizeLine ∧ ∀ H', PartsAt K w H' d (sumM M N) → Else d H H' → Q .non H'
theorem ok_put_all_to {f : Addr} {fd : FuncData} (T : Txt K mg C) (F : DefAt K mg "_put_all_to" "_put_all_to" s_put_all_to ["parts", "other"] f fd) : FnOk P w K mg base CX0 4 f fd ["parts", "other"] (spPutAll K w C) := by
  obtain ⟨f1, fd1, D_put_to⟩ := T.d_put_to
  have G_put_to : FnOk P w K mg base CX0 3 f1 fd1 ["shares", "key", "part"] (spPut K w) := ok_put_to T D_put_to
  refine F.F.ok sc_put_all_to (fun vs H Q E h => ?_) (fun cdv A outer s H vs Q E hr h => ?_)
  · obtain ⟨d, p, M, N, A, n, D, S, rfl, _⟩ := h
    rfl
  · obtain ⟨d, p, M, N, A, n, D, S, rfl, ⟨L, nL, rL⟩, ⟨dx, d2, o2, L2, ep, n2, r2⟩, fit, hN, hD, hd, hS, hn, q⟩ := h
    refine ⟨_, (pss_one (ps_for PassesOwn.never rfl (pi_itemsN (pe_fld (pv 1) rfl)) (pg_tup (by rfl) (pgs_cons (pg_name (i := 2) sc_put_all_to.nd rfl (.inl rfl)) (pgs_cons (pg_name (i := 3) sc_put_all_to.nd rfl (.inl rfl)) pgs_nil))) (pss_one (ps_expr (pe_call G_put_to (hr.mono (by decide)) (by rfl) D_put_to.g D_put_to.F.kp D_put_to.b .nil pass0 (pa_cons (pv 0) (pa_cons (pv 2) (pa_cons (pv 3) pa_nil)))))))), ?_⟩
    have lN : L2.length = N.length := Paired.length r2
    refine ⟨_, rfl, p, C, dx, _, _, rfl, ep, T.cl_Sum, T.n_Sum_parts, sumF_parts _, d2, o2, L2, rfl, n2, for_itemsN (fun i σ H2 => ∃ v2 v3 : Option V, σ = [some (.ref d), some (.ref p), v2, v3] ∧ PartsAt K w H2 d (sumM M (N.take i)) ∧ Else d H H2) ⟨none, none, rfl, ⟨L, nL, rL⟩, .refl _ _⟩ (fun i σ H2 _ ⟨_, _, _, _, z⟩ => PartsAt.elseNF n2 nL z) ?_ ?_⟩
    · rintro i k v σ H2 Tt b hL ⟨v2, v3, rfl, pM, el⟩ nT hb
      obtain ⟨x, r, hNi, rfl, hq⟩ := r2.at_ hL
      have mem : (k, r) ∈ N := List.mem_of_getElem? hNi
      have sT : Same H2 (upd H2 Tt (.tup [.ref b, .ref x])) := same_upd nT
      refine ⟨Tt, [.ref b, .ref x], rfl, SqT.of upd_same, rfl, _, [.ref x], rfl, _, [], rfl, rfl, ?_⟩
      obtain ⟨xs, ed, na⟩ := id nL
      have tq : SqT K (upd H2 Tt (.tup [.ref b, .ref x])) x (ratV r) := SqT.keeps (SqT.keeps hq (el.tups ed True.intro)) (TupsStay.same sT)
      have fi := Fit.sum (N.take i) fit fun y hy => hN y (List.mem_of_mem_take hy)
      have sz := szM_take D N i
      have sm : mag D r ≤ szM D N := mag_le_szM (x := (k, r)) mem
      have li : (N.take i).length ≤ N.length := by rw [List.length_take]; omega
      obtain ⟨L3, n3, r3⟩ := pM
      refine ⟨_, rfl, _, rfl, _, rfl, d, b, x, k, r, sumM M (N.take i), A, _, D, _, rfl, ⟨L3, n3.stay (.same sT) fun u e => sT _ _ e, r3.stay (.same sT)⟩, fi, hb.stay (.same sT), tq, (hN _ mem).2, hD, hd, by omega, by omega, by omega, fun H' pM' el' => ?_⟩
      refine ⟨_, _, rfl, ?_, (el.same sT).trans el'⟩
      rw [sumM_take hNi]
      exact pM'
    · rintro σ H2 ⟨v2, v3, rfl, pM, el⟩
      rw [lN, List.take_length] at pM
      exact q H2 pM el
def spNumber (K : PySem.W.Frag) (w : World) (C : Addr) : Sp := fun vs H Q _ => ∃ n : Int, vs = [.int n] ∧ n.natAbs < big ∧ ∀ p H', SumAt K w C H' p (addM [] [] (n : Rat)) → Same H H' → H p = none → Q (.ref p) H'
theorem ratV_int (n : Int) : ratV (n : Rat) = [.int n, .int 1] := by
  unfold ratV
  rw [Rat.num_intCast, Rat.den_intCast]
  rfl
theorem whole_int (n : Int) : Whole 1 (n : Rat) ∧ mag 1 (n : Rat) = n.natAbs := by
  unfold Whole mag
  have e : (n : Rat) * ((1 : Nat) : Rat) = (n : Rat) := Rat.mul_one _
  rw [e, Rat.den_intCast, Rat.num_intCast]
  exact ⟨rfl, rfl⟩
theorem ok_sum_of_number {f : Addr} {fd : FuncData} (T : Txt K mg C) (F : DefAt K mg "sum_of_number" "sum_of_number" s_sum_of_number ["n"] f fd) : FnOk P w K mg base CX0 4 f fd ["n"] (spNumber K w C) := by
  obtain ⟨f1, fd1, D_put_to⟩ := T.d_put_to
  have G_put_to : FnOk P w K mg base CX0 3 f1 fd1 ["shares", "key", "part"] (spPut K w) := ok_put_to T D_put_to
  obtain ⟨f2, fd2, M_Sum, FI, b_Sum_init⟩ := T.mk_Sum
  have G_Sum_init : FnOk P w K mg base CX0 1 f2 fd2 ["self", "parts"] (spInit K w C) := ok_Sum_init T FI
  refine F.F.ok sc_sum_of_number (fun vs H Q E h => ?_) (fun cdv A outer s H vs Q E hr h => ?_)
  · obtain ⟨n, rfl, _⟩ := h
    rfl
  · obtain ⟨n, rfl, hn, q⟩ := h
    refine ⟨_, (pss_cons (ps_set (i := 1) sc_sum_of_number.nd rfl (.inl rfl) pe_newN)
      (pss_cons (ps_expr (pe_call G_put_to (hr.mono (by decide)) (by rfl) D_put_to.g D_put_to.F.kp D_put_to.b .nil pass0 (pa_cons (pv 1) (pa_cons (pe_tup pa_nil) (pa_cons (pe_tup (pa_cons (pv 0) (pa_cons pe_int pa_nil))) pa_nil)))))
      (pss_one (ps_ret (pe_make M_Sum G_Sum_init (hr.mono (by decide)) (by rfl) T.g_Sum b_Sum_init .nil pass0 (pa_cons (pv 1) pa_nil)))))), ?_⟩
    intro d nd sd
    refine ⟨_, rfl, (by show 0 ≤ sizeLine; decide), fun b hb => ⟨_, rfl, (by show 2 ≤ sizeLine; decide), fun t ht => ?_⟩⟩
    have p0 : PartsAt K w (upd H d (ndO w d [])) d [] := .new sd
    have s1 := same_upd (o := .tup []) hb
    have s2 := same_upd (o := .tup [.int n, .int 1]) ht
    have p2 := p0.stay (.same (s1.trans s2)) fun u e => (s1.trans s2) _ _ e
    have w1 := whole_int n
    refine ⟨d, b, t, [], (n : Rat), [], fun p => p = [], 0, 1, 0, rfl, p2, .nil, ⟨[], SqT.keeps' (SqT.of upd_same) (.same s2), .nil⟩, ?_, w1.1, by decide, by decide +kernel, by decide +kernel, by rw [w1.2]; exact hn, by decide, fun H1 p1 el => ?_⟩
    · rw [ratV_int]
      exact SqT.of upd_same
    · have el0 : Same H H1 := Else.fresh nd (same_upd nd) ((Same.else (s1.trans s2)).trans el)
      exact ⟨_, rfl, fun x dx nx ndx nex => ⟨x, dx, d, addM [] [] (n : Rat), rfl, upd_same, p1.made nx ndx, fun H2 sA kp => ⟨rfl, q x H2 sA (el0.trans (Same.made nx ndx kp)) (el0.free nx)⟩⟩⟩
end
section
variable {P : Program} {w : World} {K : PySem.W.Frag} {mg : Str → Option Value} {base : Heap} {C : Addr}
/-- what is said of two sums that are reckoned with -/
structure Two (K : PySem.W.Frag) (w : World) (C : Addr) (H : Hp) (p q : Addr) (M N : Poly) (A : Pr → Prop) (n m D S R : Nat) : Prop where
  one : SumAt K w C H p M
  two : SumAt K w C H q N
  fone : Fit A n D S M
  ftwo : Fit A m D R N
  pos : 0 < D
  lit : D < big
def spAdded (K : PySem.W.Frag) (w : World) (C : Addr) : Sp := fun vs H Q _ => ∃ (p q : Addr) (M N : Poly) (A : Pr → Prop) (n m D S R : Nat), vs = [.ref p, .ref q] ∧ Two K w C H p q M N A n m D S R ∧ S + R < big ∧ n + m < sizeLine ∧
  ∀ x H', SumAt K w C H' x (sumM M N) → Same H H' → H x = none → Q (.ref x) H'
/-- the copy of a sum's parts, by a comprehension -/
theorem copy_take {K : PySem.W.Frag} {w : World} {H H2 : Hp} {L : List (Pr × V)} {D d : Addr} {o : Obj} (n : NF K w H d o L) (nD : H D = none) {i : Nat} {k : Pr} {v : V} {Tt b : Addr} (hL : L[i]? = some (k, v)) (n2 : ND K w H2 D (L.take i)) (s2 : Same H H2) (nT : H2 Tt = none) (hb : ProdAt K H2 b k) :
    setN K w D (.ref b) v (upd H2 Tt (.tup [.ref b, v])) (fun H3 => ND K w H3 D (L.take (i + 1)) ∧ Same H H3) := by
  obtain ⟨xs, e, na⟩ := n
  refine ⟨L.take i, k, b, rfl, n2.stay (.new nT) fun o e => same_upd nT _ _ e, ?_, hb.stay (.new nT), fun o n3 => ?_⟩
  · have i1 : i < L.length := (List.getElem?_eq_some_iff.mp hL).1
    rw [List.length_take]
    have := na.len
    omega
  · rw [put_take na.nd hL] at n3
    refine ⟨n3, fun c u e => ?_⟩
    rw [upd_ne (ne_of_none e nD)]
    exact same_upd nT _ _ (s2 _ _ e)
theorem Fit.parts {A : Pr → Prop} {n D S : Nat} {N : Poly} (h : Fit A n D S N) : ∀ x ∈ N, A x.1 ∧ Whole D x.2 := fun x hx => ⟨h.good.pr x hx, h.wh x hx⟩
theorem ok_added {f : Addr} {fd : FuncData} (T : Txt K mg C) (F : DefAt K mg "added" "added" s_added ["one", "other"] f fd) : FnOk P w K mg base CX0 5 f fd ["one", "other"] (spAdded K w C) := by
  obtain ⟨f1, fd1, D_put_all_to⟩ := T.d_put_all_to
  have G_put_all_to : FnOk P w K mg base CX0 4 f1 fd1 ["parts", "other"] (spPutAll K w C) := ok_put_all_to T D_put_all_to
  obtain ⟨f2, fd2, M_Sum, FI, b_Sum_init⟩ := T.mk_Sum
  have G_Sum_init : FnOk P w K mg base CX0 1 f2 fd2 ["self", "parts"] (spInit K w C) := ok_Sum_init T FI
  refine F.F.ok sc_added (fun vs H Q E h => ?_) (fun cdv A outer s H vs Q E hr h => ?_)
  · obtain ⟨p, q, M, N, A, n, m, D, S, R, rfl, _⟩ := h
    rfl
  · obtain ⟨p, q, M, N, A, n, m, D, S, R, rfl, tw, hS, hn, k⟩ := h
    obtain ⟨dx, d1, o1, L1, e1, n1, r1⟩ := id tw.one
    refine ⟨_, (pss_cons (ps_setDn (i := 2) (own := [("product", 3), ("part", 4)]) (g := gTup K 2 (gCons (gName 3) (gCons (gName 4) gNil))) (tt := tYes) hr.units rfl sc_added.nd rfl rfl (sw_trueD rfl rfl rfl (by decide +kernel)) (pi_itemsN (pe_fld (pv 0) rfl)) (blkOk_by (own := [("product", 3), ("part", 4)]) (N := ["one", "other", "total", "product", "part"]) (sc := defScope s_added) (by decide +kernel)) (fun _ _ _ _ _ => (pg_tup (by rfl) (pgs_cons (pg_name (i := 3) sc_added.nd rfl (.inl rfl)) (pgs_cons (pg_name (i := 4) sc_added.nd rfl (.inl rfl)) pgs_nil)))) (fun _ _ _ _ _ => pts_nil) (fun _ _ _ _ _ => (pv 3)) (fun _ _ _ _ _ => (pv 4)))
      (pss_cons (ps_expr (pe_call G_put_all_to (hr.mono (by decide)) (by rfl) D_put_all_to.g D_put_all_to.F.kp D_put_all_to.b .nil pass0 (pa_cons (pv 2) (pa_cons (pv 1) pa_nil))))
      (pss_one (ps_ret (pe_make M_Sum G_Sum_init (hr.mono (by decide)) (by rfl) T.g_Sum b_Sum_init .nil pass0 (pa_cons (pv 2) pa_nil)))))), ?_⟩
    -- total = a copy
    refine ⟨_, rfl, p, C, dx, _, _, rfl, e1, T.cl_Sum, T.n_Sum_parts, sumF_parts _, d1, o1, L1, rfl, n1, fun D' nD sD => dn_items (fun i H2 => ND K w H2 D' (L1.take i) ∧ Same H H2) ⟨by rw [List.take_zero]; exact ND.new sD, same_upd nD⟩ (fun i H2 _ z => n1.stay (.same z.2) fun o e => z.2 _ _ e) ?_ ?_⟩
    · rintro i k' v H2 Tt b hL ⟨n2, s2⟩ nT hb
      exact ⟨Tt, [.ref b, v], rfl, SqT.of upd_same, rfl, _, [v], rfl, _, [], rfl, rfl, rfl, _, rfl, _, rfl, copy_take n1 nD hL n2 s2 nT hb⟩
    · rintro H2 ⟨n2, s2⟩
      rw [List.take_length] at n2
      have r2 := r1.stay (.same s2)
      -- _put_all_to(total, other)
      have szR := tw.ftwo.sz
      have lnR := tw.ftwo.len
      refine ⟨_, rfl, _, rfl, D', q, M, N, A, n, D, S, rfl, ⟨L1, n2, r2⟩, tw.two.same s2, tw.fone, tw.ftwo.parts, tw.pos, tw.lit, by omega, by omega, fun H3 p3 el => ?_⟩
      have s3 : Same H H3 := Else.fresh nD s2 el
      refine ⟨_, rfl, fun x dx nx ndx nex => ⟨x, dx, D', _, rfl, upd_same, p3.made nx ndx, fun H4 sA kp => ⟨rfl, ?_⟩⟩⟩
      exact k x H4 sA (s3.trans (Same.made nx ndx kp)) (s3.free nx)
/-- a sum with the other taken from it -/
def lessM (M N : Poly) : Poly := N.foldl (fun acc x => addM acc x.1 (0 - x.2)) M
theorem lessM_eq (M N : Poly) : lessM M N = sumM M (N.map fun x => (x.1, 0 - x.2)) := by
  unfold lessM sumM
  rw [List.foldl_map]
def negM (N : Poly) : Poly := N.map fun x => (x.1, 0 - x.2)
theorem neg_at {N : Poly} {i : Nat} {k : Pr} {r : Rat} (h : N[i]? = some (k, r)) : (negM N)[i]? = some (k, 0 - r) := by
  unfold negM
  rw [List.getElem?_map, h]
  rfl
theorem whole_neg {D : Nat} {r : Rat} (h : Whole D r) : Whole D (0 - r) ∧ mag D (0 - r) = mag D r := by
  have e : (0 : Rat) - r = -r := by grind
  rw [e]
  exact h.neg
theorem sz_neg {D : Nat} {N : Poly} (h : AllWhole D N) : szM D (negM N) = szM D N := by
  unfold negM
  induction N with
  | nil => rfl
  | cons x r ih =>
    rw [List.map_cons, szM_cons, szM_cons, ih fun y hy => h y (by simp [hy])]
    show mag D (0 - x.2) + _ = _
    rw [(whole_neg (h x (by simp))).2]
theorem lin_neg (f : Pr → Rat) (N : Poly) : lin f (negM N) = - lin f N := by
  unfold negM
  induction N with
  | nil => rfl
  | cons x r ih =>
    rw [List.map_cons, lin_cons, lin_cons, ih]
    grind
theorem neg_parts {A : Pr → Prop} {D : Nat} {N : Poly} (h : ∀ x ∈ N, A x.1 ∧ Whole D x.2) : ∀ x ∈ negM N, A x.1 ∧ Whole D x.2 := fun x hx => by
  obtain ⟨y, hy, e⟩ := List.mem_map.mp hx
  subst e
  exact ⟨(h y hy).1, (whole_neg (h y hy).2).1⟩
theorem neg_len (N : Poly) : (negM N).length = N.length := List.length_map _
def spLessened (K : PySem.W.Frag) (w : World) (C : Addr) : Sp := fun vs H Q _ => ∃ (p q : Addr) (M N : Poly) (A : Pr → Prop) (n m D S R : Nat), vs = [.ref p, .ref q] ∧ Two K w C H p q M N A n m D S R ∧ S + R < big ∧ n + m < sizeLine ∧
  ∀ x H', SumAt K w C H' x (sumM M (negM N)) → Same H H' → H x = none → Q (.ref x) H'
theorem ok_lessened {f : Addr} {fd : FuncData} (T : Txt K mg C) (F : DefAt K mg "lessened" "lessened" s_lessened ["one", "other"] f fd) : FnOk P w K mg base CX0 5 f fd ["one", "other"] (spLessened K w C) := by
  obtain ⟨f1, fd1, D_put_to⟩ := T.d_put_to
  have G_put_to : FnOk P w K mg base CX0 3 f1 fd1 ["shares", "key", "part"] (spPut K w) := ok_put_to T D_put_to
  obtain ⟨f3, fd3, D_minus⟩ := T.d_minus
  have G_minus : FnOk P w K mg base CX0 2 f3 fd3 ["one", "other"] (spRat K (· - ·)) := ok_minus T D_minus
  obtain ⟨f2, fd2, M_Sum, FI, b_Sum_init⟩ := T.mk_Sum
  have G_Sum_init : FnOk P w K mg base CX0 1 f2 fd2 ["self", "parts"] (spInit K w C) := ok_Sum_init T FI
  obtain ⟨aN, g_NOUGHT, tN⟩ := T.c_NOUGHT
  refine F.F.ok sc_lessened (fun vs H Q E h => ?_) (fun cdv A outer s H vs Q E hr h => ?_)
  · obtain ⟨p, q, M, N, A, n, m, D, S, R, rfl, _⟩ := h
    rfl
  · obtain ⟨p, q, M, N, A, n, m, D, S, R, rfl, tw, hS, hn, k⟩ := h
    obtain ⟨dx, d1, o1, L1, e1, n1, r1⟩ := id tw.one
    refine ⟨_, (pss_cons (ps_setDn (i := 4) (own := [("product", 2), ("part", 3)]) (g := gTup K 2 (gCons (gName 2) (gCons (gName 3) gNil))) (tt := tYes) hr.units rfl sc_lessened.nd rfl rfl (sw_trueD rfl rfl rfl (by decide +kernel)) (pi_itemsN (pe_fld (pv 0) rfl)) (blkOk_by (own := [("product", 2), ("part", 3)]) (N := ["one", "other", "product", "part", "total"]) (sc := defScope s_lessened) (by decide +kernel)) (fun _ _ _ _ _ => (pg_tup (by rfl) (pgs_cons (pg_name (i := 2) sc_lessened.nd rfl (.inl rfl)) (pgs_cons (pg_name (i := 3) sc_lessened.nd rfl (.inl rfl)) pgs_nil)))) (fun _ _ _ _ _ => pts_nil) (fun _ _ _ _ _ => (pv 2)) (fun _ _ _ _ _ => (pv 3)))
      (pss_cons (ps_for PassesOwn.never rfl (pi_itemsN (pe_fld (pv 1) rfl)) (pg_tup (by rfl) (pgs_cons (pg_name (i := 2) sc_lessened.nd rfl (.inl rfl)) (pgs_cons (pg_name (i := 3) sc_lessened.nd rfl (.inl rfl)) pgs_nil))) (pss_one (ps_expr (pe_call G_put_to (hr.mono (by decide)) (by rfl) D_put_to.g D_put_to.F.kp D_put_to.b .nil pass0 (pa_cons (pv 4) (pa_cons (pv 2) (pa_cons (pe_call G_minus (hr.mono (by decide)) (by rfl) D_minus.g D_minus.F.kp D_minus.b .nil pass0 (pa_cons (pe_glob (v := .ref aN) rfl g_NOUGHT rfl) (pa_cons (pv 3) pa_nil))) pa_nil)))))))
      (pss_one (ps_ret (pe_make M_Sum G_Sum_init (hr.mono (by decide)) (by rfl) T.g_Sum b_Sum_init .nil pass0 (pa_cons (pv 4) pa_nil)))))), ?_⟩
    refine ⟨_, rfl, p, C, dx, _, _, rfl, e1, T.cl_Sum, T.n_Sum_parts, sumF_parts _, d1, o1, L1, rfl, n1, fun D' nD sD => dn_items (fun i H2 => ND K w H2 D' (L1.take i) ∧ Same H H2) ⟨by rw [List.take_zero]; exact ND.new sD, same_upd nD⟩ (fun i H2 _ z => n1.stay (.same z.2) fun o e => z.2 _ _ e) ?_ ?_⟩
    · rintro i k' v H2 Tt b hL ⟨n2, s2⟩ nT hb
      exact ⟨Tt, [.ref b, v], rfl, SqT.of upd_same, rfl, _, [v], rfl, _, [], rfl, rfl, rfl, _, rfl, _, rfl, copy_take n1 nD hL n2 s2 nT hb⟩
    · rintro H2 ⟨n2, s2⟩
      rw [List.take_length] at n2
      have r2 := r1.stay (.same s2)
      obtain ⟨dy, d3, o3, L3, e3, n3, r3⟩ := tw.two.same s2
      have l3 : L3.length = N.length := Paired.length r3
      have hN := neg_parts tw.ftwo.parts
      have szR : szM D (negM N) ≤ R := by rw [sz_neg tw.ftwo.wh]; exact tw.ftwo.sz
      have lnR : (negM N).length ≤ m := by rw [neg_len]; exact tw.ftwo.len
      refine ⟨_, rfl, q, C, dy, _, _, rfl, e3, T.cl_Sum, T.n_Sum_parts, sumF_parts _, d3, o3, L3, rfl, n3, for_itemsN (fun i σ H3 => ∃ v2 v3 : Option V, σ = [some (.ref p), some (.ref q), v2, v3, some (.ref D')] ∧ PartsAt K w H3 D' (sumM M ((negM N).take i)) ∧ Else D' H2 H3) ⟨none, none, rfl, ⟨L1, n2, r2⟩, .refl _ _⟩ (fun i σ H3 _ ⟨_, _, _, _, z⟩ => PartsAt.elseNF n3 n2 z) ?_ ?_⟩
      · rintro i kk v σ H3 Tt b hL ⟨v2, v3, rfl, pM, el⟩ nT hb
        obtain ⟨x, r, hNi, rfl, hq⟩ := r3.at_ hL
        have hNn := neg_at hNi
        have mem : (kk, 0 - r) ∈ negM N := List.mem_of_getElem? hNn
        have wr : Whole D r ∧ mag D r ≤ R := tw.ftwo.one (x := (kk, r)) (List.mem_of_getElem? hNi)
        have sT : Same H3 (upd H3 Tt (.tup [.ref b, .ref x])) := same_upd nT
        refine ⟨Tt, [.ref b, .ref x], rfl, SqT.of upd_same, rfl, _, [.ref x], rfl, _, [], rfl, rfl, ?_⟩
        obtain ⟨xs, ed, na⟩ := id n2
        have tq : SqT K (upd H3 Tt (.tup [.ref b, .ref x])) x (ratV r) := SqT.keeps (SqT.keeps hq (el.tups ed True.intro)) (TupsStay.same sT)
        refine ⟨_, rfl, _, rfl, _, rfl, aN, x, 0, r, 4000, 4000, rfl, tN _, tq, .small tw.pos tw.lit (Whole.zero D) (by rw [mag_zero]; decide +kernel), .small tw.pos tw.lit wr.1 (by have := wr.2; omega), by decide, by decide, by decide, fun t H4 sm nt et => ?_⟩
        have s34 := sT.trans sm
        have fi := Fit.sum ((negM N).take i) tw.fone fun y hy => hN y (List.mem_of_mem_take hy)
        have sz := szM_take D (negM N) i
        have sm' : mag D (0 - r) ≤ szM D (negM N) := mag_le_szM (x := (kk, 0 - r)) mem
        have li : ((negM N).take i).length ≤ (negM N).length := by rw [List.length_take]; omega
        refine ⟨D', b, t, kk, 0 - r, sumM M ((negM N).take i), A, _, D, _, rfl, pM.stay (.same s34) fun u e => s34 _ _ e, fi, hb.stay (.same s34), SqT.of et, (hN _ mem).2, tw.pos, tw.lit, by omega, by omega, by omega, fun H' pM' el' => ?_⟩
        refine ⟨_, _, rfl, ?_, (el.same s34).trans el'⟩
        rw [sumM_take hNn]
        exact pM'
      · rintro σ H3 ⟨v2, v3, rfl, pM, el⟩
        rw [l3, ← neg_len, List.take_length] at pM
        have s3 : Same H H3 := Else.fresh nD s2 el
        refine ⟨_, rfl, fun x dx nx ndx nex => ⟨x, dx, D', _, rfl, upd_same, pM.made nx ndx, fun H4 sA kp => ⟨rfl, ?_⟩⟩⟩
        exact k x H4 sA (s3.trans (Same.made nx ndx kp)) (s3.free nx)
def spSame (K : PySem.W.Frag) (w : World) (C : Addr) : Sp := fun vs H Q _ => ∃ (p q : Addr) (M N : Poly), vs = [.ref p, .ref q] ∧ SumAt K w C H p M ∧ SumAt K w C H q N ∧ Q (.bl (eqM M N)) H
theorem room72 {A : Around} {k : Nat} (hr : Room k A) : A.units + 72 < cLine := by
  have := hr.un
  omega
theorem ok_same {f : Addr} {fd : FuncData} (T : Txt K mg C) (F : DefAt K mg "same" "same" s_same ["one", "other"] f fd) : FnOk P w K mg base CX0 1 f fd ["one", "other"] (spSame K w C) := by
  refine F.F.ok sc_same (fun vs H Q E h => ?_) (fun cdv A outer s H vs Q E hr h => ?_)
  · obtain ⟨p, q, M, N, rfl, _⟩ := h
    rfl
  · obtain ⟨p, q, M, N, rfl, ⟨dx, d1, o1, L1, e1, n1, r1⟩, ⟨dy, d2, o2, L2, e2, n2, r2⟩, k⟩ := h
    refine ⟨_, (pss_one (ps_ret (pe_cmpR (op_eqN (room72 hr)) (pe_fld (pv 0) rfl) (pe_fld (pv 1) rfl) (nomark _)))), ?_⟩
    refine ⟨_, rfl, p, C, dx, _, _, rfl, e1, T.cl_Sum, T.n_Sum_parts, sumF_parts _, _, rfl, q, C, dy, _, _, rfl, e2, T.cl_Sum, T.n_Sum_parts, sumF_parts _, d1, d2, L1, L2, M, N, rfl, rfl, n1.r, n2.r, r1, r2, ?_⟩
    have e : (false != eqM M N) = eqM M N := by cases eqM M N <;> rfl
    rw [e]
    exact k
def spName (K : PySem.W.Frag) (w : World) (C : Addr) : Sp := fun vs H Q _ => ∃ x : Str, vs = [.str x] ∧ ∀ p H', SumAt K w C H' p [([(x, 1)], 1)] → Same H H' → H p = none → Q (.ref p) H'
theorem ok_sum_of_name {f : Addr} {fd : FuncData} (T : Txt K mg C) (F : DefAt K mg "sum_of_name" "sum_of_name" s_sum_of_name ["x"] f fd) : FnOk P w K mg base CX0 3 f fd ["x"] (spName K w C) := by
  obtain ⟨f2, fd2, M_Sum, FI, b_Sum_init⟩ := T.mk_Sum
  have G_Sum_init : FnOk P w K mg base CX0 1 f2 fd2 ["self", "parts"] (spInit K w C) := ok_Sum_init T FI
  obtain ⟨aO, g_ONE, tO⟩ := T.c_ONE
  refine F.F.ok sc_sum_of_name (fun vs H Q E h => ?_) (fun cdv A outer s H vs Q E hr h => ?_)
  · obtain ⟨x, rfl, _⟩ := h
    rfl
  · obtain ⟨x, rfl, k⟩ := h
    refine ⟨_, pss_one (ps_ret (pe_make M_Sum G_Sum_init (hr.mono (by decide)) (by rfl) T.g_Sum b_Sum_init .nil pass0 (pa_cons (pe_oneN hr.units (pe_tup (pa_cons (pe_tup (pa_cons (pv 0) (pa_cons pe_int pa_nil))) pa_nil)) (pe_glob (v := .ref aO) rfl g_ONE rfl)) pa_nil))), ?_⟩
    intro d nd sd
    refine ⟨_, rfl, (by show 2 ≤ sizeLine; decide), fun t nt => ⟨(by show 1 ≤ sizeLine; decide), fun u nu => ?_⟩⟩
    have s1 := same_upd (o := .tup [.str x, .int 1]) nt
    have s2 := same_upd (o := .tup [.ref t]) nu
    refine ⟨[(x, 1)], u, rfl, ⟨[t], SqT.of upd_same, .cons (SqT.of (s2 _ _ upd_same)) .nil⟩, (s1.trans s2) _ _ upd_same, fun o n3 => ?_⟩
    have el0 : Same H (upd (upd (upd (upd H d (ndO w d [])) t (.tup [.str x, .int 1])) u (.tup [.ref t])) d o) := Else.fresh nd (same_upd nd) ((Same.else (s1.trans s2)).trans .upd)
    have p3 : PartsAt K w (upd (upd (upd (upd H d (ndO w d [])) t (.tup [.str x, .int 1])) u (.tup [.ref t])) d o) d [([(x, 1)], 1)] := ⟨_, n3, .cons ⟨rfl, aO, rfl, tO _⟩ .nil⟩
    refine fun p dx np ndx nex => ⟨p, dx, d, _, rfl, upd_same, p3.made np ndx, fun H2 sA kp => ⟨rfl, ?_⟩⟩
    exact k p H2 sA (el0.trans (Same.made np ndx kp)) (el0.free np)
end
/-! ### sorted(d.items()), keys texts, values whole numbers -/
def slt (x y : Str) : Prop := x.cps.toList < y.cps.toList
instance (x y : Str) : Decidable (slt x y) := inferInstanceAs (Decidable (x.cps.toList < y.cps.toList))
theorem slt_irrefl (x : Str) : ¬ slt x x := List.lt_irrefl _
theorem slt_trans {x y z : Str} (h : slt x y) (g : slt y z) : slt x z := List.lt_trans h g
theorem slt_or {x y : Str} (h : ¬ slt x y) : slt y x ∨ x = y := by
  by_cases g : slt y x
  · exact .inl g
  · right
    have e : x.cps.toList = y.cps.toList := List.le_antisymm (List.not_lt.mp g) (List.not_lt.mp h)
    obtain ⟨⟨l⟩⟩ := x
    obtain ⟨⟨m⟩⟩ := y
    simp only at e
    rw [e]
/-- how many of the names stand ahead of x -/
def rankS (l : List Str) (x : Str) : Int := ((l.filter fun y => decide (slt y x)).length : Int)
theorem rankS_lt {l : List Str} {x y : Str} (hx : x ∈ l) (h : slt x y) : rankS l x < rankS l y := by
  unfold rankS
  have mono : ∀ m : List Str, (m.filter fun z => decide (slt z x)).length ≤ (m.filter fun z => decide (slt z y)).length ∧ (x ∈ m → (m.filter fun z => decide (slt z x)).length < (m.filter fun z => decide (slt z y)).length) := by
    intro m
    induction m with
    | nil => exact ⟨Nat.le_refl _, fun z => nomatch z⟩
    | cons a r ih =>
      rw [List.filter_cons, List.filter_cons]
      by_cases e : slt a x
      · rw [if_pos (by simpa using e), if_pos (by simpa using slt_trans e h), List.length_cons, List.length_cons]
        refine ⟨Nat.succ_le_succ ih.1, fun z => Nat.succ_lt_succ (ih.2 ?_)⟩
        rcases List.mem_cons.mp z with z | z
        · exact absurd (z ▸ e) (slt_irrefl x)
        · exact z
      · rw [if_neg (by simpa using e)]
        by_cases e2 : slt a y
        · rw [if_pos (by simpa using e2), List.length_cons]
          exact ⟨Nat.le_succ_of_le ih.1, fun _ => Nat.lt_succ_of_le ih.1⟩
        · rw [if_neg (by simpa using e2)]
          refine ⟨ih.1, fun z => ih.2 ?_⟩
          rcases List.mem_cons.mp z with z | z
          · exact absurd (z ▸ h) e2
          · exact z
  have := (mono l).2 hx
  omega
theorem rankS_iff {l : List Str} {x y : Str} (hx : x ∈ l) (hy : y ∈ l) : decide (slt x y) = decide (rankS l x < rankS l y) := by
  by_cases h : slt x y
  · rw [decide_eq_true h, decide_eq_true (rankS_lt hx h)]
  · rw [decide_eq_false h]
    rcases slt_or h with g | g
    · have := rankS_lt hy g
      rw [decide_eq_false (by omega)]
    · subst g
      rw [decide_eq_false (by omega)]
section
variable {prog : Program} {w : World} {A : Around} {E : Value → Shared → Prop} {s : Shared}
/-- v is the pair e -/
def PairV (h : Heap) (v : Value) (e : Str × Int) : Prop := ∃ (a : Addr) (t u : Tok), v = .ref a ∧ IsTup h a #[.str e.1 t, .int e.2 u]
def nameV (h : Heap) (v : Value) : Str := DT.txOf (DT.seqAt0 h (DT.refOf (some v)))
theorem PairV.name {h : Heap} {v : Value} {e : Str × Int} (p : PairV h v e) : nameV h v = e.1 := by
  obtain ⟨a, t, u, rfl, ha⟩ := p
  show DT.txOf (DT.seqAt0 h a) = e.1
  rw [DT.seqAt0_of ha]
  rfl
theorem pairs_firsts {h : Heap} : ∀ vs : List Value, (∀ v ∈ vs, ∃ e, PairV h v e) → ∃ fs : List Value, PySem.W.KatTups h vs fs ∧ fs.length = vs.length ∧ ∀ f ∈ fs, ∃ x t, f = Value.str x t
  | [], _ => ⟨[], PySem.W.KatTups.nil, rfl, fun f hf => nomatch hf⟩
  | v :: vs, p => by
    obtain ⟨fs, k, hl, hi⟩ := pairs_firsts vs fun u hu => p u (by simp [hu])
    obtain ⟨e, a, t, u, rfl, o, ho, hc, n, hd⟩ := p v (by simp)
    refine ⟨.str e.1 t :: fs, PySem.W.KatTups.cons ho hc hd rfl k, by simp [hl], fun f hf => ?_⟩
    rcases List.mem_cons.mp hf with z | z
    · exact ⟨_, _, z⟩
    · exact hi f z
theorem kind_pairs {vs : List Value} {l : List Str} (h2 : 2 ≤ vs.length) (p : ∀ v ∈ vs, ∃ e : Str × Int, PairV s.heap v e ∧ e.1 ∈ l) (inj : ∀ (v u : Value) (e f : Str × Int), v ∈ vs → u ∈ vs → PairV s.heap v e → PairV s.heap u f → e.1 = f.1 → e = f) (Q : PyProof.Rows.SortKind → Shared → Prop)
    (h : ∀ κ, TS.Cmp prog w A s κ (PyProof.Rows.pairsOf vs) (fun v => rankS l (nameV s.heap v)) → Q κ s) : wpAny (model prog w) A (PyProof.Rows.keyKind' vs.toArray) Q E s := by
  obtain ⟨fs, k, hl, hi⟩ := pairs_firsts vs fun v hv => let ⟨e, z, _⟩ := p v hv; ⟨e, z⟩
  refine PySem.W.kat_kind (T := Value.type "str") k (by omega) (fun f hf => ?_) rfl (h _ ?_)
  · obtain ⟨x, t, rfl⟩ := hi f hf
    exact .now
  · rw [show (Value.type "str" != Value.type "tuple") = true by decide]
    intro a b ha hb Q' E' hQ
    rw [PyProof.Rows.pairsOf_toList] at ha hb
    have ma := (mem_zip_self ha).2
    have mb := (mem_zip_self hb).2
    obtain ⟨e, pe, ie⟩ := p _ ma
    obtain ⟨f, pf, jf⟩ := p _ mb
    have hQ2 : Q' (decide (slt e.1 f.1)) s := by
      rw [rankS_iff ie jf, ← pe.name, ← pf.name]
      exact hQ
    have same := inj _ _ e f ma mb pe pf
    obtain ⟨x, t, u, e1, o, ho, hc, n, hd⟩ := pe
    obtain ⟨y, t', u', e2, o', ho', hc', n', hd'⟩ := pf
    rw [e1, e2]
    refine PySem.W.kat_lt ho hd ho' hd' ?_
    show PySem.W.KatLex prog w A true false Q' [(Value.str e.1 t, Value.str f.1 t'), (Value.int e.2 u, Value.int f.2 u')] 0 s
    refine PySem.W.kat_cons (wpAny_eqBool_str (PySem.W.kat_go (fun c => ?_) (fun c => ?_)))
    · have z := same (of_decide_eq_true c)
      subst z
      rw [decide_eq_false (slt_irrefl _)] at hQ2
      refine PySem.W.kat_yes (PySem.W.kat_cons (wpAny_eqBool_int (PySem.W.kat_go (fun _ => PySem.W.kat_yes (PySem.W.kat_nil hQ2)) (fun c => ?_))))
      simp at c
    · refine PySem.W.kat_no ?_
      show wpAny _ _ (PyProof.Rows.oneLt' true _ _) _ _ _
      exact PyProof.Rows.oneLt_str hQ2
end
/-! ### sorted(d.items()) of a dict from texts to whole numbers, by values -/
/-- a dict from texts to whole numbers -/
def dSI (L : List (Str × Int)) : List (L2.Key × V) := L.map fun e => (Sum.inr e.1, V.int e.2)
theorem dSI_pairs {P : Program} {w : World} : ∀ {L : List (Str × Int)} {es : List DictEntry} {vs : List (L2.Key × Value)}, KV (dSI L) vs → PySem.Pairs (mixKind P w) es vs → es.length = L.length ∧ ∀ (j : Nat) (e : DictEntry), es[j]? = some e → ∃ (x : Str × Int) (t u : Tok), L[j]? = some x ∧ e.key = .str x.1 t ∧ e.val = .int x.2 u
  | [], _, _, .nil, .nil => ⟨rfl, fun j e h => by simp at h⟩
  | x :: L, _, _, .cons (b := kv) h1 h2, .cons (e := en) k1 k2 k3 => by
    obtain ⟨l, ih⟩ := dSI_pairs h2 k3
    refine ⟨by simp [l], fun j e h => ?_⟩
    cases j with
    | zero =>
      simp only [List.getElem?_cons_zero, Option.some.injEq] at h
      subst h
      have e1 : (Sum.inr x.1 : L2.Key) = kv.1 := h1.1
      rw [← e1] at k1
      obtain ⟨u, hu⟩ : ∃ u, kv.2 = Value.int x.2 u := h1.2
      rcases keyIs_shape (k := (Sum.inr x.1 : L2.Key)) k1 with ⟨i, t, z, _⟩ | ⟨y, t, z, e2⟩
      · cases z
      · cases z
        exact ⟨x, t, u, rfl, e2, k2.trans hu⟩
    | succ j => exact ih j e (by simpa using h)
/-- the view d.items() -/
def rItemsK : V → List V → Hp → VK → Prop := fun x xs H Q => ∃ (a : Addr) (kvs : List (L2.Key × V)), x = .ref a ∧ xs = [] ∧ H a = some (.dK kvs) ∧ ∀ p, H p = none → Q (.ref p) (upd H p (DX.itemsO p a))
theorem mt_itemsK {X : Cx} : MtR X "dict.items" rItemsK := by
  intro pins s σ H x xs v us Q I rx rxs h
  obtain ⟨a, kvs, rfl, rfl, ha, q⟩ := h
  cases rx
  cases rxs
  obtain ⟨z, hd, xs', rel, o, es, ep, ho, hx, hdat, _⟩ := dk_of I.hok ha
  refine DT.callItems (es := es) (ep := ep) hd ⟨o, ho, hx, hdat⟩ ?_
  have hf : H s.heap.objs.size = none := I.hok.fresh (Nat.le_refl _)
  exact ⟨.ref s.heap.objs.size, upd H s.heap.objs.size (DX.itemsO s.heap.objs.size a), I.laid (t' := s.toks) (fun b u e => Heap.get?_push_of_some _ e) (Nat.le_refl _) (DX.itemsO_ok (Heap.get?_push_size _ rfl)), rfl, q _ hf⟩
def rSortK : List V → Hp → VK → Prop := fun vs H Q => ∃ (p a : Addr) (L : List (Str × Int)), vs = [.ref p] ∧ H p = some (DX.itemsO p a) ∧ H a = some (.dK (dSI L)) ∧ L.length < 64 ∧
  ∀ (H' : Hp) (l : Addr) (ps : List (Addr × Str × Int)), Same H H' → (ps.map (·.2)).Perm L → (ps.map (·.2)).Pairwise (fun e f => slt e.1 f.1) → H l = none → H' l = some (.lst (ps.map fun z => V.ref z.1)) →
    (∀ z ∈ ps, H' z.1 = some (.tup [.str z.2.1, .int z.2.2])) → Q (.ref l) H'
theorem cr_sortedK {X : Cx} (hc : X.calm = true) : CallR X (.builtin "sorted") rSortK := by
  intro pins s σ H xs us Q I r h
  obtain ⟨p, a, ks, rfl, hp, ha, h64, q⟩ := h
  obtain rfl := Vals.ref1 r
  have view : s.heap.IsItemsView p a := (show ObjOk X.prog X.w H s.heap p (DX.itemsO p a) from I.hok p _ hp).1
  obtain ⟨z, hd, vs, rel, o, es, ep, ho, hx, hdat, _, hes, hn⟩ := dk_of I.hok ha
  obtain ⟨l2, ent⟩ := dSI_pairs rel hes
  rw [Array.length_toList] at l2
  have ndK : (ks.map (·.1)).Nodup := by
    have e : vs.map (·.1) = ks.map fun e => (Sum.inr e.1 : L2.Key) := by
      rw [← KV.keys rel]
      show (ks.map _).map _ = _
      rw [List.map_map]
      rfl
    rw [e] at hn
    rw [List.nodup_iff_pairwise_ne, List.pairwise_map] at hn ⊢
    exact hn.imp fun {x y} h e => h (by rw [e])
  have hh : X.A.handled = none := I.ok.hd hc
  refine DT.sortedI (es := es) (ep := ep) hh view ⟨o, ho, hx, hdat⟩ (by rw [sizeLine_eq]; omega) fun h' tk as hk hlt hl hG => ?_
  have lak : as.length = ks.length := by omega
  have nd : as.Nodup := List.Pairwise.imp (fun h => Nat.ne_of_lt h) hG.rise
  have pr : ∀ (j : Nat) (b : Addr), as[j]? = some b → ∃ (e : Str × Int) (t u : Tok), ks[j]? = some e ∧ h'.get? b = some { cls := .type "tuple", data := .seq #[Value.str e.1 t, Value.int e.2 u] } := by
    intro j b hj
    obtain ⟨en, he, hg⟩ := hG.pairs j b hj
    rw [← Array.getElem?_toList] at he
    obtain ⟨x, t, u, hx, e1, e2⟩ := ent j en he
    exact ⟨x, t, u, hx, by rw [hg, e1, e2]⟩
  have hob : (h'.push { cls := .type "list", data := .seq (as.map Value.ref).toArray }).get? h'.objs.size = some (seqObj "list" (as.map Value.ref).toArray 0) := Heap.get?_push_size _ rfl
  have kb : ∀ b o, s.heap.get? b = some o → (h'.push { cls := .type "list", data := .seq (as.map Value.ref).toArray }).get? b = some o := fun b o e => Heap.get?_push_of_some _ (hk b o e)
  have ne0 : ∀ b o, h'.get? b = some o → b ≠ h'.objs.size := fun b o e => Nat.ne_of_lt (Heap.lt_size e)
  generalize hh2 : h'.push { cls := .type "list", data := .seq (as.map Value.ref).toArray } = h2 at hob kb ⊢
  have ka : ∀ b o, h'.get? b = some o → h2.get? b = some o := fun b o e => by rw [← hh2]; exact Heap.get?_push_of_some _ e
  have pin : ∀ (j : Nat) (b : Addr), as[j]? = some b → ∃ e : Str × Int, ks[j]? = some e ∧ PairV (TS.midHeap h2 h'.objs.size (as.map Value.ref)) (.ref b) e := by
    intro j b hj
    obtain ⟨e, t, u, he, hg⟩ := pr j b hj
    exact ⟨e, he, b, t, u, rfl, ⟨_, TS.midHeap_old (ne0 _ _ hg) (ka _ _ hg), rfl, 0, rfl⟩⟩
  have tx : ∀ (j : Nat) (b : Addr) (e : Str × Int), as[j]? = some b → ks[j]? = some e → nameV (TS.midHeap h2 h'.objs.size (as.map Value.ref)) (.ref b) = e.1 := by
    intro j b e hj he
    obtain ⟨e', he', hp'⟩ := pin j b hj
    have ee : e' = e := Option.some.inj (he'.symm.trans he)
    rw [← ee]
    exact hp'.name
  have at_ : ∀ v ∈ as.map Value.ref, ∃ (j : Nat) (b : Addr) (e : Str × Int), v = .ref b ∧ as[j]? = some b ∧ ks[j]? = some e := by
    intro v hv'
    obtain ⟨b, hb, rfl⟩ := List.mem_map.mp hv'
    obtain ⟨j, hj⟩ := List.mem_iff_getElem?.mp hb
    obtain ⟨e, _, _, he, _⟩ := pr j b hj
    exact ⟨j, b, e, rfl, hj, he⟩
  refine wpAny_call_entry PyProof.Rows.slot_list_sort ⟨_, hob, rfl⟩ PyProof.Rows.entry_list_sort
    (SK.plain_sort (s := { s with heap := h2, toks := tk }) (r := fun v => rankS (ks.map (·.1)) (nameV (TS.midHeap h2 h'.objs.size (as.map Value.ref)) v)) hob (by rw [List.length_map]; omega) (fun h2' Qk hQk => ?_) fun ps out o1 o2 o3 => ⟨.none, rfl, ?_⟩) (PyProof.Rows.args_list_sort _)
  · refine kind_pairs (s := { s with heap := TS.midHeap h2 h'.objs.size (as.map Value.ref), toks := tk }) (l := ks.map (·.1)) h2' (fun v hv' => ?_) (fun v u e f hv' hu' pe pf ef => ?_) Qk hQk
    · obtain ⟨j, b, e, rfl, hj, he⟩ := at_ v hv'
      obtain ⟨e', he', hp'⟩ := pin j b hj
      exact ⟨e', hp', List.mem_map.mpr ⟨_, List.mem_of_getElem? he', rfl⟩⟩
    · obtain ⟨j, b, e0, rfl, hj, he⟩ := at_ v hv'
      obtain ⟨j2, b2, f0, rfl, hj2, hf⟩ := at_ u hu'
      have a1 := tx j b e0 hj he
      have a2 := tx j2 b2 f0 hj2 hf
      rw [pe.name] at a1
      rw [pf.name] at a2
      have b1 : (ks.map (·.1))[j]? = some e0.1 := by rw [List.getElem?_map, he]; rfl
      have b2' : (ks.map (·.1))[j2]? = some e0.1 := by rw [List.getElem?_map, hf, ← a1, ef, a2]; rfl
      have ej : j = j2 := (List.getElem?_inj (List.getElem?_eq_some_iff.mp b1).1 ndK).mp (b1.trans b2'.symm)
      subst ej
      have eb : b = b2 := Option.some.inj (hj.symm.trans hj2)
      subst eb
      obtain ⟨c1, t1, u1, z1, o1, g1, _, n1, d1⟩ := pe
      obtain ⟨c2, t2, u2, z2, o2, g2, _, n2, d2⟩ := pf
      cases z1
      cases z2
      rw [g1] at g2
      cases g2
      rw [d1] at d2
      injection d2 with d3
      have d4 := congrArg Array.toList d3
      injection d4 with d5 d6
      injection d6 with d7
      injection d5 with d8
      injection d7 with d9
      exact Prod.ext d8 d9
  · show EP X pins σ Q (.ref h'.objs.size) { s with heap := sortedHeap h2 h'.objs.size (as.map Value.ref) out, toks := tk }
    obtain ⟨zs, pz, ez⟩ := perm_lift (fun z : Addr × Str × Int => (Value.ref z.1, Value.ref z.1)) o2 (as.zip ks) (DX.zip_self Value.ref as ks lak)
    have idx : ∀ z ∈ zs, ∃ j : Nat, as[j]? = some z.1 ∧ ks[j]? = some z.2 := by
      intro z' hz'
      obtain ⟨j, hj⟩ := List.mem_iff_getElem?.mp (pz.mem_iff.mp hz')
      exact ⟨j, List.getElem?_zip_eq_some.mp hj⟩
    have hout : out.toList = zs.map fun z => Value.ref z.1 := by
      rw [o1, ← ez, List.map_map]
      all_goals rfl
    have hperm : (zs.map (·.2)).Perm ks := by
      have e := pz.map (·.2)
      have m2 : (as.zip ks).map (·.2) = ks := List.map_snd_zip (by rw [lak]; exact Nat.le_refl _)
      rw [m2] at e
      exact e
    have ndz : ((zs.map (·.2)).map (·.1)).Nodup := (hperm.map (·.1)).nodup_iff.mpr ndK
    have hsort : (zs.map (·.2)).Pairwise (fun e f => slt e.1 f.1) := by
      rw [← ez, List.pairwise_map] at o3
      rw [List.map_map, List.nodup_iff_pairwise_ne, List.pairwise_map] at ndz
      rw [List.pairwise_map]
      refine List.Pairwise.imp_of_mem (fun {x y} hx hy h => ?_) (o3.and ndz)
      obtain ⟨j, j1, j2⟩ := idx x hx
      obtain ⟨i, i1, i2⟩ := idx y hy
      have h1 : rankS (ks.map (·.1)) (nameV (TS.midHeap h2 h'.objs.size (as.map Value.ref)) (.ref x.1)) ≤ rankS (ks.map (·.1)) (nameV (TS.midHeap h2 h'.objs.size (as.map Value.ref)) (.ref y.1)) := h.1
      rw [tx j _ _ j1 j2, tx i _ _ i1 i2] at h1
      have h3 : x.2.1 ≠ y.2.1 := h.2
      by_cases c : slt x.2.1 y.2.1
      · exact c
      · rcases slt_or c with g | g
        · have := rankS_lt (l := ks.map (·.1)) (List.mem_map.mpr ⟨_, List.mem_of_getElem? i2, rfl⟩) g
          omega
        · exact absurd g h3
    have kF : ∀ b o, b ≠ h'.objs.size → h2.get? b = some o → (sortedHeap h2 h'.objs.size (as.map Value.ref) out).get? b = some o := fun b o hb e => (PyProof.Rows.sortedHeap_old hb (Heap.lt_size e)).trans e
    have kS : ∀ b o, s.heap.get? b = some o → (sortedHeap h2 h'.objs.size (as.map Value.ref) out).get? b = some o := fun b o e => kF b o (ne0 _ _ (hk b o e)) (kb b o e)
    obtain ⟨eF, heF⟩ := PyProof.Rows.sortedHeap_at (vs := as.map Value.ref) (out := out) hob
    have I1 : Inv X pins σ H { s with heap := sortedHeap h2 h'.objs.size (as.map Value.ref) out, toks := tk } := I.kept (t' := tk) kS
    have hn0 : H h'.objs.size = none := I.hok.fresh (Nat.le_of_lt hlt)
    have hlen : (zs.map fun z => V.ref z.1).length ≤ sizeLine := by
      have e := hperm.length_eq
      rw [List.length_map] at e
      rw [List.length_map, sizeLine_eq]
      omega
    have rv : Vals (zs.map fun z => V.ref z.1) out.toList := by
      rw [hout]
      exact vals_maps (fun z : Addr × Str × Int => V.ref z.1) (fun z => Value.ref z.1) zs fun _ _ => rfl
    have I2 : Inv X pins σ (upd H h'.objs.size (.lst (zs.map fun z => V.ref z.1))) { s with heap := sortedHeap h2 h'.objs.size (as.map Value.ref) out, toks := tk } :=
      I1.take (h' := sortedHeap h2 h'.objs.size (as.map Value.ref) out) (t' := tk) (fun b ob _ e => e) (I.fpOk (Nat.le_of_lt hlt) hn0) ⟨hlen, out.toList, eF, rv, heF⟩
    obtain ⟨H2, I3, g, qt⟩ := DX.takeT (P := fun b vs => ∃ (j : Nat) (e : Str × Int), as[j]? = some b ∧ ks[j]? = some e ∧ vs = [.str e.1, .int e.2]) I as _ I2 nd fun b hb => by
      obtain ⟨j, hj⟩ := List.mem_iff_getElem?.mp hb
      obtain ⟨e, t, u, he, hg⟩ := pr j b hj
      have hbl : s.heap.objs.size ≤ b := Nat.le_of_lt (hG.above b hb)
      refine ⟨hbl, ?_, [.str e.1, .int e.2], ⟨j, e, hj, he, rfl⟩, fun H3 => ⟨(by rw [sizeLine_eq]; show 2 ≤ 16777216; omega), [Value.str e.1 t, Value.int e.2 u], .cons ⟨t, rfl⟩ (.cons ⟨u, rfl⟩ .nil), ⟨_, kF _ _ (ne0 _ _ hg) (ka _ _ hg), rfl, 0, rfl⟩⟩⟩
      rw [upd_ne (ne0 _ _ hg)]
      exact I.hok.fresh hbl
    have gr : ∀ b o, H b = some o → H2 b = some o := fun b o e => g b o (by rw [upd_ne (ne_of_none e hn0)]; exact e)
    refine ⟨.ref h'.objs.size, H2, I3, rfl, q H2 h'.objs.size zs gr hperm hsort hn0 (g _ _ upd_same) fun z' hz' => ?_⟩
    obtain ⟨i, i1, i2⟩ := idx z' hz'
    obtain ⟨vs, ⟨j, e, j1, j2, ev⟩, hH⟩ := qt z'.1 (List.mem_of_getElem? i1)
    have eij : i = j := (List.getElem?_inj (List.getElem?_eq_some_iff.mp i1).1 nd).mp (i1.trans j1.symm)
    subst eij
    have ee : e = z'.2 := Option.some.inj (j2.symm.trans i2)
    rw [ev, ee] at hH
    exact hH
/-! ### products of names: canonical, joined -/
def expo : Pr → Str → Int
  | [], _ => 0
  | e :: r, x => (if e.1 = x then e.2 else 0) + expo r x
structure Canon (p : Pr) : Prop where
  up : p.Pairwise fun e f => slt e.1 f.1
  one : ∀ e ∈ p, 1 ≤ e.2
theorem Canon.nil : Canon [] := ⟨.nil, fun _ h => nomatch h⟩
theorem Canon.tail {e : Str × Int} {p : Pr} (h : Canon (e :: p)) : Canon p := ⟨(List.pairwise_cons.mp h.up).2, fun f hf => h.one f (by simp [hf])⟩
theorem Canon.nodup {p : Pr} (h : Canon p) : (p.map (·.1)).Nodup := by
  rw [List.nodup_iff_pairwise_ne, List.pairwise_map]
  exact h.up.imp fun {x y} g e => by rw [e] at g; exact slt_irrefl _ g
theorem expo_nonneg {p : Pr} (h : ∀ e ∈ p, 1 ≤ e.2) (x : Str) : 0 ≤ expo p x := by
  induction p with
  | nil => exact Int.le_refl _
  | cons e r ih =>
    have a := ih fun f hf => h f (by simp [hf])
    have b := h e (by simp)
    show 0 ≤ (if e.1 = x then e.2 else 0) + expo r x
    split <;> omega
theorem expo_zero {p : Pr} {x : Str} (h : ∀ e ∈ p, e.1 ≠ x) : expo p x = 0 := by
  induction p with
  | nil => rfl
  | cons e r ih =>
    show (if e.1 = x then e.2 else 0) + expo r x = 0
    rw [if_neg (h e (by simp)), ih fun f hf => h f (by simp [hf])]
    rfl
theorem expo_pos {p : Pr} (h : ∀ e ∈ p, 1 ≤ e.2) {x : Str} (hx : ∃ e ∈ p, e.1 = x) : 1 ≤ expo p x := by
  induction p with
  | nil =>
    obtain ⟨e, he, _⟩ := hx
    cases he
  | cons e r ih =>
    show 1 ≤ (if e.1 = x then e.2 else 0) + expo r x
    have a := expo_nonneg (p := r) (fun f hf => h f (by simp [hf])) x
    have b := h e (by simp)
    by_cases z : e.1 = x
    · rw [if_pos z]
      omega
    · obtain ⟨f, hf, ef⟩ := hx
      rcases List.mem_cons.mp hf with q | q
      · subst q
        exact absurd ef z
      · have := ih (fun f hf => h f (by simp [hf])) ⟨f, q, ef⟩
        rw [if_neg z]
        omega
theorem mem_of_expo {p : Pr} {x : Str} (h : expo p x ≠ 0) : ∃ e ∈ p, e.1 = x := by
  by_cases q : ∃ e ∈ p, e.1 = x
  · exact q
  · exact absurd (expo_zero fun e he z => q ⟨e, he, z⟩) h
theorem Canon.head {e : Str × Int} {p : Pr} (h : Canon (e :: p)) : expo (e :: p) e.1 = e.2 := by
  show (if e.1 = e.1 then e.2 else 0) + expo p e.1 = e.2
  rw [if_pos rfl, expo_zero fun f hf z => ?_]
  · omega
  · have := (List.pairwise_cons.mp h.up).1 f hf
    rw [z] at this
    exact slt_irrefl _ this
theorem Canon.low {e : Str × Int} {p : Pr} (h : Canon (e :: p)) {x : Str} (hx : slt x e.1) : expo (e :: p) x = 0 := by
  refine expo_zero fun f hf z => ?_
  rcases List.mem_cons.mp hf with q | q
  · subst q
    rw [z] at hx
    exact slt_irrefl _ hx
  · have := (List.pairwise_cons.mp h.up).1 f q
    rw [z] at this
    exact slt_irrefl _ (slt_trans hx this)
theorem canon_eq : ∀ {p q : Pr}, Canon p → Canon q → (∀ x, expo p x = expo q x) → p = q
  | [], [], _, _, _ => rfl
  | [], f :: q, _, hq, h => by
    have a := h f.1
    rw [hq.head] at a
    have b := hq.one f (by simp)
    have : expo [] f.1 = 0 := rfl
    omega
  | e :: p, [], hp, _, h => by
    have a := h e.1
    rw [hp.head] at a
    have b := hp.one e (by simp)
    have : expo [] e.1 = 0 := rfl
    omega
  | e :: p, f :: q, hp, hq, h => by
    have n1 : ¬ slt e.1 f.1 := fun z => by
      have a := h e.1
      rw [hp.head, hq.low z] at a
      have := hp.one e (by simp)
      omega
    have n2 : ¬ slt f.1 e.1 := fun z => by
      have a := h f.1
      rw [hq.head, hp.low z] at a
      have := hq.one f (by simp)
      omega
    have e1 : e.1 = f.1 := (slt_or n1).resolve_left n2
    have e2 : e.2 = f.2 := by
      have a := h e.1
      rw [hp.head, e1, hq.head] at a
      exact a
    have ef : e = f := Prod.ext e1 e2
    subst ef
    rw [canon_eq hp.tail hq.tail fun x => by
      have a : (if e.1 = x then e.2 else 0) + expo p x = (if e.1 = x then e.2 else 0) + expo q x := h x
      omega]
def insE (e : Str × Int) : Pr → Pr
  | [] => [e]
  | f :: r => if slt e.1 f.1 then e :: f :: r else if e.1 = f.1 then (f.1, f.2 + e.2) :: r else f :: insE e r
theorem expo_ins (e : Str × Int) (p : Pr) (x : Str) : expo (insE e p) x = (if e.1 = x then e.2 else 0) + expo p x := by
  induction p with
  | nil => rfl
  | cons f r ih =>
    unfold insE
    split
    · rfl
    · split
      · rename_i h
        show (if f.1 = x then f.2 + e.2 else 0) + expo r x = (if e.1 = x then e.2 else 0) + ((if f.1 = x then f.2 else 0) + expo r x)
        rw [h]
        split <;> omega
      · show (if f.1 = x then f.2 else 0) + expo (insE e r) x = (if e.1 = x then e.2 else 0) + ((if f.1 = x then f.2 else 0) + expo r x)
        rw [ih]
        omega
theorem ins_names {e : Str × Int} {p : Pr} {f : Str × Int} (h : f ∈ insE e p) : f.1 = e.1 ∨ ∃ g ∈ p, g.1 = f.1 := by
  induction p with
  | nil => exact .inl (by rw [show f = e by simpa [insE] using h])
  | cons g r ih =>
    unfold insE at h
    split at h
    · rcases List.mem_cons.mp h with z | z
      · exact .inl (by rw [z])
      · exact .inr ⟨f, z, rfl⟩
    · split at h
      · rename_i q
        rcases List.mem_cons.mp h with z | z
        · exact .inl (by rw [z]; exact q.symm)
        · exact .inr ⟨f, by simp [z], rfl⟩
      · rcases List.mem_cons.mp h with z | z
        · exact .inr ⟨f, by simp [z], rfl⟩
        · rcases ih z with y | ⟨t, ht, et⟩
          · exact .inl y
          · exact .inr ⟨t, by simp [ht], et⟩
theorem Canon.ins {e : Str × Int} {p : Pr} (he : 1 ≤ e.2) (h : Canon p) : Canon (insE e p) := by
  induction p with
  | nil => exact ⟨List.pairwise_singleton _ _, fun f hf => by rw [show f = e by simpa [insE] using hf]; exact he⟩
  | cons f r ih =>
    have hr := ih h.tail
    have hf := h.one f (by simp)
    have up := List.pairwise_cons.mp h.up
    unfold insE
    split
    · rename_i z
      refine ⟨List.pairwise_cons.mpr ⟨fun g hg => ?_, h.up⟩, fun g hg => ?_⟩
      · rcases List.mem_cons.mp hg with q | q
        · rw [q]; exact z
        · exact slt_trans z (up.1 g q)
      · rcases List.mem_cons.mp hg with q | q
        · rw [q]; exact he
        · exact h.one g q
    · split
      · refine ⟨List.pairwise_cons.mpr ⟨up.1, up.2⟩, fun g hg => ?_⟩
        rcases List.mem_cons.mp hg with q | q
        · rw [q]
          show 1 ≤ f.2 + e.2
          omega
        · exact h.one g (by simp [q])
      · rename_i n1 n2
        refine ⟨List.pairwise_cons.mpr ⟨fun g hg => ?_, hr.up⟩, fun g hg => ?_⟩
        · rcases ins_names hg with q | ⟨t, ht, et⟩
          · rw [q]
            rcases slt_or n1 with z | z
            · exact z
            · exact absurd z n2
          · rw [← et]
            exact up.1 t ht
        · rcases List.mem_cons.mp hg with q | q
          · rw [q]; exact hf
          · exact hr.one g q
/-- the product of two products -/
def joinP (p q : Pr) : Pr := p.foldr insE q
theorem expo_join (p q : Pr) (x : Str) : expo (joinP p q) x = expo p x + expo q x := by
  induction p with
  | nil =>
    show expo q x = 0 + expo q x
    omega
  | cons e r ih =>
    show expo (insE e (joinP r q)) x = (if e.1 = x then e.2 else 0) + expo r x + expo q x
    rw [expo_ins, ih]
    omega
theorem Canon.join {p q : Pr} (hp : ∀ e ∈ p, 1 ≤ e.2) (hq : Canon q) : Canon (joinP p q) := by
  induction p with
  | nil => exact hq
  | cons e r ih => exact (ih fun f hf => hp f (by simp [hf])).ins (hp e (by simp))
theorem join_names {p q : Pr} {f : Str × Int} (h : f ∈ joinP p q) : (∃ g ∈ p, g.1 = f.1) ∨ ∃ g ∈ q, g.1 = f.1 := by
  induction p generalizing f with
  | nil => exact .inr ⟨f, h, rfl⟩
  | cons e r ih =>
    rcases ins_names h with z | ⟨t, ht, et⟩
    · exact .inl ⟨e, by simp, z.symm⟩
    · rcases ih ht with ⟨g, hg, eg⟩ | ⟨g, hg, eg⟩
      · exact .inl ⟨g, by simp [hg], eg.trans et⟩
      · exact .inr ⟨g, hg, eg.trans et⟩
theorem join_comm {p q : Pr} (hp : Canon p) (hq : Canon q) : joinP p q = joinP q p := canon_eq (hq.join hp.one) (hp.join hq.one) fun x => by rw [expo_join, expo_join]; omega
theorem join_assoc {p q r : Pr} (hp : Canon p) (hq : Canon q) (hr : Canon r) : joinP (joinP p q) r = joinP p (joinP q r) := canon_eq (hr.join (hq.join hp.one).one) ((hr.join hq.one).join hp.one) fun x => by rw [expo_join, expo_join, expo_join, expo_join]; omega
theorem join_nil {p : Pr} (hp : Canon p) : joinP p [] = p := canon_eq (Canon.nil.join hp.one) hp fun x => by rw [expo_join]; show expo p x + 0 = _; omega
theorem nil_join (p : Pr) : joinP [] p = p := rfl
theorem expo_perm {p q : Pr} (h : p.Perm q) (x : Str) : expo p x = expo q x := by
  induction h with
  | nil => rfl
  | cons e _ ih =>
    show (if e.1 = x then e.2 else 0) + _ = (if e.1 = x then e.2 else 0) + _
    rw [ih]
  | swap e f r =>
    show (if f.1 = x then f.2 else 0) + ((if e.1 = x then e.2 else 0) + expo r x) = (if e.1 = x then e.2 else 0) + ((if f.1 = x then f.2 else 0) + expo r x)
    omega
  | trans _ _ a b => exact a.trans b
/-! ### dicts from names to powers, by turns -/
def putS (L : Pr) (x : Str) (v : Int) : Pr := if (L.any fun e => decide (e.1 = x)) = true then L.map (fun e => if e.1 = x then (e.1, v) else e) else L ++ [(x, v)]
theorem dSI_put (L : Pr) (x : Str) (v : Int) : putK (dSI L) (Sum.inr x) (.int v) = dSI (putS L x v) := by
  unfold putK putS dSI
  have e : ((L.map fun e => ((Sum.inr e.1 : L2.Key), V.int e.2)).any fun kv => decide (kv.1 = (Sum.inr x : L2.Key))) = L.any fun e => decide (e.1 = x) := by
    rw [List.any_map]
    congr 1
    funext a
    show decide ((Sum.inr a.1 : L2.Key) = Sum.inr x) = decide (a.1 = x)
    by_cases z : a.1 = x
    · simp [z]
    · simp [z]
  rw [e]
  by_cases c : (L.any fun e => decide (e.1 = x)) = true
  · rw [if_pos c, if_pos c, List.map_map, List.map_map]
    refine List.map_congr_left fun a _ => ?_
    show (if (Sum.inr a.1 : L2.Key) = Sum.inr x then ((Sum.inr a.1 : L2.Key), V.int v) else (Sum.inr a.1, V.int a.2)) = (Sum.inr (if a.1 = x then (a.1, v) else a).1, V.int (if a.1 = x then (a.1, v) else a).2)
    by_cases z : a.1 = x
    · rw [if_pos (by rw [z]), if_pos z]
    · rw [if_neg (by simpa using z), if_neg z]
  · rw [if_neg c, if_neg c, List.map_append]
    rfl
theorem valV_dSI {L : Pr} (hn : (L.map (·.1)).Nodup) (x : Str) : (valV (dSI L) (Sum.inr x)).getD (.int 0) = .int (expo L x) := by
  induction L with
  | nil => rfl
  | cons e r ih =>
    rw [List.map_cons] at hn
    obtain ⟨n1, n2⟩ := List.nodup_cons.mp hn
    have ih := ih n2
    unfold valV dSI at ih ⊢
    rw [List.map_cons, List.find?_cons]
    show _ = V.int ((if e.1 = x then e.2 else 0) + expo r x)
    by_cases z : e.1 = x
    · rw [if_pos z, expo_zero fun f hf q => n1 (by rw [z, ← q]; exact List.mem_map.mpr ⟨f, hf, rfl⟩)]
      simp [z]
    · rw [if_neg z]
      simp only [show decide ((Sum.inr e.1 : L2.Key) = Sum.inr x) = false by simpa using z, Int.zero_add]
      exact ih
theorem expo_append (p q : Pr) (x : Str) : expo (p ++ q) x = expo p x + expo q x := by
  induction p with
  | nil =>
    show expo q x = 0 + expo q x
    omega
  | cons e r ih =>
    show (if e.1 = x then e.2 else 0) + expo (r ++ q) x = (if e.1 = x then e.2 else 0) + expo r x + expo q x
    rw [ih]
    omega
theorem putS_keys (L : Pr) (x : Str) (v : Int) : ∀ e ∈ putS L x v, e = (x, v) ∨ e ∈ L := by
  intro e he
  unfold putS at he
  split at he
  · obtain ⟨f, hf, ef⟩ := List.mem_map.mp he
    by_cases z : f.1 = x
    · rw [if_pos z] at ef
      exact .inl (by rw [← ef, z])
    · rw [if_neg z] at ef
      exact .inr (by rw [← ef]; exact hf)
  · rcases List.mem_append.mp he with h | h
    · exact .inr h
    · exact .inl (by simpa using h)
theorem putS_nodup {L : Pr} (x : Str) (v : Int) (h : (L.map (·.1)).Nodup) : ((putS L x v).map (·.1)).Nodup := by
  unfold putS
  split
  · have e : (L.map fun e => if e.1 = x then (e.1, v) else e).map (·.1) = L.map (·.1) := by
      rw [List.map_map]
      refine List.map_congr_left fun e _ => ?_
      show (if e.1 = x then (e.1, v) else e).1 = e.1
      split <;> rfl
    rw [e]
    exact h
  · rename_i hn
    rw [List.map_append]
    refine List.nodup_append.mpr ⟨h, by simp, fun a ha b hb z => ?_⟩
    have eb : b = x := by simpa using hb
    subst z
    subst eb
    obtain ⟨e, he, ee⟩ := List.mem_map.mp ha
    exact hn (List.any_eq_true.mpr ⟨e, he, by simp [ee]⟩)
theorem putS_len (L : Pr) (x : Str) (v : Int) : (putS L x v).length ≤ L.length + 1 := by
  unfold putS
  split
  · rw [List.length_map]
    omega
  · rw [List.length_append]
    exact Nat.le_refl _
theorem expo_put {L : Pr} (hn : (L.map (·.1)).Nodup) (x : Str) (k : Int) (y : Str) : expo (putS L x (expo L x + k)) y = expo L y + (if x = y then k else 0) := by
  have gen : ∀ v, expo (putS L x v) y = expo L y + (if x = y then v - expo L x else 0) := by
    intro v
    unfold putS
    by_cases c : (L.any fun e => decide (e.1 = x)) = true
    · rw [if_pos c]
      obtain ⟨e0, he0, ee0⟩ := List.any_eq_true.mp c
      have ee1 : e0.1 = x := by simpa using ee0
      clear c ee0
      induction L with
      | nil => cases he0
      | cons e r ih =>
        rw [List.map_cons] at hn
        obtain ⟨n1, n2⟩ := List.nodup_cons.mp hn
        by_cases z : e.1 = x
        · have same : (r.map fun f => if f.1 = x then (f.1, v) else f) = r := by
            conv => rhs; rw [← List.map_id r]
            refine List.map_congr_left fun f hf => ?_
            rw [if_neg fun q => n1 (by rw [z, ← q]; exact List.mem_map.mpr ⟨f, hf, rfl⟩)]
            rfl
          have z0 : expo r x = 0 := expo_zero fun f hf q => n1 (by rw [z, ← q]; exact List.mem_map.mpr ⟨f, hf, rfl⟩)
          rw [List.map_cons, if_pos z, same]
          show (if e.1 = y then v else 0) + expo r y = (if e.1 = y then e.2 else 0) + expo r y + (if x = y then v - ((if e.1 = x then e.2 else 0) + expo r x) else 0)
          rw [if_pos z, z0, z]
          split <;> omega
        · rw [List.map_cons, if_neg z]
          rcases List.mem_cons.mp he0 with q | q
          · subst q
            exact absurd ee1 z
          · show (if e.1 = y then e.2 else 0) + _ = (if e.1 = y then e.2 else 0) + expo r y + (if x = y then v - ((if e.1 = x then e.2 else 0) + expo r x) else 0)
            rw [ih n2 q, if_neg z]
            split <;> split <;> omega
    · rw [if_neg c, expo_append]
      have z0 : expo L x = 0 := expo_zero fun f hf q => c (List.any_eq_true.mpr ⟨f, hf, by simp [q]⟩)
      rw [z0]
      show expo L y + ((if x = y then v else 0) + 0) = _
      split <;> omega
  rw [gen]
  split <;> omega
section
variable {X : Cx}
/-- y = {k: v for ..} on one row, y a local name, keys texts or numbers -/
theorem ps_setDc {i : Nat} {y : Str} {py : Pos} {kx vx tg iter : Expr} {ifs : List Expr} {scope : Scope} {own : List (Str × Nat)} {pos spos : Pos} {wi : TI} {g : TG} {tt : TT} {tk tv : TE} (hc : X.calm = true) (hN : X.N.Nodup)
    (hy : X.N[i]? = some y) (hyl : X.env.scope.names.lookup y = some .local) (hsw : swapsWith (.DictComp kx vx [⟨tg, iter, ifs, 0⟩] scope pos) (some (.Name y py)) spos.line X.env = pure true) (hi : PI X tg iter wi) (ok : BlkOk X.N X.env.scope scope own)
    (hg : ∀ (s : Shared) (H : Hp) (C : Addr) (cl : List (Str × Addr)) (fp : List Addr), PG (X.blk s H scope (compEnvC scope cl C X.env) fp) tg g) (ht : ∀ (s : Shared) (H : Hp) (C : Addr) (cl : List (Str × Addr)) (fp : List Addr), PTs (X.blk s H scope (compEnvC scope cl C X.env) fp) ifs tt)
    (hk : ∀ (s : Shared) (H : Hp) (C : Addr) (cl : List (Str × Addr)) (fp : List Addr), PE (X.blk s H scope (compEnvC scope cl C X.env) fp) kx tk) (he : ∀ (s : Shared) (H : Hp) (C : Addr) (cl : List (Str × Addr)) (fp : List Addr), PE (X.blk s H scope (compEnvC scope cl C X.env) fp) vx tv)
    (hs : ∀ x, foldedSetIterable iter X.env x = pure x := by intro _; rfl) : PS X (.Assign [.Name y py] (.DictComp kx vx [⟨tg, iter, ifs, 0⟩] scope pos) spos) (tAsg (tDc wi g tt tk tv (own.map (·.2))) (gName i)) := by
  refine ⟨fun pins s σ H D I h => ?_⟩
  rw [exec_Assign_Name_used _ _ _ _ hsw]
  refine wpAny_bind (wpAny_standAt (wpAny_bind ?_))
  show wpAny _ X.A (do let _ ← comprehension (.DictComp kx vx [⟨tg, iter, ifs, 0⟩] scope pos) scope X.env (firstIterPos [⟨tg, iter, ifs, 0⟩] pos) newDict false (eval iter X.env) (some (assign (.Name y py) X.env))) _ _ s
  have h' : tDc wi g tt tk tv (own.map (·.2)) σ H (fun x H1 => gName i x σ H1 D.nx) := h
  refine wpAny_bind (thn (dc_core (Qf := fun _ s' => SP X pins D .next s') hc hN I hi ok hg ht hk he hs h' fun L C s' m H' I' q hn ⟨f0, f1, f2, f3, f4, f5⟩ => ?_) fun _ s' hq => wpAny_pure (wpAny_pure hq))
  show wpAny _ _ (assign (.Name y py) X.env (.ref L)) _ _ _
  refine wpAny_assign_Name (store_ok2 (v := V.ref L) I' hN hy (.inl hyl) rfl (fun s2 I2 ⟨a, sb, ha⟩ => ⟨m, hn.sameBut sb ?_, fun h3 sb3 => ⟨_, H', I2.turned (t' := s2.toks) (fun b o hb e => (sb3.2 b hb).trans e) f0 f1 f3 f4 f5, q⟩⟩) (.inr hyl))
  rcases ha with z | z
  · rw [z]
    exact f1
  · exact fun e => f4 y a z e.symm
end
/-! ### the product of two products -/
theorem Paired.ixR {K : PySem.W.Frag} {H : Hp} {qs : List Addr} {m : Pr} (h : Paired (PairAt K H) qs m) {i : Nat} {x : V} (hx : (qs.map V.ref)[i]? = some x) : ∃ q e, x = .ref q ∧ m[i]? = some e ∧ PairAt K H q e := by
  rw [List.getElem?_map] at hx
  cases hq : qs[i]? with
  | none =>
    rw [hq] at hx
    cases hx
  | some q =>
    rw [hq] at hx
    obtain ⟨e, he, pe⟩ := paired_get h hq
    exact ⟨q, e, (Option.some.inj hx).symm, he, pe⟩
theorem take_putS {L : Pr} (hn : (L.map (·.1)).Nodup) {i : Nat} {e : Str × Int} (h : L[i]? = some e) : putS (L.take i) e.1 e.2 = L.take (i + 1) := by
  unfold putS
  rw [if_neg, List.take_add_one, h]
  · rfl
  · intro z
    obtain ⟨f, hf, ef⟩ := List.any_eq_true.mp z
    obtain ⟨j, hj⟩ := List.mem_iff_getElem?.mp hf
    rw [List.getElem?_take] at hj
    split at hj
    · rename_i lt
      have a : (L.map (·.1))[j]? = some e.1 := by rw [List.getElem?_map, hj]; simpa using ef
      have b : (L.map (·.1))[i]? = some e.1 := by rw [List.getElem?_map, h]; rfl
      have := nd_ix hn a b
      omega
    · cases hj
theorem expo_take {q : Pr} {i : Nat} {e : Str × Int} (h : q[i]? = some e) (x : Str) : expo (q.take (i + 1)) x = expo (q.take i) x + (if e.1 = x then e.2 else 0) := by
  rw [List.take_add_one, h, expo_append]
  show _ + ((if e.1 = x then e.2 else 0) + 0) = _
  omega
theorem dSI_len (L : Pr) : (dSI L).length = L.length := List.length_map ..
section
variable {P : Program} {w : World} {K : PySem.W.Frag} {mg : Str → Option Value} {base : Heap} {C : Addr}
theorem room1 {A : Around} {k : Nat} (hr : Room k A) : A.units + 1 < cLine := by
  have := hr.un
  omega
def spJoin (K : PySem.W.Frag) : Sp := fun vs H Q _ => ∃ (a b : Addr) (p q : Pr), vs = [.ref a, .ref b] ∧ ProdAt K H a p ∧ ProdAt K H b q ∧ Canon p ∧ Canon q ∧ p.length + q.length < 64 ∧ ∀ (r : Addr) (H' : Hp), ProdAt K H' r (joinP p q) → Same H H' → Q (.ref r) H'
theorem ok_joined {f : Addr} {fd : FuncData} (T : Txt K mg C) (F : DefAt K mg "_joined" "_joined" s_joined ["one", "other"] f fd) : FnOk P w K mg base CX0 1 f fd ["one", "other"] (spJoin K) := by
  refine F.F.ok sc_joined (fun vs H Q E h => ?_) (fun cdv A outer s H vs Q E hr h => ?_)
  · obtain ⟨a, b, p, q, rfl, _⟩ := h
    rfl
  · obtain ⟨a, b, p, q, rfl, ⟨ps, hp, pp⟩, ⟨qs, hq, pq⟩, cp, cq, hl, k⟩ := h
    refine ⟨_, (pss_cons (ps_setDc (i := 4) (own := [("name", 2), ("power", 3)]) (g := gTup K 2 (gCons (gName 2) (gCons (gName 3) gNil))) (tt := tYes) rfl sc_joined.nd rfl rfl (sw_trueD rfl rfl rfl (by decide +kernel)) (pi_tup (pv 0)) (blkOk_by (own := [("name", 2), ("power", 3)]) (N := ["one", "other", "name", "power", "powers"]) (sc := defScope s_joined) (by decide +kernel)) (fun _ _ _ _ _ => (pg_tup (by rfl) (pgs_cons (pg_name (i := 2) sc_joined.nd rfl (.inl rfl)) (pgs_cons (pg_name (i := 3) sc_joined.nd rfl (.inl rfl)) pgs_nil)))) (fun _ _ _ _ _ => pts_nil) (fun _ _ _ _ _ => (pv 2)) (fun _ _ _ _ _ => (pv 3)))
      (pss_cons (ps_for PassesOwn.never rfl (pi_tup (pv 1)) (pg_tup (by rfl) (pgs_cons (pg_name (i := 2) sc_joined.nd rfl (.inl rfl)) (pgs_cons (pg_name (i := 3) sc_joined.nd rfl (.inl rfl)) pgs_nil))) (pss_one (ps_dput (room1 hr) (pv 4) (pv 2) (pe_op op_add (pe_dget2 (room1 hr) (pv 4) (pv 2) pe_int ⟨rfl, rfl, rfl, rfl⟩) (pv 3)) rfl)))
      (pss_one (ps_ret (pe_tupleOf (by rfl) T.m_tuple (pe_callB (cr_sortedK rfl) (by rfl) T.m_sorted (by decide +kernel) (pa_cons (pe_bm0 PySem.F.plainAttrs_dict PySem.F.slot_dict_items PySem.F.type_dict_items mt_itemsK (pv 4)) pa_nil))))))), ?_⟩
    have lp : ps.length = p.length := Paired.length pp
    have lq : qs.length = q.length := Paired.length pq
    refine ⟨_, rfl, a, rfl, ⟨_, hp⟩, fun D nD => dc_tup (fun i H2 => H2 D = some (.dK (dSI (p.take i))) ∧ Same H H2) ⟨by rw [List.take_zero]; exact upd_same, same_upd nD⟩ (fun i H2 _ z => SqT.keeps hp (TupsStay.same z.2)) ?_ ?_⟩
    · rintro i x H2 hx ⟨e2, s2⟩
      obtain ⟨qa, e, rfl, he, hqa⟩ := Paired.ixR pp hx
      refine ⟨qa, _, rfl, SqT.keeps hqa (TupsStay.same s2), rfl, _, [.int e.2], rfl, _, [], rfl, rfl, rfl, ?_⟩
      unfold tYes
      simp only [↓reduceIte]
      refine ⟨_, rfl, _, rfl, dSI (p.take i), .inr e.1, rfl, e2, ?_, ?_⟩
      · rw [dSI_len, List.length_take, sizeLine_eq]
        omega
      · rw [dSI_put, take_putS cp.nodup he]
        refine ⟨upd_same, fun c u ec => ?_⟩
        rw [upd_ne (ne_of_none ec nD)]
        exact s2 _ _ ec
    · rintro H2 ⟨e2, s2⟩
      rw [List.length_map, lp, List.take_length] at e2
      refine ⟨_, rfl, b, rfl, ⟨_, SqT.keeps hq (TupsStay.same s2)⟩, for_tup (fun i σ H3 => ∃ (v2 v3 : Option V) (L : Pr), σ = [some (.ref a), some (.ref b), v2, v3, some (.ref D)] ∧ H3 D = some (.dK (dSI L)) ∧ (L.map (·.1)).Nodup ∧ L.length ≤ p.length + i ∧ (∀ x, expo L x = expo p x + expo (q.take i) x) ∧ (∀ e ∈ L, 1 ≤ e.2) ∧ Else D H2 H3)
        ⟨_, _, p, rfl, e2, cp.nodup, Nat.le_refl _, fun x => by rw [List.take_zero]; show _ = _ + (0 : Int); omega, cp.one, .refl _ _⟩ (fun i σ H3 _ ⟨_, _, _, _, _, _, _, _, _, z⟩ => SqT.keeps (SqT.keeps hq (TupsStay.same s2)) (z.tups e2 True.intro)) ?_ ?_⟩
      · rintro i x σ H3 hx ⟨v2, v3, L, rfl, e3, nL, lL, xL, oL, el⟩
        obtain ⟨qa, e, rfl, he, hqa⟩ := Paired.ixR pq hx
        have hi : i < q.length := (List.getElem?_eq_some_iff.mp he).1
        have mem : e ∈ q := List.mem_of_getElem? he
        refine ⟨qa, _, rfl, SqT.keeps (SqT.keeps hqa (TupsStay.same s2)) (el.tups e2 True.intro), rfl, _, [.int e.2], rfl, _, [], rfl, rfl, ?_⟩
        refine ⟨_, rfl, D, rfl, .inl ⟨_, .inl e3⟩, _, rfl, _, DGet.k (k := .inr e.1) e3, ?_⟩
        rw [valV_dSI nL]
        refine ⟨_, rfl, _, _, rfl, rfl, _, rfl, _, rfl, D, _, rfl, DPut.k (k := .inr e.1) e3 ?_, ?_⟩
        · rw [dSI_len, sizeLine_eq]
          omega
        · refine ⟨_, _, putS L e.1 (expo L e.1 + e.2), rfl, by rw [← dSI_put]; exact upd_same, putS_nodup _ _ nL, ?_, fun x => ?_, fun g hg => ?_, el.trans .upd⟩
          · have := putS_len L e.1 (expo L e.1 + e.2)
            omega
          · rw [expo_put nL, xL, expo_take he]
            omega
          · rcases putS_keys L e.1 _ g hg with z | z
            · rw [z]
              have a1 := expo_nonneg oL e.1
              have a2 := cq.one e mem
              show 1 ≤ expo L e.1 + e.2
              omega
            · exact oL g z
      · rintro σ H3 ⟨v2, v3, L, rfl, e3, nL, lL, xL, oL, el⟩
        rw [List.length_map, lq] at lL xL
        rw [List.take_length] at xL
        refine ⟨_, rfl, .inr (.inr (.inl ⟨rfl, .inl ⟨_, e3⟩⟩)), D, _, rfl, rfl, e3, fun vw nv => ?_⟩
        have s3 : Same H3 (upd H3 vw (DX.itemsO vw D)) := same_upd nv
        refine ⟨vw, D, L, rfl, upd_same, s3 _ _ e3, by omega, fun H4 l zs s4 pm up nl el4 tz => ?_⟩
        refine .inl ⟨l, _, rfl, SqL.of el4, fun r nr => ?_⟩
        have sr : Same H4 (upd H4 r (.tup (zs.map fun z => V.ref z.1))) := same_upd nr
        have can : Canon (zs.map (·.2)) := ⟨up, fun e he => oL e (pm.mem_iff.mp he)⟩
        have ej : joinP p q = zs.map (·.2) := canon_eq (cq.join cp.one) can fun x => by rw [expo_join, expo_perm pm, xL]
        refine k r _ ?_ ?_
        · rw [ej]
          refine ⟨zs.map (·.1), SqT.of (by rw [upd_same, List.map_map]; rfl), ?_⟩
          have gen : ∀ ys : List (Addr × Str × Int), (∀ z ∈ ys, z ∈ zs) → Paired (PairAt K (upd H4 r (.tup (zs.map fun z => V.ref z.1)))) (ys.map (·.1)) (ys.map (·.2)) := by
            intro ys
            induction ys with
            | nil => exact fun _ => .nil
            | cons y r' ih => exact fun h => .cons (SqT.of (sr _ _ (tz y (h y (by simp))))) (ih fun z hz => h z (by simp [hz]))
          exact gen zs fun z h => h
        · exact (((Else.fresh nD s2 el).trans s3).trans s4).trans sr
end
/-! ### one sum, as often as the other tells -/
def rowM (x : Pr × Rat) (N : Poly) : Poly := N.map fun y => (joinP x.1 y.1, x.2 * y.2)
def crossM (M N : Poly) : Poly := M.flatMap fun x => rowM x N
def mulM (M N : Poly) : Poly := sumM [] (crossM M N)
theorem crossM_take {M N : Poly} {i : Nat} {x : Pr × Rat} (h : M[i]? = some x) : crossM (M.take (i + 1)) N = crossM (M.take i) N ++ rowM x N := by
  unfold crossM
  rw [List.take_add_one, h, List.flatMap_append]
  simp
theorem crossM_pre (M N : Poly) (i : Nat) : crossM (M.take i) N <+: crossM M N := by
  refine ⟨crossM (M.drop i) N, ?_⟩
  unfold crossM
  rw [← List.flatMap_append, List.take_append_drop]
theorem rowM_at {x : Pr × Rat} {N : Poly} {j : Nat} {y : Pr × Rat} (h : N[j]? = some y) : (rowM x N)[j]? = some (joinP x.1 y.1, x.2 * y.2) := by
  unfold rowM
  rw [List.getElem?_map, h]
  rfl
theorem rowM_len (x : Pr × Rat) (N : Poly) : (rowM x N).length = N.length := List.length_map _
theorem crossM_len (M N : Poly) : (crossM M N).length = M.length * N.length := by
  unfold crossM
  induction M with
  | nil => simp
  | cons x r ih => rw [List.flatMap_cons, List.length_append, ih, rowM_len, List.length_cons, Nat.succ_mul, Nat.add_comm]
theorem szM_pre {D : Nat} {l L : Poly} (h : l <+: L) : szM D l ≤ szM D L ∧ l.length ≤ L.length := by
  obtain ⟨t, rfl⟩ := h
  rw [szM_append, List.length_append]
  omega
theorem crossM_parts {A : Pr → Prop} {M N : Poly} {D E : Nat} (hM : ∀ x ∈ M, A x.1 ∧ Whole D x.2) (hN : ∀ x ∈ N, A x.1 ∧ Whole E x.2) (hA : ∀ a b, A a → A b → A (joinP a b)) : ∀ x ∈ crossM M N, A x.1 ∧ Whole (D * E) x.2 := by
  intro z hz
  obtain ⟨x, hx, hz⟩ := List.mem_flatMap.mp hz
  obtain ⟨y, hy, e⟩ := List.mem_map.mp hz
  subst e
  exact ⟨hA _ _ (hM x hx).1 (hN y hy).1, ((hM x hx).2.mul (hN y hy).2).1⟩
theorem szM_cross {M N : Poly} {D E : Nat} (hM : ∀ x ∈ M, Whole D x.2) (hN : ∀ x ∈ N, Whole E x.2) : szM (D * E) (crossM M N) = szM D M * szM E N := by
  unfold crossM
  induction M with
  | nil => rw [szM_nil, Nat.zero_mul]; rfl
  | cons x r ih =>
    rw [List.flatMap_cons, szM_append, ih fun y hy => hM y (by simp [hy]), szM_cons, Nat.add_mul]
    have row : szM (D * E) (rowM x N) = mag D x.2 * szM E N := by
      unfold rowM
      have wx := hM x (by simp)
      clear ih hM
      induction N with
      | nil => rfl
      | cons y s ih2 =>
        rw [List.map_cons, szM_cons, szM_cons, ih2 fun z hz => hN z (by simp [hz]), Nat.mul_add]
        show mag (D * E) (x.2 * y.2) + _ = _
        rw [(wx.mul (hN y (by simp))).2]
    rw [row]
theorem lin_cross (f : Pr → Rat) (M N : Poly) : lin f (crossM M N) = lin (fun a => lin (fun b => f (joinP a b)) N) M := by
  unfold crossM
  induction M with
  | nil => rfl
  | cons x r ih =>
    rw [List.flatMap_cons, lin_append, ih, lin_cons]
    have row : lin f (rowM x N) = x.2 * lin (fun b => f (joinP x.1 b)) N := by
      unfold rowM
      clear ih
      induction N with
      | nil =>
        show (0 : Rat) = x.2 * 0
        grind
      | cons y s ih2 =>
        rw [List.map_cons, lin_cons, lin_cons, ih2]
        show x.2 * y.2 * f (joinP x.1 y.1) + _ = _
        grind
    rw [row]
theorem lin_mul (f : Pr → Rat) (M N : Poly) : lin f (mulM M N) = lin (fun a => lin (fun b => f (joinP a b)) N) M := by
  unfold mulM
  rw [lin_sumM f (M := []) (crossM M N) List.nodup_nil, lin_cross, lin_nil]
  grind
theorem Fit.mul {A : Pr → Prop} {n m D E S R : Nat} {M N : Poly} (hM : Fit A n D S M) (hN : Fit A m E R N) (hA : ∀ a b, A a → A b → A (joinP a b)) : Fit A (n * m) (D * E) (S * R) (mulM M N) := by
  have z := Fit.sum (crossM M N) (Fit.nil (A := A) (n := 0) (D := D * E) (S := 0)) (crossM_parts hM.parts hN.parts hA)
  rw [crossM_len, szM_cross hM.wh hN.wh] at z
  refine z.mono ?_ ?_
  · rw [Nat.zero_add]
    exact Nat.mul_le_mul hM.len hN.len
  · rw [Nat.zero_add]
    exact Nat.mul_le_mul hM.sz hN.sz
section
variable {P : Program} {w : World} {K : PySem.W.Frag} {mg : Str → Option Value} {base : Heap} {C : Addr}
def spTimed (K : PySem.W.Frag) (w : World) (C : Addr) : Sp := fun vs H Q _ => ∃ (p q : Addr) (M N : Poly) (A : Pr → Prop) (n m D E S R : Nat), vs = [.ref p, .ref q] ∧ SumAt K w C H p M ∧ SumAt K w C H q N ∧ Fit A n D S M ∧ Fit A m E R N ∧ 0 < D ∧ 0 < E ∧ D * E < big ∧ S < big ∧ R < big ∧ S * R < big ∧ n * m < sizeLine ∧
  (∀ a b, A a → A b → A (joinP a b)) ∧ (∀ a, A a → Canon a ∧ a.length < 32) ∧ ∀ x H', SumAt K w C H' x (mulM M N) → Same H H' → H x = none → Q (.ref x) H'
theorem ok_timed {f : Addr} {fd : FuncData} (T : Txt K mg C) (F : DefAt K mg "timed" "timed" s_timed ["one", "other"] f fd) : FnOk P w K mg base CX0 4 f fd ["one", "other"] (spTimed K w C) := by
  obtain ⟨f1, fd1, D_put_to⟩ := T.d_put_to
  have G_put_to : FnOk P w K mg base CX0 3 f1 fd1 ["shares", "key", "part"] (spPut K w) := ok_put_to T D_put_to
  obtain ⟨f3, fd3, D_times⟩ := T.d_times
  have G_times : FnOk P w K mg base CX0 2 f3 fd3 ["one", "other"] (spRat K (· * ·)) := ok_times T D_times
  obtain ⟨f4, fd4, D_joined⟩ := T.d_joined
  have G_joined : FnOk P w K mg base CX0 1 f4 fd4 ["one", "other"] (spJoin K) := ok_joined T D_joined
  obtain ⟨f2, fd2, M_Sum, FI, b_Sum_init⟩ := T.mk_Sum
  have G_Sum_init : FnOk P w K mg base CX0 1 f2 fd2 ["self", "parts"] (spInit K w C) := ok_Sum_init T FI
  refine F.F.ok sc_timed (fun vs H Q E h => ?_) (fun cdv A outer s H vs Q E hr h => ?_)
  · obtain ⟨p, q, M, N, A, n, m, D, E, S, R, rfl, _⟩ := h
    rfl
  · obtain ⟨p, q, M, N, B, n, m, D, E', S, R, rfl, ap, aq, fM, fN, hD, hE, hDE, hS, hR, hSR, hn, hB, hC, k⟩ := h
    obtain ⟨dx, d1, o1, L1, e1, n1, r1⟩ := id ap
    obtain ⟨dy, d2, o2, L2, e2, n2, r2⟩ := id aq
    have l1 : L1.length = M.length := Paired.length r1
    have l2 : L2.length = N.length := Paired.length r2
    have hD0 : D < big := Nat.lt_of_le_of_lt (Nat.le_mul_of_pos_right D hE) hDE
    have hE0 : E' < big := Nat.lt_of_le_of_lt (Nat.le_mul_of_pos_left E' hD) hDE
    have cp := crossM_parts fM.parts fN.parts hB
    have csz : szM (D * E') (crossM M N) ≤ S * R := by rw [szM_cross fM.wh fN.wh]; exact Nat.mul_le_mul fM.sz fN.sz
    have cln : (crossM M N).length ≤ n * m := by rw [crossM_len]; exact Nat.mul_le_mul fM.len fN.len
    refine ⟨_, (pss_cons (ps_set (i := 2) sc_timed.nd rfl (.inl rfl) pe_newN)
      (pss_cons (ps_for PassesOwn.never rfl (pi_itemsN (pe_fld (pv 0) rfl)) (pg_tup (by rfl) (pgs_cons (pg_name (i := 3) sc_timed.nd rfl (.inl rfl)) (pgs_cons (pg_name (i := 4) sc_timed.nd rfl (.inl rfl)) pgs_nil))) (pss_one (ps_for PassesOwn.never rfl (pi_itemsN (pe_fld (pv 1) rfl)) (pg_tup (by rfl) (pgs_cons (pg_name (i := 5) sc_timed.nd rfl (.inl rfl)) (pgs_cons (pg_name (i := 6) sc_timed.nd rfl (.inl rfl)) pgs_nil))) (pss_one (ps_expr (pe_call G_put_to (hr.mono (by decide)) (by rfl) D_put_to.g D_put_to.F.kp D_put_to.b .nil pass0 (pa_cons (pv 2) (pa_cons (pe_call G_joined (hr.mono (by decide)) (by rfl) D_joined.g D_joined.F.kp D_joined.b .nil pass0 (pa_cons (pv 3) (pa_cons (pv 5) pa_nil))) (pa_cons (pe_call G_times (hr.mono (by decide)) (by rfl) D_times.g D_times.F.kp D_times.b .nil pass0 (pa_cons (pv 4) (pa_cons (pv 6) pa_nil))) pa_nil)))))))))
      (pss_one (ps_ret (pe_make M_Sum G_Sum_init (hr.mono (by decide)) (by rfl) T.g_Sum b_Sum_init .nil pass0 (pa_cons (pv 2) pa_nil)))))), ?_⟩
    intro D' nD sD
    have s0 : Same H (upd H D' (ndO w D' [])) := same_upd nD
    have e0 : (upd H D' (ndO w D' [])) D' = some (ndO w D' []) := upd_same
    have nd0 : ND K w (upd H D' (ndO w D' [])) D' [] := .new sD
    have n1' := n1.stay (.same s0) fun o e => s0 _ _ e
    have n2' := n2.stay (.same s0) fun o e => s0 _ _ e
    have r1' := r1.stay (.same s0)
    have r2' := r2.stay (.same s0)
    have e1' := s0 _ _ e1
    have e2' := s0 _ _ e2
    refine ⟨_, rfl, p, C, dx, _, _, rfl, e1', T.cl_Sum, T.n_Sum_parts, sumF_parts _, d1, o1, L1, rfl, n1', for_itemsN (fun i σ H3 => ∃ v3 v4 v5 v6 : Option V, σ = [some (.ref p), some (.ref q), some (.ref D'), v3, v4, v5, v6] ∧ PartsAt K w H3 D' (sumM [] (crossM (M.take i) N)) ∧ Else D' (upd H D' (ndO w D' [])) H3)
      ⟨none, none, none, none, rfl, ⟨[], nd0, .nil⟩, .refl _ _⟩ (fun i σ H3 _ ⟨_, _, _, _, _, _, z⟩ => PartsAt.elseNF n1' nd0 z) ?_ ?_⟩
    · rintro i kk v σ H3 Tt b hL ⟨v3, v4, v5, v6, rfl, pM, el⟩ nT hb
      obtain ⟨x, r, hMi, rfl, hq⟩ := r1'.at_ hL
      have memM : (kk, r) ∈ M := List.mem_of_getElem? hMi
      have sT : Same H3 (upd H3 Tt (.tup [.ref b, .ref x])) := same_upd nT
      refine ⟨Tt, [.ref b, .ref x], rfl, SqT.of upd_same, rfl, _, [.ref x], rfl, _, [], rfl, rfl, ?_⟩
      have el3 : Else D' (upd H D' (ndO w D' [])) (upd H3 Tt (.tup [.ref b, .ref x])) := el.same sT
      have hb3 : ProdAt K (upd H3 Tt (.tup [.ref b, .ref x])) b kk := hb.stay (.same sT)
      have hq3 : SqT K (upd H3 Tt (.tup [.ref b, .ref x])) x (ratV r) := SqT.keeps hq (el3.tups e0 True.intro)
      have p3 := pM.stay (.same sT) fun u e => sT _ _ e
      generalize (upd H3 Tt (.tup [.ref b, .ref x])) = H4 at el3 hb3 hq3 p3
      obtain ⟨L3, nd3, r3⟩ := id p3
      obtain ⟨xs3, ed3, na3⟩ := id nd3
      have n24 := PartsAt.elseNF n2' nd0 el3
      have pq2 : q ≠ D' := ne_of e2' e0 (by intro z; cases z)
      refine ⟨_, rfl, q, C, dy, _, _, rfl, el3 _ _ e2' pq2, T.cl_Sum, T.n_Sum_parts, sumF_parts _, d2, o2, L2, rfl, n24, for_itemsN (fun j σ H5 => ∃ v5 v6 : Option V, σ = [some (.ref p), some (.ref q), some (.ref D'), some (.ref b), some (.ref x), v5, v6] ∧ PartsAt K w H5 D' (sumM [] (crossM (M.take i) N ++ (rowM (kk, r) N).take j)) ∧ Else D' H4 H5)
        ⟨v5, v6, rfl, by rw [List.take_zero, List.append_nil]; exact p3, .refl _ _⟩ (fun j σ H5 _ ⟨_, _, _, _, z⟩ => PartsAt.elseNF n24 nd3 z) ?_ ?_⟩
      · rintro j k2 v2 σ H5 Tu b2 hL2 ⟨v5, v6, rfl, pM2, el5⟩ nU hb2
        obtain ⟨x2, r2r, hNj, rfl, hq2⟩ := r2'.at_ hL2
        have memN : (k2, r2r) ∈ N := List.mem_of_getElem? hNj
        have sU : Same H5 (upd H5 Tu (.tup [.ref b2, .ref x2])) := same_upd nU
        refine ⟨Tu, [.ref b2, .ref x2], rfl, SqT.of upd_same, rfl, _, [.ref x2], rfl, _, [], rfl, rfl, ?_⟩
        have el6 : Else D' H4 (upd H5 Tu (.tup [.ref b2, .ref x2])) := el5.same sU
        have t46 : TupsStay H4 (upd H5 Tu (.tup [.ref b2, .ref x2])) := el6.tups ed3 True.intro
        have t26 : TupsStay (upd H D' (ndO w D' [])) (upd H5 Tu (.tup [.ref b2, .ref x2])) := (el3.trans el6).tups e0 True.intro
        have hb6 : ProdAt K (upd H5 Tu (.tup [.ref b2, .ref x2])) b kk := hb3.stay t46
        have hq6 : SqT K (upd H5 Tu (.tup [.ref b2, .ref x2])) x (ratV r) := SqT.keeps hq3 t46
        have hb26 : ProdAt K (upd H5 Tu (.tup [.ref b2, .ref x2])) b2 k2 := hb2.stay (.same sU)
        have hq26 : SqT K (upd H5 Tu (.tup [.ref b2, .ref x2])) x2 (ratV r2r) := SqT.keeps hq2 t26
        have p6 := pM2.stay (.same sU) fun u e => sU _ _ e
        generalize (upd H5 Tu (.tup [.ref b2, .ref x2])) = H6 at el6 hb6 hq6 hb26 hq26 p6
        have a1 := hC _ (fM.parts _ memM).1
        have a2 := hC _ (fN.parts _ memN).1
        refine ⟨_, rfl, _, rfl, _, rfl, b, b2, kk, k2, rfl, hb6, hb26, a1.1, a2.1, Nat.lt_of_lt_of_le (Nat.add_lt_add a1.2 a2.2) (by decide), fun jr H7 pj s67 => ?_⟩
        have wr := fM.one (x := (kk, r)) memM
        have wr2 := fN.one (x := (k2, r2r)) memN
        refine ⟨_, rfl, _, rfl, x, x2, r, r2r, 4000, 4000, rfl, SqT.keeps hq6 (TupsStay.same s67), SqT.keeps hq26 (TupsStay.same s67), .small hD hD0 wr.1 (Nat.lt_of_le_of_lt wr.2 hS), .small hE hE0 wr2.1 (Nat.lt_of_le_of_lt wr2.2 hR), by decide, by decide, by decide, fun t H8 s78 nt et => ?_⟩
        have s68 := s67.trans s78
        have at3 : (rowM (kk, r) N)[j]? = some (joinP kk k2, r * r2r) := rowM_at hNj
        have pre1 : crossM (M.take i) N ++ (rowM (kk, r) N).take (j + 1) <+: crossM M N := by
          refine List.IsPrefix.trans ?_ (crossM_pre M N (i + 1))
          rw [crossM_take hMi]
          exact (List.prefix_append_right_inj _).mpr (List.take_prefix _ _)
        have mem3 : (joinP kk k2, r * r2r) ∈ crossM M N := pre1.subset (List.mem_append_right _ (by rw [List.take_add_one, at3]; simp))
        have pre0 : crossM (M.take i) N ++ (rowM (kk, r) N).take j <+: crossM M N := by
          refine List.IsPrefix.trans ?_ (crossM_pre M N (i + 1))
          rw [crossM_take hMi]
          exact (List.prefix_append_right_inj _).mpr (List.take_prefix _ _)
        have fi := Fit.sum (crossM (M.take i) N ++ (rowM (kk, r) N).take j) (Fit.nil (A := B) (n := 0) (D := D * E') (S := 0)) fun y hy => cp y (pre0.subset hy)
        have sp := szM_pre (D := D * E') pre0
        have mg3 : mag (D * E') (r * r2r) ≤ szM (D * E') (crossM M N) := mag_le_szM (x := (joinP kk k2, r * r2r)) mem3
        refine ⟨D', jr, t, joinP kk k2, r * r2r, _, B, _, D * E', _, rfl, p6.stay (.same s68) fun u e => s68 _ _ e, fi, pj.stay (.same s78), SqT.of et, (cp _ mem3).2, Nat.mul_pos hD hE, hDE, by omega, by omega, by omega, fun H' pM' el' => ?_⟩
        refine ⟨_, _, rfl, ?_, (el6.same s68).trans el'⟩
        rw [List.take_add_one, at3, ← List.append_assoc, sumM_append]
        exact pM'
      · rintro σ H5 ⟨v5, v6, rfl, pM2, el5⟩
        rw [l2, ← rowM_len (kk, r) N, List.take_length, ← crossM_take hMi] at pM2
        exact ⟨_, _, _, _, rfl, pM2, el3.trans el5⟩
    · rintro σ H3 ⟨v3, v4, v5, v6, rfl, pM, el⟩
      rw [l1, List.take_length] at pM
      have s3 : Same H H3 := Else.fresh nD s0 el
      refine ⟨_, rfl, fun x dx nx ndx nex => ⟨x, dx, D', _, rfl, upd_same, pM.made nx ndx, fun H4 sA kp => ⟨rfl, ?_⟩⟩⟩
      exact k x H4 sA (s3.trans (Same.made nx ndx kp)) (s3.free nx)
end
/-! ### the draws -/
/-- the three cells of the drawing: a seed, the list of what is left of the script, a place -/
structure HAt (H : Hp) (h c : Addr) (s k : Int) (cs : List Int) : Prop where
  h : H h = some (.lst [.int s, .ref c, .int k])
  c : H c = some (.lst (cs.map V.int))
  n : cs.length ≤ 63
theorem HAt.ne {H : Hp} {h c : Addr} {s k : Int} {cs : List Int} (D : HAt H h c s k cs) : h ≠ c := by
  refine ne_of D.h D.c (fun e => ?_)
  cases cs with
  | nil => cases e
  | cons x r =>
    cases r with
    | nil => cases e
    | cons y r => cases e
/-- all that was tracked is as it was, but for the drawing's two lists -/
def But (h c : Addr) (H H' : Hp) : Prop := ∀ b o, H b = some o → b ≠ h → b ≠ c → H' b = some o
theorem But.refl (h c : Addr) (H : Hp) : But h c H H := fun _ _ e _ _ => e
theorem But.trans {h c : Addr} {H H1 H2 : Hp} (a : But h c H H1) (b : But h c H1 H2) : But h c H H2 := fun x o e n1 n2 => b x o (a x o e n1 n2) n1 n2
theorem But.same {h c : Addr} {H H1 H2 : Hp} (a : But h c H H1) (b : Same H1 H2) : But h c H H2 := fun x o e n1 n2 => b x o (a x o e n1 n2)
theorem Same.but {h c : Addr} {H H1 : Hp} (a : Same H H1) : But h c H H1 := fun x o e _ _ => a x o e
theorem HAt.same {H H' : Hp} {h c : Addr} {s k : Int} {cs : List Int} (D : HAt H h c s k cs) (e : Same H H') : HAt H' h c s k cs := ⟨e _ _ D.h, e _ _ D.c, D.n⟩
def spNext : Sp := fun vs H Q _ => ∃ (h c : Addr) (s k m : Int) (cs : List Int), vs = [.ref h, .int m] ∧ 0 < m ∧ m < 1073741824 ∧ HAt H h c s k cs ∧
  ∀ (s' k' : Int) (cs' : List Int) (r : Int) (H' : Hp), 0 ≤ r → r < m → HAt H' h c s' k' cs' → But h c H H' → Q (.int r) H'
theorem fmod_lo {x m : Int} (h : 0 < m) : 0 ≤ x.fmod m := by
  rw [Int.fmod_eq_emod_of_nonneg _ (by omega)]
  exact Int.emod_nonneg _ (by omega)
theorem fmod_hi {x m : Int} (h : 0 < m) : x.fmod m < m := by
  rw [Int.fmod_eq_emod_of_nonneg _ (by omega)]
  exact Int.emod_lt_of_pos _ h
theorem max1 (n : Nat) : (if (n : Int) > 1 then (n : Int) else 1) = ((if n > 1 then n else 1 : Nat) : Int) := by
  split <;> split <;> omega
section
variable {P : Program} {w : World} {K : PySem.W.Frag} {mg : Str → Option Value} {base : Heap} {C : Addr}
theorem ok_law_next {f : Addr} {fd : FuncData} (T : Txt K mg C) (D : DefAt K mg "_law_next" "_law_next" s_law_next ["_law_h", "_law_many"] f fd) : FnOk P w K mg base CX0 1 f fd ["_law_h", "_law_many"] spNext := by
  refine D.F.ok sc_law_next (fun vs H Q E h => ?_) (fun cdv A outer s H vs Q E hr h => ?_)
  · obtain ⟨h, c, s, k, m, cs, rfl, _⟩ := h
    rfl
  · obtain ⟨h, c, z, k, m, cs, rfl, m0, m1, A1, q⟩ := h
    refine ⟨_, (pss_cons (ps_set (i := 2) sc_law_next.nd rfl (.inl rfl) (pe_op op_modN (pe_ix ix_list (pv 0) pe_int (fun _ _ => rfl)) (pe_callB (call_max2 rfl) (by rfl) T.m_max (by decide +kernel) (pa_cons pe_int (pa_cons (pe_callB call_len_seq (by rfl) T.m_len (by decide +kernel) (pa_cons (pe_ix ix_list (pv 0) pe_int (fun _ _ => rfl)) pa_nil)) pa_nil)))))
      (pss_cons (ps_set (i := 3) sc_law_next.nd rfl (.inl rfl) (pe_ifExp (pt_cmpR (op_neD hr.units) (pe_ix ix_list (pv 0) pe_int (fun _ _ => rfl)) (pe_lst pa_nil) (nomark _)) (pe_ix ix_list (pe_ix ix_list (pv 0) pe_int (fun _ _ => rfl)) (pv 2) (fun _ _ => rfl)) pe_int))
      (pss_cons (ps_if (pt_cmpR op_ge (pv 3) (pe_op op_pow pe_int pe_int) (nomark _)) (pss_cons (ps_asg (pe_op op_fdivN (pv 3) (pv 1)) (pg_sub (pe_ix ix_list (pv 0) pe_int (fun _ _ => rfl)) (pv 2) set_list)) (pss_one (ps_ret (pe_op op_modN (pv 3) (pv 1))))) pss_nil)
      (pss_cons (ps_asg (pe_op op_mod (pe_op op_add (pe_op op_add (pe_op op_mul (pe_ix ix_list (pv 0) pe_int (fun _ _ => rfl)) pe_int) (pe_op op_mul (pv 3) pe_int)) pe_int) pe_int) (pg_sub (pv 0) pe_int set_list))
      (pss_cons (ps_asg (pe_op op_add (pe_ix ix_list (pv 0) pe_int (fun _ _ => rfl)) pe_int) (pg_sub (pv 0) pe_int set_list))
      (pss_one (ps_ret (pe_op op_modN (pe_op op_fdiv (pe_ix ix_list (pv 0) pe_int (fun _ _ => rfl)) pe_int) (pv 1))))))))), ?_⟩
    have hne := A1.ne
    have lc : (cs.map V.int).length = cs.length := List.length_map _
    -- the place: h[2] % max(1, len(h[1]))
    refine ⟨_, rfl, h, _, _, _, rfl, rfl, SqL.of A1.h, atI_nat (j := 2) rfl, _, rfl, h, _, _, _, rfl, rfl, SqL.of A1.h, atI_nat (j := 1) rfl, c, _, rfl, .inl (SqL.of A1.c), _, _, rfl, _, _, rfl, rfl, ?_, ?_⟩
    · rw [lc, max1]
      split <;> omega
    rw [lc, max1]
    have hat : ∀ x : Int, cs ≠ [] → ∃ j : Nat, x.fmod ((if cs.length > 1 then cs.length else 1 : Nat) : Int) = (j : Int) ∧ j < cs.length := fun x e => by
      have l0 : 0 < cs.length := List.length_pos_iff.mpr e
      have e1 : (if cs.length > 1 then cs.length else 1) = cs.length := by split <;> omega
      rw [e1]
      have a := fmod_lo (x := x) (m := (cs.length : Int)) (by omega)
      have b := fmod_hi (x := x) (m := (cs.length : Int)) (by omega)
      exact ⟨(x.fmod cs.length).toNat, by omega, by omega⟩
    -- the cell
    refine ⟨_, rfl, h, _, _, _, rfl, rfl, SqL.of A1.h, atI_nat (j := 1) rfl, (by show 0 ≤ sizeLine; decide), fun l hl => ?_⟩
    have sl : Same H (upd H l (.lst [])) := same_upd hl
    have A2 := A1.same sl
    have fin : ∀ (s' k' : Int) (cs' : List Int) (r : Int) (H' : Hp), 0 ≤ r → r < m → HAt H' h c s' k' cs' → But h c (upd H l (.lst [])) H' → Q (.int r) H' := fun s' k' cs' r H' r0 r1 A' B' => q s' k' cs' r H' r0 r1 A' ((Same.but sl).trans B')
    refine ⟨_, _, Dp.lst (SqL.of A2.c) (dpInts cs), Dp.lst (SqL.of upd_same) DpAll.nil, shapedInts cs, by decide, _, rfl, ite2 (fun e => ?_) (fun e => ?_)⟩
    rotate_left
    · refine ⟨_, rfl, _, _, rfl, rfl, ⟨by decide, by decide, by decide⟩, _, _, rfl, rfl, _, rfl, ite2 (fun e => absurd (of_decide_eq_true e) (by decide +kernel)) (fun e => ?_)⟩
      refine ⟨_, rfl, h, _, _, _, rfl, rfl, SqL.of A2.h, atI_nat (j := 0) rfl, _, _, rfl, rfl, .inr ⟨by decide, by decide⟩, _, rfl, _, _, rfl, rfl, .inr ⟨by decide, by decide⟩, _, _, rfl, rfl, _, _, rfl, rfl, _, _, rfl, rfl, (by show (0 : Int) < 2147483647; decide), _, rfl, h, _, _, 0, rfl, rfl, A2.h, rfl,
        _, rfl, h, _, _, _, rfl, rfl, SqL.of upd_same, atI_nat (j := 2) rfl, _, _, rfl, rfl, _, rfl, h, _, _, 2, rfl, rfl, upd_same, rfl,
        _, rfl, h, _, _, _, rfl, rfl, SqL.of upd_same, atI_nat (j := 0) rfl, _, _, rfl, rfl, ⟨by decide, by decide⟩, _, rfl, _, _, rfl, rfl, by omega, ?_⟩
      exact fin _ _ cs _ _ (fmod_lo m0) (fmod_hi m0) ⟨upd_same, by rw [upd_ne hne.symm, upd_ne hne.symm]; exact A2.c, A1.n⟩ fun b o e nb nc => by rw [upd_ne nb, upd_ne nb]; exact e
    · have e0 : cs ≠ [] := fun z => by
        subst z
        simp [PyData.eqv, PyData.eqvAll] at e
      obtain ⟨j, ej, hj⟩ := hat k e0
      have gj : (cs.map V.int)[j]? = some (.int cs[j]) := by
        rw [List.getElem?_map, List.getElem?_eq_getElem hj]
        rfl
      refine ⟨_, rfl, h, _, _, _, rfl, rfl, SqL.of A2.h, atI_nat (j := 1) rfl, _, rfl, c, _, _, _, rfl, rfl, SqL.of A2.c, at_of ej gj, _, rfl, _, _, rfl, rfl, ⟨by decide, by decide, by decide⟩, _, _, rfl, rfl, _, rfl, ite2 (fun e => ?_) (fun e => ?_)⟩
      · -- h[1][at] = cell // many; return cell % many
        refine ⟨_, rfl, _, rfl, _, _, rfl, rfl, ⟨by omega, by omega⟩, _, rfl, h, _, _, _, rfl, rfl, SqL.of A2.h, atI_nat (j := 1) rfl, _, rfl, c, _, _, j, rfl, rfl, A2.c, by rw [ej]; exact ixNat (by rw [lc]; exact hj), _, rfl, _, rfl, _, _, rfl, rfl, by omega, ?_⟩
        exact fin z k (cs.set j (cs[j].fdiv m)) _ _ (fmod_lo m0) (fmod_hi m0) ⟨by rw [upd_ne hne]; exact A2.h, by rw [upd_same, List.map_set], by rw [List.length_set]; exact A1.n⟩ fun b o e nb nc => by rw [upd_ne nc]; exact e
      · refine ⟨_, rfl, h, _, _, _, rfl, rfl, SqL.of A2.h, atI_nat (j := 0) rfl, _, _, rfl, rfl, .inr ⟨by decide, by decide⟩, _, rfl, _, _, rfl, rfl, .inr ⟨by decide, by decide⟩, _, _, rfl, rfl, _, _, rfl, rfl, _, _, rfl, rfl, (by show (0 : Int) < 2147483647; decide), _, rfl, h, _, _, 0, rfl, rfl, A2.h, rfl,
          _, rfl, h, _, _, _, rfl, rfl, SqL.of upd_same, atI_nat (j := 2) rfl, _, _, rfl, rfl, _, rfl, h, _, _, 2, rfl, rfl, upd_same, rfl,
          _, rfl, h, _, _, _, rfl, rfl, SqL.of upd_same, atI_nat (j := 0) rfl, _, _, rfl, rfl, ⟨by decide, by decide⟩, _, rfl, _, _, rfl, rfl, by omega, ?_⟩
        exact fin _ _ cs _ _ (fmod_lo m0) (fmod_hi m0) ⟨upd_same, by rw [upd_ne hne.symm, upd_ne hne.symm]; exact A2.c, A1.n⟩ fun b o e nb nc => by rw [upd_ne nb, upd_ne nb]; exact e
end
theorem HAt.set {H : Hp} {h c l : Addr} {s k : Int} {cs : List Int} {o : HO} (D : HAt H h c s k cs) (nh : l ≠ h) (nc : l ≠ c) : HAt (upd H l o) h c s k cs := ⟨by rw [upd_ne nh.symm]; exact D.h, by rw [upd_ne nc.symm]; exact D.c, D.n⟩
/-! ### the names that are drawn -/
def SN (l : List Nat) : Str := ⟨l.toArray⟩
theorem SN_inj {a b : List Nat} (h : SN a = SN b) : a = b := by
  unfold SN at h
  injection h with h
  injection h
theorem SN_list (z : Str) : SN z.cps.toList = z := rfl
theorem SN_cps (l : List Nat) : (SN l).cps.toList = l := rfl
theorem SN_len (l : List Nat) : (SN l).length = l.length := by
  simp [SN, Str.length]
theorem SN_app (a b : List Nat) : SN a ++ SN b = SN (a ++ b) := by
  show (⟨a.toArray ++ b.toArray⟩ : Str) = _
  unfold SN
  simp
def abc : List Nat := ("abcdefghijklmnopqrstuvwxyz" : Str).cps.toList
theorem abc_at : ∀ j, j < 26 → abc[j]? = some (97 + j) := by decide +kernel
theorem abc_atI {i : Int} (h0 : 0 ≤ i) (h1 : i < 26) : atI abc i = some (97 + i.toNat) := by
  have e : i = ((i.toNat : Nat) : Int) := by omega
  have a := atI_nat (xs := abc) (j := i.toNat) (abc_at i.toNat (by omega))
  rw [← e] at a
  exact a
def letterC (c : Nat) : Prop := 97 ≤ c ∧ c < 123
theorem join_ones : ∀ cs : List Nat, Str.join (SN []) (cs.map fun c => SN [c]) = SN cs
  | [] => rfl
  | [c] => rfl
  | c :: d :: r => by
    show SN [c] ++ SN [] ++ Str.join (SN []) ((d :: r).map fun c => SN [c]) = _
    rw [join_ones (d :: r), SN_app, SN_app]
    rfl
theorem cutS_take (wd : List Nat) (e : Nat) : cutS (SN wd) none (some (e : Int)) = SN (wd.take e) := by
  unfold cutS
  have h0 : HT.sIx (SN wd).length 0 none = 0 := rfl
  have h1 : HT.sIx (SN wd).length (SN wd).length (some (e : Int)) = min e wd.length := by
    rw [SN_len]
    show (if (e : Int) < 0 then ((e : Int) + (wd.length : Int)).toNat else min (e : Int).toNat wd.length) = _
    rw [if_neg (by omega), Int.toNat_natCast]
  rw [h0, h1, SN_cps, List.drop_zero, Nat.sub_zero]
  show SN _ = SN _
  congr 1
  rw [List.take_eq_take_iff]
  omega
/-- the k-th letter of a turn -/
def lett (t k : Nat) : Nat := 97 + (t + 11 * k) % 26
theorem lett_ok (t k : Nat) : letterC (lett t k) := by
  unfold letterC lett
  omega
theorem lett_inj {t k l : Nat} (hk : k < 7) (hl : l < 7) (h : lett t k = lett t l) : k = l := by
  unfold lett at h
  omega
/-- what names are like -/
structure NamesOk (ns : List Str) : Prop where
  len : ns.length = 7
  nd : ns.Nodup
  ok : ∀ n ∈ ns, 1 ≤ n.length ∧ n.length ≤ 8 ∧ ∀ c ∈ n.cps.toList, letterC c
theorem names_of_fn {f : Nat → List Nat} (inj : ∀ k l, k < 7 → l < 7 → f k = f l → k = l) (ok : ∀ k, k < 7 → 1 ≤ (f k).length ∧ (f k).length ≤ 8 ∧ ∀ c ∈ f k, letterC c) : NamesOk ((List.range 7).map fun k => SN (f k)) where
  len := by simp
  nd := by
    rw [List.nodup_iff_pairwise_ne, List.pairwise_map]
    refine List.Pairwise.imp_of_mem (fun {a b} ha hb h e => h (inj a b (List.mem_range.mp ha) (List.mem_range.mp hb) (SN_inj e))) (List.nodup_iff_pairwise_ne.mp List.nodup_range)
  ok := by
    intro n hn
    obtain ⟨k, hk, e⟩ := List.mem_map.mp hn
    subst e
    rw [SN_len, SN_cps]
    exact ok k (List.mem_range.mp hk)
theorem names_front {t : Nat} {wd : List Nat} {es : Nat → Nat} (hw : wd.length ≤ 7) (hl : ∀ c ∈ wd, letterC c) : NamesOk ((List.range 7).map fun k => SN (lett t k :: wd.take (es k))) := by
  refine names_of_fn (fun k l hk hl' e => ?_) fun k hk => ⟨by simp, ?_, fun c hc => ?_⟩
  · injection e with e1 _
    exact lett_inj hk hl' e1
  · rw [List.length_cons, List.length_take]
    omega
  · rcases List.mem_cons.mp hc with z | z
    · rw [z]
      exact lett_ok t k
    · exact hl c (List.mem_of_mem_take z)
theorem names_back {t : Nat} {wd : List Nat} {es : Nat → Nat} (hw : wd.length ≤ 7) (hl : ∀ c ∈ wd, letterC c) : NamesOk ((List.range 7).map fun k => SN (wd.take (es k) ++ [lett t k])) := by
  refine names_of_fn (fun k l hk hl' e => ?_) fun k hk => ⟨by simp, ?_, fun c hc => ?_⟩
  · have a := congrArg List.getLast? e
    rw [List.getLast?_concat, List.getLast?_concat] at a
    exact lett_inj hk hl' (Option.some.inj a)
  · rw [List.length_append, List.length_take, List.length_singleton]
    omega
  · rcases List.mem_append.mp hc with z | z
    · exact hl c (List.mem_of_mem_take z)
    · rw [show c = lett t k by simpa using z]
      exact lett_ok t k
section
variable {P : Program} {w : World} {K : PySem.W.Frag} {mg : Str → Option Value} {base : Heap} {C : Addr}
theorem ix_listK {X : Cx} {K : PySem.W.Frag} (e : X.K = K) : IxR X (rIxL K) := by
  subst e
  exact ix_list
theorem But.upd {H H1 : Hp} {h c D : Addr} {o : HO} (B : But h c H H1) (nD : H D = none) : But h c H (upd H1 D o) := fun b u e n1 n2 => by
  rw [upd_ne (ne_of_none e nD)]
  exact B b u e n1 n2
def spNames (K : PySem.W.Frag) : Sp := fun vs H Q _ => ∃ (h c : Addr) (s k : Int) (cs : List Int), vs = [.ref h] ∧ HAt H h c s k cs ∧
  ∀ (s' k' : Int) (cs' : List Int) (ns : List Str) (l : Addr) (H' : Hp), NamesOk ns → HAt H' h c s' k' cs' → But h c H H' → H l = none → l ≠ h → l ≠ c → H' l = some (.lst (ns.map V.str)) → Q (.ref l) H'
theorem range_succ_map {α : Type} (f : Nat → α) (i : Nat) : (List.range (i + 1)).map f = (List.range i).map f ++ [f i] := by
  rw [List.range_succ, List.map_append]
  rfl
theorem ok_law_names {f : Addr} {fd : FuncData} (T : Txt K mg C) (F : DefAt K mg "_law_names" "_law_names" s_law_names ["_law_h"] f fd) : FnOk P w K mg base CX0 2 f fd ["_law_h"] (spNames K) := by
  obtain ⟨f1, fd1, D_law_next⟩ := T.d_law_next
  have G_law_next : FnOk P w K mg base CX0 1 f1 fd1 ["_law_h", "_law_many"] spNext := ok_law_next T D_law_next
  refine F.F.ok sc_law_names (fun vs H Q E h => ?_) (fun cdv A outer s H vs Q E hr h => ?_)
  · obtain ⟨h, c, s, k, cs, rfl, _⟩ := h
    rfl
  · obtain ⟨h, c, z, k, cs, rfl, A1, q⟩ := h
    refine ⟨_, (pss_cons (ps_set (i := 1) sc_law_names.nd rfl (.inr rfl) pe_str)
      (pss_cons (ps_set (i := 2) sc_law_names.nd rfl (.inr rfl) (pe_join pe_str (pe_lc (own := [("_law_k", 6)]) (g := gName 6) (tt := tYes) rfl sc_law_names.nd (pi_range1 rfl T.m_range (pa_cons (pe_call G_law_next (hr.mono (by decide)) (by rfl) D_law_next.g D_law_next.F.kp D_law_next.b .nil pass0 (pa_cons (pv 0) (pa_cons pe_int pa_nil))) pa_nil)) (blkOk_by (own := [("_law_k", 6)]) (N := ["_law_h", "_law_some", "_law_word", "_law_turn", "_law_letters", "_law_ends", "_law_k", "_law_letter"]) (sc := defScope s_law_names) (by decide +kernel)) (fun _ _ _ _ _ => pg_name (i := 6) sc_law_names.nd rfl (.inl rfl)) (fun _ _ _ _ _ => pts_nil) (fun _ _ _ _ _ => (pe_ix ix_str (pv 1) (pe_call G_law_next (hr.mono (by decide)) (by rfl) D_law_next.g D_law_next.F.kp D_law_next.b .nil pass0 (pa_cons (pv 0) (pa_cons pe_int pa_nil))) (fun _ _ => rfl))))))
      (pss_cons (ps_set (i := 3) sc_law_names.nd rfl (.inr rfl) (pe_call G_law_next (hr.mono (by decide)) (by rfl) D_law_next.g D_law_next.F.kp D_law_next.b .nil pass0 (pa_cons (pv 0) (pa_cons pe_int pa_nil))))
      (pss_cons (ps_set (i := 4) sc_law_names.nd rfl (.inr rfl) (pe_lc (own := [("_law_k", 6)]) (g := gName 6) (tt := tYes) rfl sc_law_names.nd (pi_range1 rfl T.m_range (pa_cons pe_int pa_nil)) (blkOk_by (own := [("_law_k", 6)]) (N := ["_law_h", "_law_some", "_law_word", "_law_turn", "_law_letters", "_law_ends", "_law_k", "_law_letter"]) (sc := defScope s_law_names) (by decide +kernel)) (fun _ _ _ _ _ => pg_name (i := 6) sc_law_names.nd rfl (.inl rfl)) (fun _ _ _ _ _ => pts_nil) (fun _ _ _ _ _ => (pe_ix ix_str (pv 1) (pe_op op_mod (pe_op op_add (pv 3) (pe_op op_mulW pe_int (pv 6))) pe_int) (fun _ _ => rfl)))))
      (pss_cons (ps_set (i := 5) sc_law_names.nd rfl (.inr rfl) (pe_op op_rep (pe_lst (pa_cons (pe_callB call_len_str (by rfl) T.m_len (by decide +kernel) (pa_cons (pv 2) pa_nil)) pa_nil)) pe_int))
      (pss_cons (ps_if (pt_cmpR op_eq (pe_call G_law_next (hr.mono (by decide)) (by rfl) D_law_next.g D_law_next.F.kp D_law_next.b .nil pass0 (pa_cons (pv 0) (pa_cons pe_int pa_nil))) pe_int (nomark _)) (pss_one (ps_set (i := 5) sc_law_names.nd rfl (.inr rfl) (pe_lc (own := [("_law_letter", 7)]) (g := gName 7) (tt := tYes) rfl sc_law_names.nd (pi_list (pv 4)) (blkOk_by (own := [("_law_letter", 7)]) (N := ["_law_h", "_law_some", "_law_word", "_law_turn", "_law_letters", "_law_ends", "_law_k", "_law_letter"]) (sc := defScope s_law_names) (by decide +kernel)) (fun _ _ _ _ _ => pg_name (i := 7) sc_law_names.nd rfl (.inl rfl)) (fun _ _ _ _ _ => pts_nil) (fun _ _ _ _ _ => (pe_call G_law_next (hr.mono (by decide)) (by rfl) D_law_next.g D_law_next.F.kp D_law_next.b .nil pass0 (pa_cons (pv 0) (pa_cons (pe_op op_add (pe_callB call_len_str (by rfl) T.m_len (by decide +kernel) (pa_cons (pv 2) pa_nil)) pe_int) pa_nil))))))) pss_nil)
      (pss_cons (ps_if (pt_cmpR op_eq (pe_call G_law_next (hr.mono (by decide)) (by rfl) D_law_next.g D_law_next.F.kp D_law_next.b .nil pass0 (pa_cons (pv 0) (pa_cons pe_int pa_nil))) pe_int (nomark _)) (pss_one (ps_ret (pe_lc (own := [("_law_k", 6)]) (g := gName 6) (tt := tYes) rfl sc_law_names.nd (pi_range1 rfl T.m_range (pa_cons pe_int pa_nil)) (blkOk_by (own := [("_law_k", 6)]) (N := ["_law_h", "_law_some", "_law_word", "_law_turn", "_law_letters", "_law_ends", "_law_k", "_law_letter"]) (sc := defScope s_law_names) (by decide +kernel)) (fun _ _ _ _ _ => pg_name (i := 6) sc_law_names.nd rfl (.inl rfl)) (fun _ _ _ _ _ => pts_nil) (fun _ _ _ _ _ => (pe_op op_add_str (pe_ix (ix_listK (K := K) rfl) (pv 4) (pv 6) (fun _ _ => rfl)) (pe_slice sl_str (pv 2) po_none (po_some (pe_ix (ix_listK (K := K) rfl) (pv 5) (pv 6) (fun _ _ => rfl))))))))) pss_nil)
      (pss_one (ps_ret (pe_lc (own := [("_law_k", 6)]) (g := gName 6) (tt := tYes) rfl sc_law_names.nd (pi_range1 rfl T.m_range (pa_cons pe_int pa_nil)) (blkOk_by (own := [("_law_k", 6)]) (N := ["_law_h", "_law_some", "_law_word", "_law_turn", "_law_letters", "_law_ends", "_law_k", "_law_letter"]) (sc := defScope s_law_names) (by decide +kernel)) (fun _ _ _ _ _ => pg_name (i := 6) sc_law_names.nd rfl (.inl rfl)) (fun _ _ _ _ _ => pts_nil) (fun _ _ _ _ _ => (pe_op op_add_str (pe_slice sl_str (pv 2) po_none (po_some (pe_ix (ix_listK (K := K) rfl) (pv 5) (pv 6) (fun _ _ => rfl)))) (pe_ix (ix_listK (K := K) rfl) (pv 4) (pv 6) (fun _ _ => rfl)))))))))))))), ?_⟩
    -- the word
    refine ⟨⟨_, rfl⟩, _, rfl, h, c, _, _, 8, _, rfl, by decide, by decide, A1, fun s1 k1 cs1 n H1 n0 n8 A2 B1 => ⟨n, rfl, by omega, by omega, fun D nD => ?_⟩⟩
    have dh : D ≠ h := (ne_of_none A2.h nD).symm
    have dc : D ≠ c := (ne_of_none A2.c nD).symm
    refine lc_range (lo := 0) (n := n.toNat) (fun i H3 => ∃ (s k : Int) (cs : List Int) (wd : List Nat), HAt H3 h c s k cs ∧ wd.length = i ∧ (∀ x ∈ wd, letterC x) ∧ H3 D = some (.lst ((wd.map fun x => SN [x]).map V.str)) ∧ But h c H1 H3) ⟨_, _, _, [], A2.same (same_upd nD), rfl, (fun _ z => nomatch z), upd_same, Same.but (same_upd nD)⟩ ?_ ?_
    · rintro i H3 hi ⟨s3, k3, cs3, wd, A3, hl, hw, hD, B3⟩
      refine ⟨rfl, _, rfl, _, rfl, h, c, _, _, 26, _, rfl, by decide, by decide, A3, fun s4 k4 cs4 p H4 p0 p1 A4 B4 => ?_⟩
      have D4 := B4 _ _ hD dh dc
      refine ⟨_, p, _, rfl, rfl, by decide +kernel, abc_atI p0 p1, _, D4, ?_, _, _, _, wd ++ [97 + p.toNat], A4.set dh dc, by rw [List.length_append, hl]; rfl, fun x hx => ?_, ?_, (B3.trans B4).upd nD⟩
      · rw [List.length_map, List.length_map, hl]
        exact small1000 (by omega)
      · rcases List.mem_append.mp hx with m | m
        · exact hw x m
        · rw [show x = 97 + p.toNat by simpa using m]
          unfold letterC
          omega
      · rw [upd_same, List.map_append, List.map_append]
        rfl
    · rintro H3 ⟨s3, k3, cs3, wd, A3, hl, hw, hD, B3⟩
      have wl : wd.length ≤ 7 := by omega
      have hsum : ((wd.map fun x => SN [x]).map (·.length)).sum ≤ 7 := by
        have e : ∀ l : List Nat, ((l.map fun x => SN [x]).map (·.length)).sum = l.length := fun l => by
          induction l with
          | nil => rfl
          | cons x r ih =>
            rw [List.map_cons, List.map_cons, List.sum_cons, ih, SN_len, List.length_cons]
            simp
            omega
        rw [e]
        exact wl
      refine ⟨_, D, wd.map fun x => SN [x], rfl, rfl, .inl (SqL.of hD), ?_, ?_⟩
      · rw [List.length_map]
        have : (("" : Str)).length = 0 := rfl
        rw [this]
        omega
      have ej : Txt.join ("" : Str) (wd.map fun x => SN [x]) = SN wd := (TL.join_eq _ _).trans (join_ones wd)
      rw [ej]
      have B13 := B1.trans B3
      have wz : (SN wd).length ≤ sizeLine := by rw [SN_len, sizeLine_eq]; omega
      -- the turn
      refine ⟨_, rfl, h, c, _, _, 26, _, rfl, by decide, by decide, A3, fun s4 k4 cs4 t H4 t0 t1 A4 B4 => ?_⟩
      -- the letters
      refine ⟨7, rfl, by decide, by decide, fun D2 nD2 => ?_⟩
      have dh2 : D2 ≠ h := (ne_of_none A4.h nD2).symm
      have dc2 : D2 ≠ c := (ne_of_none A4.c nD2).symm
      refine lc_range (lo := 0) (n := 7) (fun i H5 => H5 D2 = some (.lst (((List.range i).map fun k => SN [lett t.toNat k]).map V.str)) ∧ Same H4 H5) ⟨upd_same, same_upd nD2⟩ ?_ ?_
      · rintro i H5 hi ⟨e5, s5⟩
        have e1 : (t + 11 * (0 + (i : Int))).fmod 26 = (((t.toNat + 11 * i) % 26 : Nat) : Int) := by
          rw [Int.fmod_eq_emod_of_nonneg _ (by decide)]
          omega
        refine ⟨rfl, _, rfl, _, rfl, _, rfl, _, _, rfl, rfl, mulOk (a := 10) (b := 10) (by decide) (by omega) (by decide) (by decide) (by decide), _, _, rfl, rfl, _, _, rfl, rfl, (by show (0 : Int) < 26; decide), _, _, lett t.toNat i, rfl, rfl, by decide +kernel, ?_, _, e5, ?_, ?_, fun b u eb => ?_⟩
        · have a := abc_atI (i := (t + 11 * (0 + (i : Int))) % 26) (by omega) (by omega)
          have e : 97 + ((t + 11 * (0 + (i : Int))) % 26).toNat = lett t.toNat i := by
            unfold lett
            omega
          rw [e] at a
          exact a
        · rw [List.length_map, List.length_map, List.length_range]
          exact small1000 (by omega)
        · rw [upd_same, range_succ_map, List.map_append]
          rfl
        · rw [upd_ne (ne_of_none eb nD2)]
          exact s5 _ _ eb
      · rintro H5 ⟨e5, s5⟩
        -- the ends
        refine ⟨_, rfl, SN wd, rfl, wz, (by show 1 ≤ sizeLine; decide), fun a0 na0 => ⟨a0, 7, _, rfl, rfl, upd_same, by decide, by decide, (by show 1 * 7 ≤ sizeLine; decide), fun a na => ?_⟩⟩
        have A5 := A4.same s5
        have s56 : Same H5 (upd (upd H5 a0 (.lst [.int ((SN wd).length : Int)])) a (.lst (List.replicate (7 : Int).toNat [V.int ((SN wd).length : Int)]).flatten)) := (same_upd na0).trans (same_upd na)
        have ea : (upd (upd H5 a0 (.lst [.int ((SN wd).length : Int)])) a (.lst (List.replicate (7 : Int).toNat [V.int ((SN wd).length : Int)]).flatten)) a = some (.lst ((List.replicate 7 (wd.length : Int)).map V.int)) := by
          rw [upd_same, SN_len]
          rfl
        generalize (upd (upd H5 a0 (.lst [.int ((SN wd).length : Int)])) a (.lst (List.replicate (7 : Int).toNat [V.int ((SN wd).length : Int)]).flatten)) = H6 at s56 ea
        have e6 : H6 D2 = some (.lst (((List.range 7).map fun k => SN [lett t.toNat k]).map V.str)) := s56 _ _ e5
        have A6 := A5.same s56
        have na4 : H4 a = none := by
          cases e0 : H4 a with
          | none => rfl
          | some u =>
            have := (same_upd na0 : Same H5 (upd H5 a0 (.lst [.int ((SN wd).length : Int)]))) _ _ (s5 _ _ e0)
            rw [na] at this
            cases this
        have nah : a ≠ h := (ne_of_none A4.h na4).symm
        have nac : a ≠ c := (ne_of_none A4.c na4).symm
        have B16 : But h c H H6 := ((B13.trans B4).trans (Same.but s5)).trans (Same.but s56)
        refine ⟨_, rfl, h, c, _, _, 2, _, rfl, by decide, by decide, A6, fun s7 k7 cs7 b1 H7 b10 b12 A7 B7 => ?_⟩
        have B27 : But h c H H7 := B16.trans B7
        have keep7 := B7 _ _ e6 dh2 dc2
        have ea := B7 _ _ ea nah nac
        refine ⟨rfl, _, rfl, ite2 (fun e => ?_) (fun e => ?_)⟩
        · refine ⟨_, rfl, D2, rfl, ⟨_, SqL.of keep7⟩, fun D4 nD4 => ?_⟩
          have dh4 : D4 ≠ h := (ne_of_none A7.h nD4).symm
          have dc4 : D4 ≠ c := (ne_of_none A7.c nD4).symm
          have d24 : D2 ≠ D4 := ne_of_none keep7 nD4
          refine lc_list (fun i H9 => ∃ (s k : Int) (cs es : List Int), HAt H9 h c s k cs ∧ es.length = i ∧ (∀ e ∈ es, 0 ≤ e ∧ e ≤ (wd.length : Int)) ∧ H9 D4 = some (.lst (es.map V.int)) ∧ But h c H7 H9) ⟨_, _, _, [], A7.same (same_upd nD4), rfl, (fun _ z => nomatch z), upd_same, Same.but (same_upd nD4)⟩ (fun i H9 _ ⟨_, _, _, _, _, _, _, _, B⟩ => SqL.of (B _ _ keep7 dh2 dc2)) ?_ ?_
          · rintro i x H9 hx ⟨s9, k9, cs9, es, A9, hl9, he9, e9, B9⟩
            refine ⟨rfl, _, rfl, _, rfl, SN wd, rfl, wz, _, _, rfl, rfl, h, c, _, _, _, _, rfl, by rw [SN_len]; omega, by rw [SN_len]; omega, A9, fun s10 k10 cs10 p H10 p0 p1 A10 B10 => ?_⟩
            rw [SN_len] at p1
            have hi : i < 7 := by
              have := (List.getElem?_eq_some_iff.mp hx).1
              rw [List.length_map, List.length_map, List.length_range] at this
              exact this
            have D10 := B10 _ _ e9 dh4 dc4
            refine ⟨_, D10, ?_, _, _, _, es ++ [p], A10.set dh4 dc4, by rw [List.length_append, hl9]; rfl, fun e he => ?_, ?_, (B9.trans B10).upd nD4⟩
            · rw [List.length_map, hl9]
              exact small1000 (by omega)
            · rcases List.mem_append.mp he with m | m
              · exact he9 e m
              · rw [show e = p by simpa using m]
                omega
            · rw [upd_same, List.map_append]
              rfl
          · rintro H9 ⟨s9, k9, cs9, es, A9, hl9, hes, e9, B9⟩
            rw [List.length_map, List.length_map, List.length_range] at hl9
            have hel : es.length = 7 := hl9
            have keep7 := B9 _ _ keep7 dh2 dc2
            have B27 := B27.trans B9
            have A7 := A9
            clear A9 hl9 ea nah nac
            have ea := e9
            have nah := dh4
            have nac := dc4
            clear dh4 dc4 B9 e9
            revert ea nah nac nD4 d24
            generalize D4 = a
            intro nD4 d24 ea nah nac
            clear nD4 B7
            revert keep7 B27 A7 ea
            generalize H9 = H7
            intro keep7 B27 A7 ea
            have D2at : H7 D2 = some (.lst (((List.range 7).map fun k => SN [lett t.toNat k]).map V.str)) := keep7
            have ixL : ∀ i : Nat, i < 7 → atI (((List.range 7).map fun k => SN [lett t.toNat k]).map V.str) (0 + (i : Int)) = some (.str (SN [lett t.toNat i])) := fun i hi => at_of (j := i) (by omega) (by rw [List.getElem?_map, List.getElem?_map, List.getElem?_range hi]; rfl)
            have ixE : ∀ i : Nat, i < 7 → atI (es.map V.int) (0 + (i : Int)) = some (.int (((es.getD i 0).toNat : Nat) : Int)) := fun i hi => at_of (j := i) (by omega) (by
              have l : i < es.length := by omega
              have g : es.getD i 0 = es[i] := by rw [List.getD_eq_getElem?_getD, List.getElem?_eq_getElem l]; rfl
              rw [List.getElem?_map, List.getElem?_eq_getElem l, g]
              have := hes es[i] (List.getElem_mem l)
              show some (V.int es[i]) = some (V.int _)
              congr 2
              omega)
            refine ⟨_, rfl, h, c, _, _, 2, _, rfl, by decide, by decide, A7, fun s8 k8 cs8 b2 H8 b20 b22 A8 B8 => ?_⟩
            have B28 : But h c H H8 := B27.trans B8
            have D8 : H8 D2 = some (.lst (((List.range 7).map fun k => SN [lett t.toNat k]).map V.str)) := B8 _ _ D2at dh2 dc2
            have a8 : H8 a = some (.lst (es.map V.int)) := B8 _ _ ea nah nac
            refine ⟨rfl, _, rfl, ite2 (fun e => ?_) (fun e => ?_)⟩
            · refine ⟨7, rfl, by decide, by decide, fun D3 nD3 => ?_⟩
              have dh3 : D3 ≠ h := (ne_of_none A8.h nD3).symm
              have dc3 : D3 ≠ c := (ne_of_none A8.c nD3).symm
              refine lc_range (lo := 0) (n := 7) (fun i H9 => H9 D3 = some (.lst (((List.range i).map fun k => SN (lett t.toNat k :: wd.take (es.getD k 0).toNat)).map V.str)) ∧ Same H8 H9) ⟨upd_same, same_upd nD3⟩ ?_ ?_
              · rintro i H9 hi ⟨e9, s9⟩
                refine ⟨rfl, _, rfl, _, rfl, D2, _, _, _, rfl, rfl, SqL.of (s9 _ _ D8), ixL i hi, _, rfl, _, rfl, _, rfl, a, _, _, _, rfl, rfl, SqL.of (s9 _ _ a8), ixE i hi, _, rfl, SN wd, rfl, wz, ?_⟩
                rw [cutS_take]
                refine ⟨_, _, rfl, rfl, ?_, _, e9, ?_, ?_, fun b u eb => ?_⟩
                · rw [SN_len, SN_len, List.length_take, sizeLine_eq]
                  show 1 + _ ≤ _
                  omega
                · rw [List.length_map, List.length_map, List.length_range]
                  exact small1000 (by omega)
                · rw [upd_same, SN_app, range_succ_map, List.map_append]
                  rfl
                · rw [upd_ne (ne_of_none eb nD3)]
                  exact s9 _ _ eb
              · rintro H9 ⟨e9, s9⟩
                exact q _ _ _ _ D3 H9 (names_front wl hw) (A8.same s9) (B28.trans (Same.but s9)) (by
                  cases e0 : H D3 with
                  | none => rfl
                  | some u =>
                    have := B28 _ _ e0 dh3 dc3
                    rw [nD3] at this
                    cases this) dh3 dc3 e9
            · refine ⟨7, rfl, by decide, by decide, fun D3 nD3 => ?_⟩
              have dh3 : D3 ≠ h := (ne_of_none A8.h nD3).symm
              have dc3 : D3 ≠ c := (ne_of_none A8.c nD3).symm
              refine lc_range (lo := 0) (n := 7) (fun i H9 => H9 D3 = some (.lst (((List.range i).map fun k => SN (wd.take (es.getD k 0).toNat ++ [lett t.toNat k])).map V.str)) ∧ Same H8 H9) ⟨upd_same, same_upd nD3⟩ ?_ ?_
              · rintro i H9 hi ⟨e9, s9⟩
                refine ⟨rfl, _, rfl, _, rfl, _, rfl, a, _, _, _, rfl, rfl, SqL.of (s9 _ _ a8), ixE i hi, _, rfl, SN wd, rfl, wz, ?_⟩
                rw [cutS_take]
                refine ⟨_, rfl, _, rfl, D2, _, _, _, rfl, rfl, SqL.of (s9 _ _ D8), ixL i hi, _, _, rfl, rfl, ?_, _, e9, ?_, ?_, fun b u eb => ?_⟩
                · rw [SN_len, SN_len, List.length_take, sizeLine_eq]
                  show _ + 1 ≤ _
                  omega
                · rw [List.length_map, List.length_map, List.length_range]
                  exact small1000 (by omega)
                · rw [upd_same, SN_app, range_succ_map, List.map_append]
                  rfl
                · rw [upd_ne (ne_of_none eb nD3)]
                  exact s9 _ _ eb
              · rintro H9 ⟨e9, s9⟩
                exact q _ _ _ _ D3 H9 (names_back wl hw) (A8.same s9) (B28.trans (Same.but s9)) (by
                  cases e0 : H D3 with
                  | none => rfl
                  | some u =>
                    have := B28 _ _ e0 dh3 dc3
                    rw [nD3] at this
                    cases this) dh3 dc3 e9
        · have hel : (List.replicate 7 (wd.length : Int)).length = 7 := List.length_replicate
          have hes : ∀ e ∈ List.replicate 7 (wd.length : Int), 0 ≤ e ∧ e ≤ (wd.length : Int) := fun e he => by
            rw [(List.mem_replicate.mp he).2]
            omega
          revert hel hes ea
          generalize List.replicate 7 (wd.length : Int) = es
          intro ea hel hes
          have D2at : H7 D2 = some (.lst (((List.range 7).map fun k => SN [lett t.toNat k]).map V.str)) := keep7
          have ixL : ∀ i : Nat, i < 7 → atI (((List.range 7).map fun k => SN [lett t.toNat k]).map V.str) (0 + (i : Int)) = some (.str (SN [lett t.toNat i])) := fun i hi => at_of (j := i) (by omega) (by rw [List.getElem?_map, List.getElem?_map, List.getElem?_range hi]; rfl)
          have ixE : ∀ i : Nat, i < 7 → atI (es.map V.int) (0 + (i : Int)) = some (.int (((es.getD i 0).toNat : Nat) : Int)) := fun i hi => at_of (j := i) (by omega) (by
            have l : i < es.length := by omega
            have g : es.getD i 0 = es[i] := by rw [List.getD_eq_getElem?_getD, List.getElem?_eq_getElem l]; rfl
            rw [List.getElem?_map, List.getElem?_eq_getElem l, g]
            have := hes es[i] (List.getElem_mem l)
            show some (V.int es[i]) = some (V.int _)
            congr 2
            omega)
          refine ⟨_, rfl, h, c, _, _, 2, _, rfl, by decide, by decide, A7, fun s8 k8 cs8 b2 H8 b20 b22 A8 B8 => ?_⟩
          have B28 : But h c H H8 := B27.trans B8
          have D8 : H8 D2 = some (.lst (((List.range 7).map fun k => SN [lett t.toNat k]).map V.str)) := B8 _ _ D2at dh2 dc2
          have a8 : H8 a = some (.lst (es.map V.int)) := B8 _ _ ea nah nac
          refine ⟨rfl, _, rfl, ite2 (fun e => ?_) (fun e => ?_)⟩
          · refine ⟨7, rfl, by decide, by decide, fun D3 nD3 => ?_⟩
            have dh3 : D3 ≠ h := (ne_of_none A8.h nD3).symm
            have dc3 : D3 ≠ c := (ne_of_none A8.c nD3).symm
            refine lc_range (lo := 0) (n := 7) (fun i H9 => H9 D3 = some (.lst (((List.range i).map fun k => SN (lett t.toNat k :: wd.take (es.getD k 0).toNat)).map V.str)) ∧ Same H8 H9) ⟨upd_same, same_upd nD3⟩ ?_ ?_
            · rintro i H9 hi ⟨e9, s9⟩
              refine ⟨rfl, _, rfl, _, rfl, D2, _, _, _, rfl, rfl, SqL.of (s9 _ _ D8), ixL i hi, _, rfl, _, rfl, _, rfl, a, _, _, _, rfl, rfl, SqL.of (s9 _ _ a8), ixE i hi, _, rfl, SN wd, rfl, wz, ?_⟩
              rw [cutS_take]
              refine ⟨_, _, rfl, rfl, ?_, _, e9, ?_, ?_, fun b u eb => ?_⟩
              · rw [SN_len, SN_len, List.length_take, sizeLine_eq]
                show 1 + _ ≤ _
                omega
              · rw [List.length_map, List.length_map, List.length_range]
                exact small1000 (by omega)
              · rw [upd_same, SN_app, range_succ_map, List.map_append]
                rfl
              · rw [upd_ne (ne_of_none eb nD3)]
                exact s9 _ _ eb
            · rintro H9 ⟨e9, s9⟩
              exact q _ _ _ _ D3 H9 (names_front wl hw) (A8.same s9) (B28.trans (Same.but s9)) (by
                cases e0 : H D3 with
                | none => rfl
                | some u =>
                  have := B28 _ _ e0 dh3 dc3
                  rw [nD3] at this
                  cases this) dh3 dc3 e9
          · refine ⟨7, rfl, by decide, by decide, fun D3 nD3 => ?_⟩
            have dh3 : D3 ≠ h := (ne_of_none A8.h nD3).symm
            have dc3 : D3 ≠ c := (ne_of_none A8.c nD3).symm
            refine lc_range (lo := 0) (n := 7) (fun i H9 => H9 D3 = some (.lst (((List.range i).map fun k => SN (wd.take (es.getD k 0).toNat ++ [lett t.toNat k])).map V.str)) ∧ Same H8 H9) ⟨upd_same, same_upd nD3⟩ ?_ ?_
            · rintro i H9 hi ⟨e9, s9⟩
              refine ⟨rfl, _, rfl, _, rfl, _, rfl, a, _, _, _, rfl, rfl, SqL.of (s9 _ _ a8), ixE i hi, _, rfl, SN wd, rfl, wz, ?_⟩
              rw [cutS_take]
              refine ⟨_, rfl, _, rfl, D2, _, _, _, rfl, rfl, SqL.of (s9 _ _ D8), ixL i hi, _, _, rfl, rfl, ?_, _, e9, ?_, ?_, fun b u eb => ?_⟩
              · rw [SN_len, SN_len, List.length_take, sizeLine_eq]
                show _ + 1 ≤ _
                omega
              · rw [List.length_map, List.length_map, List.length_range]
                exact small1000 (by omega)
              · rw [upd_same, SN_app, range_succ_map, List.map_append]
                rfl
              · rw [upd_ne (ne_of_none eb nD3)]
                exact s9 _ _ eb
            · rintro H9 ⟨e9, s9⟩
              exact q _ _ _ _ D3 H9 (names_back wl hw) (A8.same s9) (B28.trans (Same.but s9)) (by
                cases e0 : H D3 with
                | none => rfl
                | some u =>
                  have := B28 _ _ e0 dh3 dc3
                  rw [nD3] at this
                  cases this) dh3 dc3 e9
end
/-! ### a number raised, by squaring -/
theorem natAbs_pow (a : Int) : ∀ k : Nat, (a ^ k).natAbs = a.natAbs ^ k
  | 0 => by rw [Int.pow_zero, Nat.pow_zero]; rfl
  | k + 1 => by rw [Int.pow_succ, Int.natAbs_mul, natAbs_pow a k, Nat.pow_succ]
/-- how great, 1 at the least -/
def bg (x : Int) : Nat := max 1 x.natAbs
theorem bg_pos (x : Int) : 1 ≤ bg x := Nat.le_max_left ..
theorem bg_le (x : Int) : x.natAbs ≤ bg x := Nat.le_max_right ..
theorem bg_mul (x y : Int) : bg (x * y) ≤ bg x * bg y := by
  have a := Nat.mul_le_mul (bg_le x) (bg_le y)
  have b := Nat.mul_le_mul (bg_pos x) (bg_pos y)
  unfold bg at *
  rw [Int.natAbs_mul]
  omega
/-- what holds between the turns: r, the square q and what is left l -/
structure RaiseOk (a k r q l : Int) : Prop where
  val : r * q ^ l.toNat = a ^ k.toNat
  sz : bg q ^ l.toNat * bg r ≤ bg a ^ k.toNat
  lk : l ≤ k
theorem RaiseOk.first (a k : Int) : RaiseOk a k 1 a k := ⟨by rw [Int.one_mul], by show bg a ^ k.toNat * 1 ≤ _; omega, Int.le_refl k⟩
theorem RaiseOk.r_le {a k r q l : Int} (h : RaiseOk a k r q l) : r.natAbs ≤ bg a ^ k.toNat :=
  Nat.le_trans (bg_le r) (Nat.le_trans (Nat.le_mul_of_pos_left _ (Nat.pow_pos (bg_pos q))) h.sz)
theorem RaiseOk.q_le {a k r q l : Int} (h : RaiseOk a k r q l) (hl : 0 < l) : q.natAbs ≤ bg a ^ k.toNat := by
  have e : bg q ^ 1 ≤ bg q ^ l.toNat := Nat.pow_le_pow_right (bg_pos q) (by omega)
  rw [Nat.pow_one] at e
  exact Nat.le_trans (bg_le q) (Nat.le_trans e (Nat.le_trans (Nat.le_mul_of_pos_right _ (bg_pos r)) h.sz))
/-- one is taken into r -/
theorem RaiseOk.odd {a k r q l : Int} (h : RaiseOk a k r q l) (hl : 0 < l) : RaiseOk a k (r * q) q (l - 1) := by
  have e : l.toNat = (l - 1).toNat + 1 := by omega
  refine ⟨?_, ?_, by have := h.lk; omega⟩
  · rw [← h.val, e, Int.pow_succ, Int.mul_assoc, Int.mul_comm q]
  · refine Nat.le_trans (Nat.mul_le_mul_left _ (bg_mul r q)) ?_
    have z := h.sz
    rw [e, Nat.pow_succ] at z
    have e2 : bg q ^ (l - 1).toNat * (bg r * bg q) = bg q ^ (l - 1).toNat * bg q * bg r := by
      rw [Nat.mul_assoc, Nat.mul_comm (bg r)]
    omega
/-- the half of an even rest -/
theorem RaiseOk.half {a k r q m : Int} (h : RaiseOk a k r q (2 * m)) (hm : 0 ≤ m) : RaiseOk a k r (q * q) m := by
  have e : (2 * m).toNat = m.toNat + m.toNat := by omega
  have pp : (q * q) ^ m.toNat = q ^ m.toNat * q ^ m.toNat := Int.mul_pow ..
  refine ⟨?_, ?_, by have := h.lk; omega⟩
  · rw [← h.val, e, Int.pow_add, pp]
  · have z := h.sz
    rw [e, Nat.pow_add] at z
    have y : bg (q * q) ^ m.toNat ≤ bg q ^ m.toNat * bg q ^ m.toNat := by
      rw [← Nat.mul_pow]
      exact Nat.pow_le_pow_left (bg_mul q q) _
    exact Nat.le_trans (Nat.mul_le_mul_right _ y) z
theorem RaiseOk.none {a k r q : Int} (h : RaiseOk a k r q 0) (q' : Int) : RaiseOk a k r q' 0 := ⟨by have z := h.val; rw [show (0 : Int).toNat = 0 from rfl, Int.pow_zero] at z ⊢; exact z, by have z := h.sz; rw [show (0 : Int).toNat = 0 from rfl, Nat.pow_zero] at z ⊢; exact z, h.lk⟩
section
variable {P : Program} {w : World} {K : PySem.W.Frag} {mg : Str → Option Value} {base : Heap} {C : Addr}
def muL (σ : L2.St) : Nat := match σ[4]? with
  | some (some (V.int l)) => l.toNat
  | _ => 0
def spRaised : Sp := fun vs H Q _ => ∃ (a k : Int), vs = [.int a, .int k] ∧ bg a ^ k.toNat < big ∧ -(2 ^ 62) ≤ k ∧ k < 2 ^ 62 ∧ Q (.int (a ^ k.toNat)) H
theorem ok_number_raised {f : Addr} {fd : FuncData} (T : Txt K mg C) (F : DefAt K mg "_number_raised" "_number_raised" s_number_raised ["number", "power"] f fd) : FnOk P w K mg base CX0 1 f fd ["number", "power"] spRaised := by
  refine F.F.ok sc_number_raised (fun vs H Q E h => ?_) (fun cdv A outer s H vs Q E hr h => ?_)
  · obtain ⟨a, k, rfl, _⟩ := h
    rfl
  · obtain ⟨a, k, rfl, hb, h1, h2, q⟩ := h
    refine ⟨_, (pss_cons (ps_set (i := 2) sc_number_raised.nd rfl (.inl rfl) pe_int)
      (pss_cons (ps_set (i := 3) sc_number_raised.nd rfl (.inl rfl) (pv 0))
      (pss_cons (ps_set (i := 4) sc_number_raised.nd rfl (.inl rfl) (pv 1))
      (pss_cons (ps_while PassesOwn.never (pt_cmpR op_gt (pv 4) pe_int (nomark _)) (pss_cons (ps_if (pt_cmpR op_eq (pe_op op_mod (pv 4) pe_int) pe_int (nomark _)) (pss_one (ps_set (i := 2) sc_number_raised.nd rfl (.inl rfl) (pe_op op_mulW (pv 2) (pv 3)))) pss_nil) (pss_cons (ps_set (i := 4) sc_number_raised.nd rfl (.inl rfl) (pe_op op_fdiv (pv 4) pe_int)) (pss_one (ps_if (pt_cmpR op_gt (pv 4) pe_int (nomark _)) (pss_one (ps_set (i := 3) sc_number_raised.nd rfl (.inl rfl) (pe_op op_mulW (pv 3) (pv 3)))) pss_nil)))))
      (pss_one (ps_ret (pv 2))))))), ?_⟩
    refine ⟨_, rfl, _, rfl, while_by (fun σ H3 => ∃ r q l : Int, σ = [some (.int a), some (.int k), some (.int r), some (.int q), some (.int l)] ∧ H3 = H ∧ RaiseOk a k r q l) (fun σ _ => muL σ) ⟨1, a, k, rfl, rfl, .first a k⟩ ?_ ?_⟩
    · rintro σ H3 ⟨r, sq, l, rfl, rfl, ok⟩
      have kb : k.natAbs < 2 ^ 63 := by omega
      have rb := Nat.lt_of_le_of_lt ok.r_le hb
      refine ⟨_, rfl, _, _, rfl, rfl, _, rfl, ite2 (fun c => ?_) (fun c => ?_)⟩
      · have lp : 0 < l := by simpa using c
        have sqb := Nat.lt_of_le_of_lt (ok.q_le lp) hb
        have eM : l = 2 * (l / 2) + l % 2 := by omega
        have fin : ∀ r', RaiseOk a k r' sq (2 * (l / 2)) → (tSeq (tAsg (tOp (rI CDiv fun i j => V.int (i / j)) (tVar 4) (tC (V.int 2))) (gName 4))
            (tIfS (tTest (tOp (rI0 fun i j => V.bl (decide (j < i))) (tVar 4) (tC (V.int 0)))) (tAsg (tOp (rI CMulW fun i j => V.int (i * j)) (tVar 3) (tVar 3)) (gName 3)) tNext)) { nx := fun σ' H' => (∃ r q l, σ' = [some (V.int a), some (V.int k), some (V.int r), some (V.int q), some (V.int l)] ∧ H' = H3 ∧ RaiseOk a k r q l) ∧ muL σ' < l.toNat, rt := Q, bk := tRet (tVar 2) { nx := fun x H' => Q V.non H', rt := Q }, ct := fun σ' H' => (∃ r q l, σ' = [some (V.int a), some (V.int k), some (V.int r), some (V.int q), some (V.int l)] ∧ H' = H3 ∧ RaiseOk a k r q l) ∧ muL σ' < l.toNat }
            [some (V.int a), some (V.int k), some (V.int r'), some (V.int sq), some (V.int l)] H3 := by
          intro r' ok'
          have lt : (l / 2).toNat < l.toNat := by omega
          refine ⟨_, rfl, _, _, rfl, rfl, ⟨by decide, by decide⟩, _, rfl, _, _, rfl, rfl, _, rfl, ite2 (fun c2 => ?_) (fun c2 => ?_)⟩
          · exact ⟨_, rfl, _, rfl, _, _, rfl, rfl, mulOk (a := 4000) (b := 4000) sqb sqb (by decide) (by decide) (by decide), ⟨r', sq * sq, l / 2, rfl, rfl, ok'.half (by omega)⟩, lt⟩
          · have z : l / 2 = 0 := by
              have : ¬ 0 < l / 2 := by simpa using c2
              omega
            refine ⟨⟨r', sq, l / 2, rfl, rfl, ?_⟩, lt⟩
            rw [z] at ok' ⊢
            exact ok'
        refine ⟨_, rfl, _, _, rfl, rfl, (show (0 : Int) < 2 by decide), rfl, _, rfl, ite2 (fun c2 => ?_) (fun c2 => ?_)⟩
        · have o1 : l % 2 = 1 := by simpa using c2
          refine ⟨_, rfl, _, rfl, _, _, rfl, rfl, mulOk (a := 4000) (b := 4000) rb sqb (by decide) (by decide) (by decide), ?_⟩
          have e2 : l - 1 = 2 * (l / 2) := by omega
          have z := ok.odd lp
          rw [e2] at z
          exact fin _ z
        · have o1 : ¬ l % 2 = 1 := by simpa using c2
          have e2 : l = 2 * (l / 2) := by omega
          exact fin _ (by rw [← e2]; exact ok)
      · have l0 : l.toNat = 0 := by
          have : ¬ 0 < l := by simpa using c
          omega
        have v := ok.val
        rw [l0, Int.pow_zero, Int.mul_one] at v
        rw [← v] at q
        exact ⟨_, rfl, q⟩
    · exact fun σ H Q Q' h ⟨x, ex, i, j, e1, e2, b, eb, qb⟩ => ⟨x, ex, i, j, e1, e2, b, eb, h _ _ qb⟩
end
/-! ### what a sum tells at a point -/
theorem max1_pow {a : Nat} {j k : Nat} (h : j ≤ k) : a ^ j ≤ (max 1 a) ^ k :=
  Nat.le_trans (Nat.pow_le_pow_left (Nat.le_max_right 1 a) j) (Nat.pow_le_pow_right (Nat.le_trans (Nat.le_refl 1) (Nat.le_max_left 1 a)) h)
def evalI (v : Str → Int) : Pr → Int
  | [] => 1
  | e :: r => v e.1 ^ e.2.toNat * evalI v r
def evalB (v : Str → Int) : Pr → Nat
  | [] => 1
  | e :: r => (max 1 (v e.1).natAbs) ^ e.2.toNat * evalB v r
theorem evalI_append (v : Str → Int) (p q : Pr) : evalI v (p ++ q) = evalI v p * evalI v q := by
  induction p with
  | nil => exact (Int.one_mul _).symm
  | cons e r ih =>
    show v e.1 ^ e.2.toNat * evalI v (r ++ q) = v e.1 ^ e.2.toNat * evalI v r * evalI v q
    rw [ih, Int.mul_assoc]
theorem evalB_append (v : Str → Int) (p q : Pr) : evalB v (p ++ q) = evalB v p * evalB v q := by
  induction p with
  | nil => exact (Nat.one_mul _).symm
  | cons e r ih =>
    show (max 1 (v e.1).natAbs) ^ e.2.toNat * evalB v (r ++ q) = (max 1 (v e.1).natAbs) ^ e.2.toNat * evalB v r * evalB v q
    rw [ih, Nat.mul_assoc]
theorem evalB_pos (v : Str → Int) (p : Pr) : 1 ≤ evalB v p := by
  induction p with
  | nil => exact Nat.le_refl 1
  | cons e r ih => exact Nat.mul_le_mul (Nat.one_le_pow _ _ (Nat.lt_of_lt_of_le Nat.one_pos (Nat.le_max_left 1 _))) ih
theorem evalI_le (v : Str → Int) (p : Pr) : (evalI v p).natAbs ≤ evalB v p := by
  induction p with
  | nil => exact Nat.le_refl 1
  | cons e r ih =>
    show (v e.1 ^ e.2.toNat * evalI v r).natAbs ≤ _
    rw [Int.natAbs_mul, natAbs_pow]
    exact Nat.mul_le_mul (max1_pow (Nat.le_refl _)) ih
theorem evalB_take (v : Str → Int) (p : Pr) (i : Nat) : evalB v (p.take i) ≤ evalB v p := by
  conv => rhs; rw [← List.take_append_drop i p, evalB_append]
  exact Nat.le_mul_of_pos_right _ (evalB_pos v _)
theorem evalB_one (v : Str → Int) {p : Pr} {e : Str × Int} (h : e ∈ p) : (max 1 (v e.1).natAbs) ^ e.2.toNat ≤ evalB v p := by
  induction p with
  | nil => cases h
  | cons f r ih =>
    rcases List.mem_cons.mp h with z | z
    · subst z
      exact Nat.le_mul_of_pos_right _ (evalB_pos v r)
    · exact Nat.le_trans (ih z) (Nat.le_mul_of_pos_left _ (Nat.one_le_pow _ _ (Nat.lt_of_lt_of_le Nat.one_pos (Nat.le_max_left 1 _))))
theorem evalI_take (v : Str → Int) {p : Pr} {i : Nat} {e : Str × Int} (h : p[i]? = some e) : evalI v (p.take (i + 1)) = evalI v (p.take i) * v e.1 ^ e.2.toNat := by
  rw [List.take_add_one, h, evalI_append]
  show _ * (v e.1 ^ e.2.toNat * 1) = _
  rw [Int.mul_one]
theorem lin_take (f : Pr → Rat) {M : Poly} {i : Nat} {x : Pr × Rat} (h : M[i]? = some x) : lin f (M.take (i + 1)) = lin f (M.take i) + x.2 * f x.1 := by
  rw [List.take_add_one, h, lin_append]
  show _ + (x.2 * f x.1 + 0) = _
  rw [Rat.add_zero]
theorem Whole.int {D : Nat} {r : Rat} (h : Whole D r) (n : Int) : Whole D (r * (n : Rat)) ∧ mag D (r * (n : Rat)) = mag D r * n.natAbs := by
  have a := h.mul (whole_int n).1
  rw [(whole_int n).2, Nat.mul_one] at a
  exact a
theorem lin_size {D V : Nat} (v : Str → Int) : ∀ {M : Poly}, AllWhole D M → (∀ x ∈ M, evalB v x.1 ≤ V) → Whole D (lin (fun p => (evalI v p : Rat)) M) ∧ mag D (lin (fun p => (evalI v p : Rat)) M) ≤ szM D M * V
  | [], _, _ => by
    rw [lin_nil, mag_zero]
    exact ⟨.zero D, Nat.zero_le _⟩
  | x :: M, h, hV => by
    obtain ⟨a, b⟩ := lin_size v (M := M) (fun y hy => h y (by simp [hy])) fun y hy => hV y (by simp [hy])
    obtain ⟨c, d⟩ := (h x (by simp)).int (evalI v x.1)
    obtain ⟨e, f⟩ := c.add a
    rw [lin_cons]
    refine ⟨e, Nat.le_trans f ?_⟩
    rw [szM_cons, Nat.add_mul, d]
    exact Nat.add_le_add (Nat.mul_le_mul_left _ (Nat.le_trans (evalI_le v x.1) (hV x (by simp)))) b
/-! ### programs -/
inductive Ex where | num (n : Int) | name (x : Str) | add (a b : Ex) | mul (a b : Ex)
def ExAt (K : PySem.W.Frag) (H : Hp) (p : Addr) : Ex → Prop
  | .num n => SqT K H p [.str "num", .int n]
  | .name x => SqT K H p [.str "name", .str x]
  | .add a b => ∃ q r : Addr, SqT K H p [.str "add", .ref q, .ref r] ∧ ExAt K H q a ∧ ExAt K H r b
  | .mul a b => ∃ q r : Addr, SqT K H p [.str "times", .ref q, .ref r] ∧ ExAt K H q a ∧ ExAt K H r b
theorem ExAt.stay {K : PySem.W.Frag} {H H' : Hp} (s : TupsStay H H') : ∀ {t : Ex} {p : Addr}, ExAt K H p t → ExAt K H' p t
  | .num _, _, h => SqT.keeps h s
  | .name _, _, h => SqT.keeps h s
  | .add _ _, _, ⟨q, r, h, a, b⟩ => ⟨q, r, SqT.keeps h s, ExAt.stay s a, ExAt.stay s b⟩
  | .mul _ _, _, ⟨q, r, h, a, b⟩ => ⟨q, r, SqT.keeps h s, ExAt.stay s a, ExAt.stay s b⟩
def ExOk (ns : List Str) : Nat → Ex → Prop
  | _, .num n => 0 ≤ n ∧ n < 1000
  | _, .name x => x ∈ ns
  | 0, .add _ _ => False
  | 0, .mul _ _ => False
  | d + 1, .add a b => ExOk ns d a ∧ ExOk ns d b
  | d + 1, .mul a b => ExOk ns d a ∧ ExOk ns d b
theorem ExOk.num {ns : List Str} {n : Int} (h : 0 ≤ n ∧ n < 1000) : ∀ d, ExOk ns d (.num n)
  | 0 => h
  | _ + 1 => h
theorem ExOk.name {ns : List Str} {x : Str} (h : x ∈ ns) : ∀ d, ExOk ns d (.name x)
  | 0 => h
  | _ + 1 => h
theorem ExOk.of_num {ns : List Str} {n : Int} : ∀ {d : Nat}, ExOk ns d (.num n) → 0 ≤ n ∧ n < 1000
  | 0, h => h
  | _ + 1, h => h
theorem ExOk.of_name {ns : List Str} {x : Str} : ∀ {d : Nat}, ExOk ns d (.name x) → x ∈ ns
  | 0, h => h
  | _ + 1, h => h
theorem ExOk.up {ns : List Str} : ∀ {t : Ex} {d : Nat}, ExOk ns d t → ExOk ns (d + 1) t
  | .num _, _, h => ExOk.num h.of_num _
  | .name _, _, h => ExOk.name h.of_name _
  | .add _ _, 0, h => False.elim h
  | .mul _ _, 0, h => False.elim h
  | .add _ _, _ + 1, ⟨a, b⟩ => ⟨a.up, b.up⟩
  | .mul _ _, _ + 1, ⟨a, b⟩ => ⟨a.up, b.up⟩
theorem ExOk.ups {ns : List Str} {t : Ex} {d k : Nat} (h : ExOk ns d t) (l : d ≤ k) : ExOk ns k t := by
  induction l with
  | refl => exact h
  | step _ ih => exact ih.up
theorem ExOk.sub {ns ms : List Str} (s : ∀ x ∈ ns, x ∈ ms) : ∀ {t : Ex} {d : Nat}, ExOk ns d t → ExOk ms d t
  | .num _, _, h => ExOk.num h.of_num _
  | .name _, _, h => ExOk.name (s _ h.of_name) _
  | .add _ _, 0, h => False.elim h
  | .mul _ _, 0, h => False.elim h
  | .add _ _, _ + 1, ⟨a, b⟩ => ⟨a.sub s, b.sub s⟩
  | .mul _ _, _ + 1, ⟨a, b⟩ => ⟨a.sub s, b.sub s⟩
inductive Rw where | nil | set (x : Str) (e : Ex) (r : Rw) | say (e : Ex) (r : Rw) | lap (x : Str) (m : Ex) (b r : Rw)
def StsAt (K : PySem.W.Frag) (H : Hp) : Rw → List Addr → Prop
  | .nil, qs => qs = []
  | .set x e r, qs => ∃ (q : Addr) (t : List Addr) (pe : Addr), qs = q :: t ∧ SqT K H q [.str "set", .str x, .ref pe] ∧ ExAt K H pe e ∧ StsAt K H r t
  | .say e r, qs => ∃ (q : Addr) (t : List Addr) (pe : Addr), qs = q :: t ∧ SqT K H q [.str "say", .ref pe] ∧ ExAt K H pe e ∧ StsAt K H r t
  | .lap x m b r, qs => ∃ (q : Addr) (t : List Addr) (pm pb pt : Addr) (qb : List Addr), qs = q :: t ∧ SqT K H q [.str "lap", .str x, .ref pm, .ref pb] ∧ ExAt K H pm m ∧ SqT K H pb [.str "row", .ref pt] ∧ SqT K H pt (qb.map V.ref) ∧ StsAt K H b qb ∧ StsAt K H r t
def RwAt (K : PySem.W.Frag) (H : Hp) (p : Addr) (rw : Rw) : Prop := ∃ (pt : Addr) (qs : List Addr), SqT K H p [.str "row", .ref pt] ∧ SqT K H pt (qs.map V.ref) ∧ StsAt K H rw qs
theorem StsAt.stay {K : PySem.W.Frag} {H H' : Hp} (s : TupsStay H H') : ∀ {r : Rw} {qs : List Addr}, StsAt K H r qs → StsAt K H' r qs
  | .nil, _, h => h
  | .set _ _ _, _, ⟨q, t, pe, e, h, a, b⟩ => ⟨q, t, pe, e, SqT.keeps h s, a.stay s, StsAt.stay s b⟩
  | .say _ _, _, ⟨q, t, pe, e, h, a, b⟩ => ⟨q, t, pe, e, SqT.keeps h s, a.stay s, StsAt.stay s b⟩
  | .lap _ _ _ _, _, ⟨q, t, pm, pb, pt, qb, e, h, a, h1, h2, b, c⟩ => ⟨q, t, pm, pb, pt, qb, e, SqT.keeps h s, a.stay s, SqT.keeps h1 s, SqT.keeps h2 s, StsAt.stay s b, StsAt.stay s c⟩
theorem RwAt.stay {K : PySem.W.Frag} {H H' : Hp} (s : TupsStay H H') {p : Addr} {r : Rw} (h : RwAt K H p r) : RwAt K H' p r := let ⟨pt, qs, a, b, c⟩ := h; ⟨pt, qs, SqT.keeps a s, SqT.keeps b s, c.stay s⟩
def appR : Rw → Rw → Rw
  | .nil, s => s
  | .set x e r, s => .set x e (appR r s)
  | .say e r, s => .say e (appR r s)
  | .lap x m b r, s => .lap x m b (appR r s)
def lenR : Rw → Nat
  | .nil => 0
  | .set _ _ r => lenR r + 1
  | .say _ r => lenR r + 1
  | .lap _ _ _ r => lenR r + 1
theorem lenR_app : ∀ (a b : Rw), lenR (appR a b) = lenR a + lenR b
  | .nil, b => (Nat.zero_add _).symm
  | .set _ _ r, b => by show lenR (appR r b) + 1 = lenR r + 1 + lenR b; rw [lenR_app r b]; omega
  | .say _ r, b => by show lenR (appR r b) + 1 = lenR r + 1 + lenR b; rw [lenR_app r b]; omega
  | .lap _ _ _ r, b => by show lenR (appR r b) + 1 = lenR r + 1 + lenR b; rw [lenR_app r b]; omega
theorem StsAt.len {K : PySem.W.Frag} {H : Hp} : ∀ {r : Rw} {qs : List Addr}, StsAt K H r qs → qs.length = lenR r
  | .nil, _, h => by rw [h]; rfl
  | .set _ _ _, _, ⟨_, _, _, e, _, _, b⟩ => by rw [e, List.length_cons, StsAt.len b]; rfl
  | .say _ _, _, ⟨_, _, _, e, _, _, b⟩ => by rw [e, List.length_cons, StsAt.len b]; rfl
  | .lap _ _ _ _, _, ⟨_, _, _, _, _, _, e, _, _, _, _, _, c⟩ => by rw [e, List.length_cons, StsAt.len c]; rfl
theorem StsAt.app {K : PySem.W.Frag} {H : Hp} {s : Rw} {rs : List Addr} (hs : StsAt K H s rs) : ∀ {r : Rw} {qs : List Addr}, StsAt K H r qs → StsAt K H (appR r s) (qs ++ rs)
  | .nil, _, h => by rw [h]; exact hs
  | .set _ _ _, _, ⟨q, t, pe, e, h, a, b⟩ => ⟨q, t ++ rs, pe, by rw [e]; rfl, h, a, StsAt.app hs b⟩
  | .say _ _, _, ⟨q, t, pe, e, h, a, b⟩ => ⟨q, t ++ rs, pe, by rw [e]; rfl, h, a, StsAt.app hs b⟩
  | .lap _ _ _ _, _, ⟨q, t, pm, pb, pt, qb, e, h, a, h1, h2, b, c⟩ => ⟨q, t ++ rs, pm, pb, pt, qb, by rw [e]; rfl, h, a, h1, h2, b, StsAt.app hs c⟩
def RwOk (ns : List Str) : Rw → Nat → Prop
  | .nil, _ => True
  | .set x e r, d => x ∈ ns ∧ ExOk ns 5 e ∧ RwOk ns r d
  | .say e r, d => ExOk ns 5 e ∧ RwOk ns r d
  | .lap x m b r, d => x ∈ ns ∧ ExOk ns 5 m ∧ 1 ≤ d ∧ lenR b ≤ 8 ∧ RwOk ns b (d - 1) ∧ RwOk ns r d
theorem RwOk.app {ns : List Str} {s : Rw} {d : Nat} (hs : RwOk ns s d) : ∀ {r : Rw}, RwOk ns r d → RwOk ns (appR r s) d
  | .nil, _ => hs
  | .set _ _ _, ⟨a, b, c⟩ => ⟨a, b, RwOk.app hs c⟩
  | .say _ _, ⟨a, b⟩ => ⟨a, RwOk.app hs b⟩
  | .lap _ _ _ _, ⟨a, b, e, f, g, c⟩ => ⟨a, b, e, f, g, RwOk.app hs c⟩
theorem RwOk.up {ns : List Str} : ∀ {r : Rw} {d k : Nat}, d ≤ k → RwOk ns r d → RwOk ns r k
  | .nil, _, _, _, _ => True.intro
  | .set _ _ _, _, _, l, ⟨a, b, c⟩ => ⟨a, b, RwOk.up l c⟩
  | .say _ _, _, _, l, ⟨a, b⟩ => ⟨a, RwOk.up l b⟩
  | .lap _ _ _ _, _, _, l, ⟨a, b, e, f, g, c⟩ => ⟨a, b, by omega, f, RwOk.up (by omega) g, RwOk.up l c⟩
/-! ### lists of texts compared -/
theorem dpStrs {K : PySem.W.Frag} {H : Hp} : ∀ cs : List Str, DpAll K H (cs.map V.str) (cs.map PyData.str)
  | [] => .nil
  | _ :: r => .cons (.str _) (dpStrs r)
theorem sN_len {ns : List Str} (e : ¬ PyData.eqv (.list (ns.map PyData.str)) (.list []) = true) : 0 < ns.length := by
  cases ns with
  | nil => exact absurd (by simp [PyData.eqv, PyData.eqvAll]) e
  | cons x r => exact Nat.succ_pos _
theorem But.tups {h c : Addr} {H H' : Hp} {s k : Int} {cs : List Int} (B : But h c H H') (A : HAt H h c s k cs) : TupsStay H H' := fun b xs q => by
  have nh : b ≠ h := fun z => by
    subst z
    rcases q with q | ⟨ob, q⟩
    · rw [A.h] at q
      cases q
    · rw [A.h] at q
      cases q
  have nc : b ≠ c := fun z => by
    subst z
    rcases q with q | ⟨ob, q⟩
    · rw [A.c] at q
      cases q
    · rw [A.c] at q
      cases q
  rcases q with q | ⟨ob, q⟩
  · exact .inl (B _ _ q nh nc)
  · exact .inr ⟨ob, B _ _ q nh nc⟩
def TextsOk (ns : List Str) : Prop := ∀ x ∈ ns, PyData.strOk x = true
theorem canLayStrs : ∀ {cs : List Str}, TextsOk cs → PyData.canLayAll0 (cs.map PyData.str) = true
  | [], _ => by simp [PyData.canLayAll0]
  | x :: r, h => by simp [PyData.canLayAll0, PyData.canLay0, canLayStrs (fun y hy => h y (by simp [hy]) : TextsOk r), h x (by simp)]
theorem depthStrs : ∀ cs : List Str, PyData.depthAll (cs.map PyData.str) = 0
  | [] => by simp [PyData.depthAll]
  | x :: r => by simp [PyData.depthAll, PyData.depth, depthStrs r]
theorem shapedStrs {cs : List Str} (h : TextsOk cs) : SeqAt.shaped (.list (cs.map PyData.str)) = true := by
  simp [SeqAt.shaped, PyData.canLay0, PyData.depth, canLayStrs h, depthStrs]
theorem texts_names {ns : List Str} (h : NamesOk ns) : TextsOk ns := fun x hx => by
  have l := (h.ok x hx).2.2
  unfold PyData.strOk
  rw [← Array.all_toList, List.all_eq_true]
  intro c hc
  have z := l c hc
  unfold letterC at z
  exact decide_eq_true (by omega)
theorem pick_at (x y : Int) (k : Bool) : atI [V.int x, V.int y] (if k then 1 else 0) = some (.int (if k then y else x)) := by
  cases k <;> rfl
/-! ### drawn expressions -/
def Of (ns : List Str) (p : Pr) : Prop := Canon p ∧ ∀ e ∈ p, e.1 ∈ ns
theorem Of.join {ns : List Str} {a b : Pr} (ha : Of ns a) (hb : Of ns b) : Of ns (joinP a b) := ⟨hb.1.join ha.1.one, fun e he => by
  rcases join_names he with ⟨g, hg, eg⟩ | ⟨g, hg, eg⟩
  · rw [← eg]
    exact ha.2 g hg
  · rw [← eg]
    exact hb.2 g hg⟩
theorem Of.len {ns : List Str} {a : Pr} (ha : Of ns a) : a.length ≤ ns.length := by
  have z := nodup_len ha.1.nodup fun x hx => by
    obtain ⟨e, he, ee⟩ := List.mem_map.mp hx
    rw [← ee]
    exact ha.2 e he
  rwa [List.length_map] at z
theorem Of.nil (ns : List Str) : Of ns [] := ⟨.nil, fun _ h => nomatch h⟩
theorem Of.one {ns : List Str} {x : Str} (h : x ∈ ns) : Of ns [(x, 1)] := ⟨⟨List.pairwise_singleton _ _, fun e he => by rw [show e = (x, 1) by simpa using he]; exact Int.le_refl 1⟩, fun e he => by rw [show e = (x, 1) by simpa using he]; exact h⟩
theorem Fit.number {ns : List Str} (n : Int) : Fit (Of ns) 1 1 n.natAbs (addM [] [] (n : Rat)) := by
  have z := (Fit.nil (A := Of ns) (n := 0) (D := 1) (S := 0)).add (k := []) (r := (n : Rat)) (Of.nil ns) (whole_int n).1
  rw [(whole_int n).2, Nat.zero_add, Nat.zero_add] at z
  exact z
theorem Fit.name {ns : List Str} {x : Str} (h : x ∈ ns) : Fit (Of ns) 1 1 1 [([(x, 1)], 1)] := by
  refine ⟨⟨List.nodup_cons.mpr ⟨by simp, List.nodup_nil⟩, fun y hy => ?_, fun y hy => ?_⟩, Nat.le_refl 1, fun y hy => ?_, ?_⟩
  · rw [show y = ([(x, 1)], 1) by simpa using hy]
    show (1 : Rat) ≠ 0
    decide
  · rw [show y = ([(x, 1)], 1) by simpa using hy]
    exact Of.one h
  · rw [show y = ([(x, 1)], 1) by simpa using hy]
    exact (whole_int 1).1
  · show mag 1 1 + 0 ≤ 1
    have := (whole_int 1).2
    have e : mag 1 (1 : Rat) = 1 := this
    rw [e]
    decide
theorem Fit.plus {A : Pr → Prop} {n m D S R : Nat} {M N : Poly} (h : Fit A n D S M) (g : Fit A m D R N) : Fit A (n + m) D (S + R) (sumM M N) := by
  have z := Fit.sum N h g.parts
  exact z.mono (Nat.add_le_add_left g.len _) (Nat.add_le_add_left g.sz _)
theorem add_le_sq {n : Nat} (h : 2 ≤ n) : n + n ≤ n * n := by
  have := Nat.mul_le_mul_right n h
  omega
/-! ### for p in d: the products of a locked dict -/
def ItKN (K : PySem.W.Frag) (w : World) (d : Addr) (o : Obj) (L : List (Pr × V)) : It :=
  ⟨fun i H => NF K w H d o L ∧ i < L.length, fun i H x H' => H' = H ∧ ∃ (k : Pr) (v : V) (b : Addr), L[i]? = some (k, v) ∧ x = .ref b ∧ ProdAt K H b k, fun i H => NF K w H d o L ∧ L.length ≤ i⟩
theorem turn_keysN {P : Program} {w : World} {K : PySem.W.Frag} {tg : Expr} {d : Addr} {o : Obj} {es : Array DictEntry} {ep : Nat} {L : List (Pr × V)} (it : Addr) (hod : o.data = .dict es ep) (hsz : es.size = L.length) :
    Turn P w K tg (ItKN K w d o L) [it] it (fun i h => h.IsKeyIter it d i es.size ep) where
  mem := by simp
  obj := fun i h st b hb => by
    have e : b = it := by simpa using hb
    subst e
    obtain ⟨oi, e, c, dd⟩ := st
    exact ⟨oi, e, fun v z => by rw [dd] at z; cases z⟩
  keep := fun i h h' st k => st.at fun oi e => k it (by simp) oi e
  item := by
    intro X hP hw hK hc i pins s σ H E I hf st hg
    subst hP hw hK
    obtain ⟨hF, hi⟩ := hg
    obtain ⟨f0, f1, f2, f3, f4, f5⟩ := hf it (by simp)
    obtain ⟨hgd, es', ep', hdt, raw, _, ent⟩ := hF.entries I
    obtain ⟨rfl, rfl⟩ := dict_ep hod hdt
    have hi' : i < es'.size := by omega
    obtain ⟨k, v, b, hL, hk, rv, hb⟩ := ent i hi'
    refine next_key_item st hgd hdt rfl (Array.getElem?_eq_getElem hi') fun h' st' sb => ?_
    have I1 : Inv X pins σ H { s with heap := h' } := I.turned (t' := s.toks) (fun b ob hb e => (sb.2 b hb).trans e) f0 f1 f3 f4 f5
    obtain ⟨oi, e, c, dd⟩ := id st'
    exact ⟨_, rfl, go_of (s := { s with heap := h' }) e c dd (by decide) ⟨.ref b, H, I1, hk, ⟨rfl, k, v, b, hL, rfl, hb⟩, st', fun b hb => (hf b hb).1⟩⟩
  done := by
    intro X hP hw hK hc i pins s σ H E I hf st hg
    subst hP hw hK
    obtain ⟨hF, hi⟩ := hg
    obtain ⟨f0, f1, f2, f3, f4, f5⟩ := hf it (by simp)
    obtain ⟨hgd, es', ep', hdt, raw, _, ent⟩ := hF.entries I
    obtain ⟨rfl, rfl⟩ := dict_ep hod hdt
    exact next_key_end (I.ok.hd hc) st hgd hdt rfl (by omega) fun h' eb => ⟨rfl, I.turned (t' := s.toks) (fun b ob hb e => eb b ob hb e) f0 f1 f3 f4 f5⟩
  self := fun A i s Q E st h => wpAny_pyIter_keyiter st h
def iKeysN (K : PySem.W.Frag) (w : World) (td : TE) : TI := fun σ H R => td σ H fun x H1 => ∃ d o L, x = .ref d ∧ NF K w H1 d o L ∧ R (ItKN K w d o L) H1
theorem pi_keysN {X : Cx} {e tg : Expr} {td : TE} (he : PE X e td) : PI X tg e (iKeysN X.K X.w td) := by
  refine ⟨fun pins s σ H R I h => ?_⟩
  refine thn (he.run pins s σ H _ I h) fun u s1 ⟨x, H1, I1, rx, d, o, L, ex, hF, q⟩ => ?_
  subst ex
  obtain rfl : u = Value.ref d := rx
  obtain ⟨t1, t2, hs⟩ := hF.r.typeIs I1
  obtain ⟨hgd, es, ep, hdt, raw, hsz, _⟩ := hF.entries I1
  obtain ⟨o', ho', hx, _⟩ := id raw
  rw [hgd] at ho'
  cases ho'
  exact iter_keys hs hgd hx hdt (pi_one (tk := s1.toks) I1 _ (turn_keysN _ hdt hsz) ⟨_, Heap.get?_push_size _ rfl, rfl, rfl⟩ q)
theorem for_keysN {K : PySem.W.Frag} {w : World} {d : Addr} {o : Obj} {L : List (Pr × V)} {g : TG} {tb : TS} {D : Ends} {σ : L2.St} {H : Hp} (Pv : Nat → L2.St → Hp → Prop) (h0 : Pv 0 σ H) (hl : ∀ i σ H, i ≤ L.length → Pv i σ H → NF K w H d o L)
    (hs : ∀ i k v σ H b, L[i]? = some (k, v) → Pv i σ H → ProdAt K H b k → g (.ref b) σ H fun σ2 H2 => tb { D with nx := Pv (i + 1), ct := Pv (i + 1), bk := D.nx } σ2 H2) (hd : ∀ σ H, Pv L.length σ H → D.nx σ H) :
    ∃ W : Nat → Nat → L2.St → Hp → Prop, (∃ m, W 0 m σ H) ∧ ∀ i m σ H, W i m σ H → ((ItKN K w d o L).stop i H ∧ D.nx σ H) ∨ ((ItKN K w d o L).go i H ∧ ∃ N : L2.St → Hp → Prop, (∀ σ' H', N σ' H' → ∃ m', m' < m ∧ W (i + 1) m' σ' H') ∧
      ∀ x H', (ItKN K w d o L).yld i H x H' → g x σ H' fun σ2 H2 => tb { D with nx := N, ct := N, bk := D.nx } σ2 H2) := by
  refine ⟨fun i m σ H => m = L.length - i ∧ i ≤ L.length ∧ Pv i σ H, ⟨_, rfl, Nat.zero_le _, h0⟩, fun i m σ H ⟨em, hi, p⟩ => ?_⟩
  have F := hl i σ H hi p
  by_cases lt : i < L.length
  · refine .inr ⟨⟨F, lt⟩, Pv (i + 1), fun σ' H' p' => ⟨L.length - (i + 1), by omega, rfl, lt, p'⟩, fun x H' ⟨eH, k, v, b, hL, ex, hb⟩ => ?_⟩
    subst ex
    subst eH
    exact hs i k v σ _ b hL p hb
  · have e : i = L.length := by omega
    subst e
    exact .inl ⟨⟨F, Nat.le_refl _⟩, hd σ H p⟩
/-! ### sorted(d) of a dict whose keys are numbers -/
def rSortDI : List V → Hp → VK → Prop := fun vs H Q => ∃ (a : Addr) (kvs : List (L2.Key × V)) (ns : List Int), vs = [.ref a] ∧ H a = some (.dK kvs) ∧ kvs.map (·.1) = ns.map Sum.inl ∧
  ∀ (ns' : List Int) (p : Addr), ns'.Perm ns → ns'.Pairwise (· ≤ ·) → H p = none → Q (.ref p) (upd H p (.lst (ns'.map V.int)))
theorem ints_at : ∀ {vs : List Value} {ns : List Int}, vs.length = ns.length → (∀ (j : Nat) (v : Value) (n : Int), vs[j]? = some v → ns[j]? = some n → ∃ t, v = .int n t) → IntsAre vs ns
  | [], [], _, _ => .nil
  | [], _ :: _, h, _ => by simp at h
  | _ :: _, [], h, _ => by simp at h
  | v :: vs, n :: ns, h, f => by
    obtain ⟨t, e⟩ := f 0 v n rfl rfl
    subst e
    exact .cons n t (ints_at (by simpa using h) fun j x m h1 h2 => f (j + 1) x m (by simpa using h1) (by simpa using h2))
theorem cr_sortedDI {X : Cx} (hc : X.calm = true) : CallR X (.builtin "sorted") rSortDI := by
  intro pins s σ H xs us Q I r h
  obtain ⟨a, kvs, ns, rfl, ha, ek, q⟩ := h
  obtain rfl := Vals.ref1 r
  obtain ⟨z, lo, vs, rk, hd⟩ := dk_of I.hok ha
  obtain ⟨ep, hat⟩ := hd.dictAt
  have hl : kvs.length = vs.length := Paired.length rk
  have hln : ns.length = kvs.length := by
    have := congrArg List.length ek
    rw [List.length_map, List.length_map] at this
    exact this.symm
  refine Calls.call_function_entry kind_sorted plain_sorted entry_sorted (args_sorted1 _) ?_
  unfold Builtin.«sorted»
  refine wpAny_bind (m := checkCount "sorted" 1 1 _) (wpAny_pure ?_)
  refine wpAny_bind (PySem.W.kdu_collect (A := X.A.in1) (PySem.W.kdl_dict (knd := mixKind X.prog X.w) (kvs := vs) (ep := ep) lo) (I.ok.hd hc) hat (by rw [← hl]; exact z) fun h' tk acc hk hacc => ?_)
  have la : acc.toList.length = vs.length := by rw [Array.length_toList]; exact hacc.1
  have hI : IntsAre acc.toList ns := by
    refine ints_at (by omega) fun j v n h1 h2 => ?_
    obtain ⟨k, x, hky, hi⟩ := hacc.2 j v (by rw [← Array.getElem?_toList]; exact h1)
    have e1 : (kvs.map (·.1))[j]? = some k := by rw [KV.keys rk, List.getElem?_map, hky]; rfl
    rw [ek, List.getElem?_map, h2] at e1
    have e2 : Sum.inl n = k := Option.some.inj e1
    rw [← e2] at hi
    rcases keyIs_shape (k := (Sum.inl n : L2.Key)) hi with ⟨i, t, y, e3⟩ | ⟨_, _, y, _⟩
    · cases y
      exact ⟨t, e3⟩
    · cases y
  have hsz : acc.toList.length ≤ sizeLine := by rw [la, ← hl]; exact z
  refine wpAny_bind (wpAny_newList ?_ hsz)
  have hob : (h'.push { cls := .type "list", data := .seq acc.toList.toArray }).get? h'.objs.size = some (seqObj "list" acc.toList.toArray 0) := Heap.get?_push_size _ rfl
  have kb : ∀ b o, s.heap.get? b = some o → (h'.push { cls := .type "list", data := .seq acc.toList.toArray }).get? b = some o := fun b o e => Heap.get?_push_of_some _ (hk b o e)
  refine wpAny_bind (wpAny_holding (wpAny_call_entry PyProof.Rows.slot_list_sort ⟨_, hob, rfl⟩ PyProof.Rows.entry_list_sort
    (SrtO.list_sort_ord SrtO.swo_int hob hsz (fun h2 => SrtO.ints_sortable hI h2) fun out h1 h2 => ⟨.none, rfl, ?_⟩) (PyProof.Rows.args_list_sort _)))
  obtain ⟨k1, k2, k3⟩ := SrtO.ints_out hI h1 h2
  obtain ⟨eF, heF⟩ := PyProof.Rows.sortedHeap_at (vs := acc.toList) (out := out.toArray) hob
  have hlen : ((out.map SrtO.iv).map V.int).length ≤ sizeLine := by
    rw [List.length_map, k2.length_eq, hln]
    exact z
  have I' : Inv X pins σ H { s with heap := h', toks := tk } := I.kept (t' := tk) hk
  have kF : ∀ b o, h'.get? b = some o → (sortedHeap (h'.push { cls := .type "list", data := .seq acc.toList.toArray }) h'.objs.size acc.toList out.toArray).get? b = some o := fun b o e =>
    (PyProof.Rows.sortedHeap_old (Nat.ne_of_lt (Heap.lt_size e)) (Heap.lt_size (Heap.get?_push_of_some _ e))).trans (Heap.get?_push_of_some _ e)
  refine wpAny_pure ⟨_, rfl, .ref h'.objs.size, upd H h'.objs.size (.lst ((out.map SrtO.iv).map V.int)), I'.laid (t' := tk) kF (Nat.le_refl _) ⟨hlen, out, eF, vals_of_ints k1, heF⟩, rfl, q _ _ k2 k3 (I'.hok.fresh (Nat.le_refl _))⟩
/-! ### max of a list, with a default -/
theorem mx_args (y d : Value) : argsOk "max" ⟨[y], [("default", d)]⟩ := by unfold argsOk; kernel_rfl
section
variable {pg : Program} {wd : World} {Ar : Around} {Rs : Result → Shared → Prop} {It : Addr} {fo wo : List Addr} {sz : Nat} {Pv : Nat → Value → Prop} {Sv : Nat → Heap → Prop}
theorem mx_loop (d : Value) (Wk : Walks pg wd Ar.in1 It fo wo sz Pv Sv) (gr : Nat → Nat → Bool) (cm : CmpOf pg wd Ar.in1 .Gt Pv gr) (B : Addr) (nB : B ∉ fo) :
    ∀ (r j : Nat) (σ : Shared) (u : Value) (e : Nat), sz - (j + 1) = r → j + 1 ≤ sz → Sv (j + 1) σ.heap → Pv (argBest gr j) u →
    σ.heap.get? B = some { cls := .type "list", dict := none, data := .seq #[u, u] e, slots := #[] } →
    (∀ v h' tk, Pv (argBest gr (sz - 1)) v → (∀ b o, b ∉ wo → b ≠ B → σ.heap.get? b = some o → h'.get? b = some o) → Rs (.ok (.ret v)) { σ with heap := h', toks := tk }) →
    codeAny (model pg wd) Ar (.builtin "max.loop" ⟨[.ref It, .none, .ref B], [("default", d)]⟩) Rs σ := by
  have nBw : B ∉ wo := fun z => nB (Wk.sub _ z)
  have nm : (toString "max" ++ toString ".loop" : String) = "max.loop" := by decide
  intro r
  induction r with
  | zero =>
    intro j σ u e hr hj hst hu hB fin
    have last : j + 1 = sz := by omega
    refine codeAny_builtin F.entry_max_loop ?_
    rw [Around.under_plainId F.plain_max_loop _]
    show wpAny _ Ar.in1 (seqItems? (.ref B) >>= _) _ _ σ
    refine wpAny_bind (wpAny_seqItems hB rfl ?_)
    show wpAny _ Ar.in1 (tryCatch (pyNext (.ref It)) _ >>= _) _ _ σ
    refine wpAny_bind (wpAny_tryCatch (Wk.done σ _ _ (last ▸ hst) fun h1 t1 kept => ?_))
    have hB1 := kept B _ nBw hB
    show wpAny _ Ar.in1 (updateSeq B (fun _ => #[]) >>= _) _ _ _
    refine wpAny_bind ?_
    refine wpAny_updateSeq hB1 rfl (wpAny_bind (wpAny_letGo (wpAny_pure ?_)))
    refine fin u _ t1 (by rw [← last]; exact hu) fun b o nw nb eb => ?_
    exact (Heap.get?_update_other _ _ (Ne.symm nb)).trans (kept b o nw eb)
  | succ r ih =>
    intro j σ u e hr hj hst hu hB fin
    have more : j + 1 < sz := by omega
    refine codeAny_builtin F.entry_max_loop ?_
    rw [Around.under_plainId F.plain_max_loop _]
    show wpAny _ Ar.in1 (seqItems? (.ref B) >>= _) _ _ σ
    refine wpAny_bind (wpAny_seqItems hB rfl ?_)
    show wpAny _ Ar.in1 (tryCatch (pyNext (.ref It)) _ >>= _) _ _ σ
    refine wpAny_bind (wpAny_tryCatch (Wk.item (j + 1) σ _ _ more hst fun v h1 t1 hv st1 kept => ?_))
    have hB1 := kept B _ nBw hB
    show wpAny _ Ar.in1 (tryCatch (holding [v, v] (richCompare .Gt v u >>= _)) _ >>= _) _ _ _
    refine wpAny_bind (wpAny_tryCatch (wpAny_holding (wpAny_bind (cm (j + 1) (argBest gr j) v u _ _ _ hv hu ?_))))
    refine wpAny_bind (wpAny_holding (wpAny_truthy_bool ?_))
    refine wpAny_bind (wpAny_letGo (wpAny_pure ?_))
    cases best : gr (j + 1) (argBest gr j) with
    | true =>
      simp only [if_true]
      refine wpAny_bind ?_
      refine wpAny_updateSeq hB1 rfl (wpAny_bind (wpAny_letGo ?_))
      rw [nm]
      refine wpAny_pure ⟨plainId_quiet F.plain_max_loop _, ih (j + 1) _ v _ (by omega) more (Wk.frame _ _ _ st1 fun b hf o eb => ?_) (by simp only [argBest, best, if_true]; exact hv) (Heap.get?_update_self _ hB1 rfl) fun v2 h2 t2 hv2 kept2 => ?_⟩
      · exact (Heap.get?_update_other _ _ (fun z : B = b => nB (by rw [z]; exact hf))).trans eb
      · exact fin v2 h2 t2 hv2 fun b o nw nb eb => kept2 b o nw nb ((Heap.get?_update_other _ _ (Ne.symm nb)).trans (kept b o nw eb))
    | false =>
      simp only [Bool.false_eq_true, if_false]
      refine wpAny_bind (wpAny_letGo ?_)
      rw [nm]
      refine wpAny_pure ⟨plainId_quiet F.plain_max_loop _, ih (j + 1) _ u e (by omega) more st1 (by simp only [argBest, best, Bool.false_eq_true, if_false]; exact hu) hB1 fun v2 h2 t2 hv2 kept2 => ?_⟩
      exact fin v2 h2 t2 hv2 fun b o nw nb eb => kept2 b o nw nb (kept b o nw eb)
theorem mx_first (d : Value) (Wk : Walks pg wd Ar.in1 It fo wo sz Pv Sv) (gr : Nat → Nat → Bool) (cm : CmpOf pg wd Ar.in1 .Gt Pv gr) (B : Addr) (nB : B ∉ fo) {σ : Shared} {e : Nat} (hst : Sv 0 σ.heap)
    (hB : σ.heap.get? B = some { cls := .type "list", dict := none, data := .seq #[] e, slots := #[] })
    (fin : ∀ v h' tk, (0 < sz ∧ Pv (argBest gr (sz - 1)) v ∨ sz = 0 ∧ v = d) → (∀ b o, b ∉ wo → b ≠ B → σ.heap.get? b = some o → h'.get? b = some o) → Rs (.ok (.ret v)) { σ with heap := h', toks := tk }) :
    codeAny (model pg wd) Ar (.builtin "max.loop" ⟨[.ref It, .none, .ref B], [("default", d)]⟩) Rs σ := by
  have nBw : B ∉ wo := fun z => nB (Wk.sub _ z)
  have nm : (toString "max" ++ toString ".loop" : String) = "max.loop" := by decide
  refine codeAny_builtin F.entry_max_loop ?_
  rw [Around.under_plainId F.plain_max_loop _]
  show wpAny _ Ar.in1 (seqItems? (.ref B) >>= _) _ _ σ
  refine wpAny_bind (wpAny_seqItems hB rfl ?_)
  show wpAny _ Ar.in1 (tryCatch (pyNext (.ref It)) _ >>= _) _ _ σ
  by_cases ne : 0 < sz
  · refine wpAny_bind (wpAny_tryCatch (Wk.item 0 σ _ _ ne hst fun v h1 t1 hv st1 kept => ?_))
    have hB1 := kept B _ nBw hB
    show wpAny _ Ar.in1 (updateSeq B (fun _ => #[v, v]) >>= _) _ _ _
    refine wpAny_bind ?_
    refine wpAny_updateSeq hB1 rfl ?_
    rw [nm]
    refine wpAny_pure ⟨plainId_quiet F.plain_max_loop _, mx_loop d Wk gr cm B nB _ 0 _ v _ rfl ne (Wk.frame _ _ _ st1 fun b hf o eb => ?_) hv (Heap.get?_update_self _ hB1 rfl) fun v2 h2 t2 hv2 kept2 => ?_⟩
    · exact (Heap.get?_update_other _ _ (fun z : B = b => nB (by rw [z]; exact hf))).trans eb
    · exact fin v2 h2 t2 (.inl ⟨ne, hv2⟩) fun b o nw nb eb => kept2 b o nw nb ((Heap.get?_update_other _ _ (Ne.symm nb)).trans (kept b o nw eb))
  · have s0 : sz = 0 := by omega
    refine wpAny_bind (wpAny_tryCatch (Wk.done σ _ _ (s0 ▸ hst) fun h1 t1 kept => ?_))
    refine wpAny_bind (wpAny_rule ?_)
    exact wpAny_pure (fin d _ t1 (.inr ⟨s0, rfl⟩) fun b o nw nb eb => kept b o nw eb)
end
section
variable {pg : Program} {wd : World} {Ar : Around} {E : Value → Shared → Prop} {σ : Shared} {Q : Value → Shared → Prop}
theorem mx_list {d : Value} {l : Addr} {vs : Array (Int × Tok)} (hh : Ar.handled = none) (hl : σ.heap.IsList l (intItems vs))
    (fin : ∀ v h' tk, (0 < vs.size ∧ (intItems vs)[argBest (fun i j => decide (numAt vs i > numAt vs j)) (vs.size - 1)]? = some v ∨ vs.size = 0 ∧ v = d) → (∀ b o, σ.heap.get? b = some o → h'.get? b = some o) → Q v { σ with heap := h', toks := tk }) :
    wpAny (model pg wd) Ar (call (.builtin "max") [.ref l] [("default", d)]) Q E σ := by
  have nm : (toString "max" ++ toString ".loop" : String) = "max.loop" := by decide
  refine kmk_tree F.kind_max F.plain_max F.entry_max (mx_args _ _) ?_
  show wpAny _ Ar.in1 (Builtin.Builtins.bindParams "max" ["key", "default"] 0 ⟨[], [("default", d)]⟩ >>= _) _ _ σ
  refine wpAny_bind (wpAny_of_eq (show Builtin.Builtins.bindParams "max" ["key", "default"] 0 ⟨[], [("default", d)]⟩ = pure [none, some d] from rfl) ?_)
  refine wpAny_bind (wpAny_pure ?_)
  refine wpAny_bind (iter_intList hl fun s2 e2 st fo lI => ?_)
  have szI : (intItems vs).size = vs.size := by simp [intItems]
  refine wpAny_bind (wpAny_newObj_type ?_)
  rw [nm]
  have W := Walks.list (prog := pg) (w := wd) (A := Ar.in1) hh σ.heap.objs.size l lI (intItems vs)
  have nB : s2.heap.objs.size ∉ [σ.heap.objs.size, l] := fun z => Nat.lt_irrefl _ (fo _ z)
  refine wpAny_pure ⟨plainId_quiet F.plain_max_loop _, mx_first d W _ (CmpOf.ints_gt (numAt vs) (fun _ _ => intItems_at)) s2.heap.objs.size nB (W.frame _ _ _ st fun b _ o eb => Heap.get?_push_of_some _ eb) (Heap.get?_push_size _ rfl) fun v h1 t1 hv kept => ?_⟩
  subst e2
  refine fin v h1 t1 (by rw [szI] at hv; exact hv) fun b o eb => ?_
  have lt := Heap.lt_size eb
  exact kept b o (fun z => Nat.ne_of_lt lt (List.mem_singleton.mp z)) (Nat.ne_of_lt (by rw [Heap.size_push]; exact Nat.lt_succ_of_lt lt)) (Heap.get?_push_of_some _ (Heap.get?_push_of_some _ eb))
end
theorem mx_raw {pg : Program} {wd : World} {Ar : Around} {E : Value → Shared → Prop} {σ : Shared} {Q : Value → Shared → Prop} {d : Value} {l : Addr} {its : List Value} {ns : List Int} (hh : Ar.handled = none) (hl : σ.heap.IsList l its.toArray) (hi : IntsAre its ns)
    (fin : ∀ v h' tk, (∀ b o, σ.heap.get? b = some o → h'.get? b = some o) → (∃ M t, v = .int M t ∧ M ∈ ns ∧ ∀ a, a ∈ ns → a ≤ M) ∨ (ns = [] ∧ v = d) → Q v { σ with heap := h', toks := tk }) : wpAny (model pg wd) Ar (call (.builtin "max") [.ref l] [("default", d)]) Q E σ := by
  obtain ⟨xs, ex⟩ := hi.allInts.items
  have en : numsOf (intItems xs).toList = ns := by
    rw [← ex]
    exact hi.numsOf
  rw [nums_intItems] at en
  subst en
  rw [ex] at hl
  refine mx_list hh hl fun v h1 t1 hv kept => fin v h1 t1 kept ?_
  rcases hv with ⟨ne, hv⟩ | ⟨z, rfl⟩
  · obtain ⟨t, rfl⟩ := intItems_at hv
    obtain ⟨b1, b2⟩ := argBest_gt (numAt xs) (xs.size - 1)
    refine .inl ⟨_, t, rfl, ?_, fun a ha => ?_⟩
    · rw [numAt_eq]
      exact getD_mem (by rw [List.length_map, Array.length_toList]; omega)
    · obtain ⟨j, hj, rfl⟩ := mem_getD ha
      rw [List.length_map, Array.length_toList] at hj
      rw [← numAt_eq]
      exact b2 j (by omega)
  · refine .inr ⟨?_, rfl⟩
    rw [List.map_eq_nil_iff, ← List.length_eq_zero_iff, Array.length_toList]
    exact z
def rMaxD (K : PySem.W.Frag) : List V → List V → Hp → VK → Prop := fun vs zs H Q => ∃ (a : Addr) (ns : List Int) (d : Int), vs = [V.ref a] ∧ zs = [.int d] ∧ SqL K H a (ns.map V.int) ∧ ∀ m, (m ∈ ns ∧ ∀ a ∈ ns, a ≤ m) ∨ (ns = [] ∧ m = d) → Q (.int m) H
theorem cr_maxD {X : Cx} (hc : X.calm = true) : CallRK X (.builtin "max") [Str.ofString "default"] (rMaxD X.K) := by
  intro pins s σ H vs zs us ws Q I r rz h
  obtain ⟨a, ns, d, rfl, rfl, hs, q⟩ := h
  obtain ⟨its, rv, hl, _⟩ := I.list hs
  obtain rfl := Vals.ref1 r
  obtain ⟨w1, rfl, t0, rfl⟩ := vals1 rz
  refine mx_raw (d := .int d t0) (I.ok.hd hc) hl.isList rv.ints fun v h1 t1 kept hv => ?_
  rcases hv with ⟨M, t, rfl, h1, h2⟩ | ⟨h1, rfl⟩
  · exact ⟨.int _, H, I.kept kept, ⟨_, rfl⟩, q M (.inl ⟨h1, h2⟩)⟩
  · exact ⟨.int _, H, I.kept kept, ⟨_, rfl⟩, q d (.inr ⟨h1, rfl⟩)⟩
/-! ### the powers of a sum -/
def powM (M : Poly) : Nat → Poly
  | 0 => addM [] [] ((1 : Int) : Rat)
  | k + 1 => mulM (powM M k) M
theorem fit_pow {ns : List Str} {n D S : Nat} {M : Poly} (h : Fit (Of ns) n D S M) : ∀ k, Fit (Of ns) (n ^ k) (D ^ k) (S ^ k) (powM M k)
  | 0 => Fit.number 1
  | k + 1 => by
    have a := (fit_pow h k).mul h fun _ _ => Of.join
    rw [Nat.pow_succ, Nat.pow_succ, Nat.pow_succ]
    exact a
/-- only a dict of texts or numbers was changed: a sum stays -/
theorem SumAt.else {K : PySem.W.Frag} {w : World} {C : Addr} {H H' : Hp} {p d : Addr} {M : Poly} {kvs : List (L2.Key × V)} (h : SumAt K w C H p M) (e : Else d H H') (hd : H d = some (.dK kvs)) : SumAt K w C H' p M := by
  obtain ⟨dx, d1, o, L, ep, ⟨xs, ed, na⟩, r⟩ := h
  have t : TupsStay H H' := e.tups hd True.intro
  exact ⟨dx, d1, o, L, e _ _ ep (ne_of ep hd (by intro z; cases z)), ⟨xs, e _ _ ed (ne_of ed hd (by intro z; cases z)), na.stay t⟩, r.stay t⟩
def PowAt (K : PySem.W.Frag) (w : World) (C : Addr) (H : Hp) (p : Addr) (M : Poly) (ks : List Int) : Prop := ∃ kvs : List (L2.Key × V), H p = some (.dK kvs) ∧ ∀ k ∈ ks, ∃ q, valV kvs (.inl k) = some (.ref q) ∧ SumAt K w C H q (powM M k.toNat)
/-- all that a sum to its powers asks -/
structure PowFit (ns : List Str) (n D S top : Nat) (M : Poly) : Prop where
  fit : Fit (Of ns) n D S M
  n1 : 1 ≤ n
  d1 : 1 ≤ D
  s1 : 1 ≤ S
  db : D ^ top < big
  sb : S ^ top < big
  nb : n ^ top < sizeLine
  ns : ns.length < 32
  ex : ∀ x ∈ M, ∀ e ∈ x.1, e.2 < 2 ^ 62
theorem pow_up {a j k : Nat} (h1 : 1 ≤ a) (h : j ≤ k) : a ^ j ≤ a ^ k := Nat.pow_le_pow_right h1 h
/-- how many entries such a dict has -/
def rLenN (K : PySem.W.Frag) (w : World) : List V → Hp → VK → Prop := fun vs H Q => ∃ (a : Addr) (L : List (Pr × V)), vs = [.ref a] ∧ NR K w H a L ∧ Q (.int (L.length : Int)) H
theorem call_lenN {X : Cx} : CallR X (.builtin "len") (rLenN X.K X.w) := by
  intro pins s σ H vs us Q I r h
  obtain ⟨a, L, rfl, ⟨xs, er, n⟩, q⟩ := h
  obtain rfl := Vals.ref1 r
  have el : xs.length = L.length := (Paired.length n.rel).symm
  have nl := n.len
  rw [sizeLine_eq] at nl
  refine PySem.call_len_dictH n.sys (n.dict I er) (by omega) ?_
  rw [el]
  exact ⟨.int _, H, I.tok _, ⟨_, rfl⟩, q⟩
/-! ### a part raised -/
def scaleP (p : Pr) (k : Nat) : Pr := p.map fun e => (e.1, e.2 * (k : Int))
theorem expo_scale (p : Pr) (k : Nat) (x : Str) : expo (scaleP p k) x = expo p x * (k : Int) := by
  induction p with
  | nil => exact (Int.zero_mul _).symm
  | cons e r ih =>
    show (if e.1 = x then e.2 * (k : Int) else 0) + expo (scaleP r k) x = ((if e.1 = x then e.2 else 0) + expo r x) * (k : Int)
    rw [ih, Int.add_mul]
    split
    · rfl
    · rw [Int.zero_mul]
theorem canon_scale {p : Pr} (h : Canon p) {k : Nat} (hk : 1 ≤ k) : Canon (scaleP p k) := by
  refine ⟨?_, fun f hf => ?_⟩
  · unfold scaleP
    rw [List.pairwise_map]
    exact h.up
  · obtain ⟨e, he, rfl⟩ := List.mem_map.mp hf
    have a := h.one e he
    show 1 ≤ e.2 * (k : Int)
    have b : (1 : Int) * 1 ≤ e.2 * (k : Int) := Int.mul_le_mul a (by omega) (by decide) (by omega)
    omega
theorem addM_one {k : Pr} {c : Rat} (h : c ≠ 0) : addM [] k c = [(k, c)] := by
  have e : (lookM [] k).getD 0 + c = c := Rat.zero_add c
  unfold addM
  rw [e, if_neg h]
  rfl
theorem powM_none {k : Nat} (hk : 1 ≤ k) : powM [] k = [] := by
  obtain ⟨j, rfl⟩ : ∃ j, k = j + 1 := ⟨k - 1, by omega⟩
  show mulM (powM [] j) [] = []
  have e : ∀ M : Poly, crossM M [] = [] := fun M => by
    unfold crossM
    induction M with
    | nil => rfl
    | cons x r ih =>
      rw [List.flatMap_cons, ih]
      rfl
  unfold mulM
  rw [e]
  rfl
theorem pow_ne {c : Rat} (h : c ≠ 0) (k : Nat) : c ^ k ≠ 0 := fun z => by
  have a := congrArg Rat.num z
  rw [Rat.num_pow] at a
  have b : c.num ≠ 0 := fun q => h (Rat.num_eq_zero.mp q)
  have : c.num ^ k ≠ 0 := Int.pow_ne_zero b
  exact this a
theorem powM_part {p : Pr} (hp : Canon p) {c : Rat} (hc : c ≠ 0) : ∀ k : Nat, powM [(p, c)] (k + 1) = [(scaleP p (k + 1), c ^ (k + 1))]
  | 0 => by
    have e0 : powM [(p, c)] 0 = [([], 1)] := addM_one (k := []) (c := 1) (by decide)
    show mulM (powM [(p, c)] 0) [(p, c)] = _
    rw [e0]
    have e1 : mulM [([], 1)] [(p, c)] = addM [] (joinP [] p) (1 * c) := rfl
    have e2 : scaleP p 1 = p := by
      unfold scaleP
      rw [List.map_congr_left (g := id) fun e _ => by show (e.1, e.2 * 1) = e; rw [Int.mul_one], List.map_id]
    rw [e1, Rat.one_mul, addM_one hc, e2]
    show [(p, c)] = [(p, c ^ (0 + 1))]
    rw [Rat.pow_succ, Rat.pow_zero, Rat.one_mul]
  | k + 1 => by
    show mulM (powM [(p, c)] (k + 1)) [(p, c)] = _
    rw [powM_part hp hc k]
    have e1 : mulM [(scaleP p (k + 1), c ^ (k + 1))] [(p, c)] = addM [] (joinP (scaleP p (k + 1)) p) (c ^ (k + 1) * c) := rfl
    have cs := canon_scale hp (k := k + 1) (by omega)
    have e2 : joinP (scaleP p (k + 1)) p = scaleP p (k + 1 + 1) := canon_eq (hp.join cs.one) (canon_scale hp (by omega)) fun x => by
      rw [expo_join, expo_scale, expo_scale]
      have : ((k + 1 + 1 : Nat) : Int) = ((k + 1 : Nat) : Int) + 1 := by omega
      rw [this, Int.mul_add, Int.mul_one]
    rw [e1, ← Rat.pow_succ, addM_one (pow_ne hc _), e2]
theorem ratV_pow (c : Rat) (k : Nat) : ratV (c ^ k) = [.int (c.num ^ k), .int ((c.den : Int) ^ k)] := by
  unfold ratV
  rw [Rat.num_pow, Rat.den_pow, Int.natCast_pow]
/-- a dict made by a comprehension over a list -/
theorem dc_lst {K : PySem.W.Frag} {a : Addr} {xs : List V} {g : TG} {tt : TT} {tk tv : TE} {vs : List Nat} {σ : L2.St} {H1 : Hp} {D : Addr} {Qd : Hp → Prop} (Pv : Nat → Hp → Prop) (h0 : Pv 0 (upd H1 D (.dK []))) (hl : ∀ i H, i ≤ xs.length → Pv i H → SqL K H a xs)
    (hs : ∀ i x H, xs[i]? = some x → Pv i H → g x (wipe σ vs) H fun σ2 H2 => wipe σ2 vs = wipe σ vs ∧ tt σ2 H2 fun b H3 =>
      if b = true then tk σ2 H3 fun y H4 => tv σ2 H4 fun z H5 => ∃ kvs k, y = kV k ∧ H5 D = some (.dK kvs) ∧ kvs.length < sizeLine ∧ Pv (i + 1) (upd H5 D (.dK (putK kvs k z))) else Pv (i + 1) H3) (hd : ∀ H, Pv xs.length H → Qd H) :
    ∃ W : Nat → Nat → Hp → Prop, (∃ m, W 0 m (upd H1 D (.dK []))) ∧ ∀ i m H, W i m H →
      ((Itl K a).stop i H ∧ Qd H) ∨ ((Itl K a).go i H ∧ ∃ Nx : Hp → Prop, (∀ H', Nx H' → ∃ m', m' < m ∧ W (i + 1) m' H') ∧ ∀ x H', (Itl K a).yld i H x H' → g x (wipe σ vs) H' fun σ2 H2 => wipe σ2 vs = wipe σ vs ∧ tt σ2 H2 fun b H3 =>
        if b = true then tk σ2 H3 fun y H4 => tv σ2 H4 fun z H5 => ∃ kvs k, y = kV k ∧ H5 D = some (.dK kvs) ∧ kvs.length < sizeLine ∧ Nx (upd H5 D (.dK (putK kvs k z))) else Nx H3) := by
  refine ⟨fun i m H => m = xs.length - i ∧ i ≤ xs.length ∧ Pv i H, ⟨_, rfl, Nat.zero_le _, h0⟩, fun i m H ⟨em, hi, p⟩ => ?_⟩
  have F := hl i H hi p
  by_cases lt : i < xs.length
  · refine .inr ⟨⟨xs, xs[i], F, by simp [lt]⟩, Pv (i + 1), fun H' p' => ⟨xs.length - (i + 1), by omega, rfl, lt, p'⟩, fun x H' ⟨eH, y⟩ => ?_⟩
    subst eH
    exact hs i x _ (y xs F) p
  · have e : i = xs.length := by omega
    subst e
    exact .inl ⟨⟨xs, F, Nat.le_refl _⟩, hd H p⟩
theorem small_parts {D : Nat} {r : Rat} (hD : 0 < D) (h : Whole D r) : r.num.natAbs ≤ mag D r ∧ r.den ≤ D := by
  have e : r = Rat.divInt (r * (D : Rat)).num (D : Int) := by
    have z := den_one h
    have d0 : (D : Rat) ≠ 0 := fun q => by
      have q : (D : Rat) = ((0 : Nat) : Rat) := q
      have := Rat.natCast_inj.mp q
      omega
    rw [Rat.divInt_eq_div]
    show r = ((r * (D : Rat)).num : Rat) / ((D : Int) : Rat)
    rw [← z, show ((D : Int) : Rat) = (D : Rat) from rfl, Rat.mul_div_cancel d0]
  have m := divInt_mul_den (r * (D : Rat)).num (D : Int) (by omega)
  rw [← e] at m
  have m2 : r.num.natAbs * D = mag D r * r.den := by
    have z := congrArg Int.natAbs m
    rw [Int.natAbs_mul, Int.natAbs_mul] at z
    exact z
  have dv : r.den ∣ D := by
    have a : r.den ∣ r.num.natAbs * D := ⟨mag D r, by rw [m2, Nat.mul_comm]⟩
    exact Nat.Coprime.dvd_of_dvd_mul_left r.reduced.symm a
  have dl := Nat.le_of_dvd hD dv
  refine ⟨?_, dl⟩
  have a : r.num.natAbs * D ≤ mag D r * D := by
    rw [m2]
    exact Nat.mul_le_mul_left _ dl
  exact Nat.le_of_mul_le_mul_right a hD
section
variable {P : Program} {w : World} {K : PySem.W.Frag} {mg : Str → Option Value} {base : Heap} {C : Addr}
def spPartRaised (K : PySem.W.Frag) (w : World) (C : Addr) : Sp := fun vs H Q _ => ∃ (b : Addr) (M : Poly) (k : Int), vs = [.ref b, .int k] ∧ SumAt K w C H b M ∧ M.length < 2 ∧ 1 ≤ k ∧ k < 2 ^ 62 ∧
  (∀ x ∈ M, Canon x.1 ∧ x.2 ≠ 0 ∧ bg x.2.num ^ k.toNat < big ∧ bg (x.2.den : Int) ^ k.toNat < big ∧ x.1.length < 32 ∧ ∀ e ∈ x.1, e.2 < 2 ^ 62) ∧ ∀ p H', SumAt K w C H' p (powM M k.toNat) → Same H H' → H p = none → Q (.ref p) H'
theorem ok_part_raised {f : Addr} {fd : FuncData} (T : Txt K mg C) (F : DefAt K mg "_part_raised" "_part_raised" s_part_raised ["base", "power"] f fd) : FnOk P w K mg base CX0 4 f fd ["base", "power"] (spPartRaised K w C) := by
  obtain ⟨f1, fd1, D_number_raised⟩ := T.d_number_raised
  have G_number_raised : FnOk P w K mg base CX0 1 f1 fd1 ["number", "power"] spRaised := ok_number_raised T D_number_raised
  obtain ⟨f2, fd2, M_Sum, FI, b_Sum_init⟩ := T.mk_Sum
  have G_Sum_init : FnOk P w K mg base CX0 1 f2 fd2 ["self", "parts"] (spInit K w C) := ok_Sum_init T FI
  refine F.F.ok sc_part_raised (fun vs H Q E h => ?_) (fun cdv A outer s H vs Q E hr h => ?_)
  · obtain ⟨b, M, k, rfl, _⟩ := h
    rfl
  · obtain ⟨b, M, k, rfl, SM, hM, k1, k2, all, q⟩ := h
    obtain ⟨dx, d1, o1, L1, ep, n1, r1⟩ := id SM
    have l1 : L1.length = M.length := Paired.length r1
    obtain ⟨j, hj⟩ : ∃ j, k.toNat = j + 1 := ⟨k.toNat - 1, by omega⟩
    have ekj : k = ((j + 1 : Nat) : Int) := by omega
    refine ⟨_, (pss_cons (ps_set (i := 2) sc_part_raised.nd rfl (.inl rfl) pe_newN)
      (pss_cons (ps_for PassesOwn.never rfl (pi_itemsN (pe_fld (pv 0) rfl)) (pg_tup (by rfl) (pgs_cons (pg_name (i := 3) sc_part_raised.nd rfl (.inl rfl)) (pgs_cons (pg_tup (by rfl) (pgs_cons (pg_name (i := 4) sc_part_raised.nd rfl (.inl rfl)) (pgs_cons (pg_name (i := 5) sc_part_raised.nd rfl (.inl rfl)) pgs_nil))) pgs_nil))) (pss_cons (ps_set (i := 6) sc_part_raised.nd rfl (.inl rfl) (pe_tupleOf (by rfl) T.m_tuple (pe_lc (own := [("name", 7), ("many", 8)]) (g := gTup K 2 (gCons (gName 7) (gCons (gName 8) gNil))) (tt := tYes) rfl sc_part_raised.nd (pi_tup (pv 3)) (blkOk_by (own := [("name", 7), ("many", 8)]) (N := ["base", "power", "raised", "product", "top", "bottom", "risen", "name", "many"]) (sc := defScope s_part_raised) (by decide +kernel)) (fun _ _ _ _ _ => (pg_tup (by rfl) (pgs_cons (pg_name (i := 7) sc_part_raised.nd rfl (.inl rfl)) (pgs_cons (pg_name (i := 8) sc_part_raised.nd rfl (.inl rfl)) pgs_nil)))) (fun _ _ _ _ _ => pts_nil) (fun _ _ _ _ _ => (pe_tup (pa_cons (pv 7) (pa_cons (pe_op op_mulW (pv 8) (pv 1)) pa_nil))))))) (pss_one (ps_putN hr.units (pv 2) (pv 6) (pe_tup (pa_cons (pe_call G_number_raised (hr.mono (by decide)) (by rfl) D_number_raised.g D_number_raised.F.kp D_number_raised.b .nil pass0 (pa_cons (pv 4) (pa_cons (pv 1) pa_nil))) (pa_cons (pe_call G_number_raised (hr.mono (by decide)) (by rfl) D_number_raised.g D_number_raised.F.kp D_number_raised.b .nil pass0 (pa_cons (pv 5) (pa_cons (pv 1) pa_nil))) pa_nil))) rfl))))
      (pss_one (ps_ret (pe_make M_Sum G_Sum_init (hr.mono (by decide)) (by rfl) T.g_Sum b_Sum_init .nil pass0 (pa_cons (pv 2) pa_nil)))))), ?_⟩
    intro D nD sD
    have s0 : Same H (upd H D (ndO w D [])) := same_upd nD
    have e0 : (upd H D (ndO w D [])) D = some (ndO w D []) := upd_same
    have nd0 : ND K w (upd H D (ndO w D [])) D [] := .new sD
    refine ⟨_, rfl, b, C, dx, _, _, rfl, s0 _ _ ep, T.cl_Sum, T.n_Sum_parts, sumF_parts _, d1, o1, L1, rfl, n1.stay (.same s0) (fun o e => s0 _ _ e), for_itemsN (fun i σ H3 => ∃ v3 v4 v5 v6 v7 v8 : Option V, σ = [some (.ref b), some (.int k), some (.ref D), v3, v4, v5, v6, v7, v8] ∧ PartsAt K w H3 D ((M.take i).map fun x => (scaleP x.1 (j + 1), x.2 ^ (j + 1))) ∧ Else D (upd H D (ndO w D [])) H3)
      ⟨none, none, none, none, none, none, rfl, ⟨[], nd0, .nil⟩, .refl _ _⟩ (fun i σ H3 _ ⟨_, _, _, _, _, _, _, _, z⟩ => PartsAt.elseNF (n1.stay (.same s0) fun o e => s0 _ _ e) nd0 z) ?_ ?_⟩
    · rintro i kk v σ H3 Tt b2 hL ⟨v3, v4, v5, v6, v7, v8, rfl, pM, el⟩ nT hb
      obtain ⟨x, c, hMi, rfl, hq⟩ := r1.at_ hL
      have memM : (kk, c) ∈ M := List.mem_of_getElem? hMi
      have i0 : i = 0 := by
        have := (List.getElem?_eq_some_iff.mp hMi).1
        omega
      subst i0
      obtain ⟨c1, c2, c3, c4, c5, c6⟩ := all _ memM
      have c5 : kk.length < 32 := c5
      have sT : Same H3 (upd H3 Tt (.tup [.ref b2, .ref x])) := same_upd nT
      have hb3 : ProdAt K (upd H3 Tt (.tup [.ref b2, .ref x])) b2 kk := hb.stay (.same sT)
      have hq0 : SqT K (upd H D (ndO w D [])) x (ratV c) := SqT.keeps hq (TupsStay.same s0)
      have hq3 : SqT K (upd H3 Tt (.tup [.ref b2, .ref x])) x (ratV c) := SqT.keeps (SqT.keeps hq0 (el.tups e0 True.intro)) (TupsStay.same sT)
      refine ⟨Tt, [.ref b2, .ref x], rfl, SqT.of upd_same, rfl, _, [.ref x], rfl, _, [], rfl, ?_⟩
      have el3 := el.same sT
      have p3 := pM.stay (.same sT) fun u e => sT _ _ e
      generalize (upd H3 Tt (.tup [.ref b2, .ref x])) = H4 at el3 hb3 hq3 p3
      refine ⟨x, _, rfl, hq3, rfl, _, [.int (c.den : Int)], rfl, _, [], rfl, rfl, ?_⟩
      obtain ⟨qs, hqs, pqs⟩ := id hb3
      have lq : qs.length = kk.length := Paired.length pqs
      refine ⟨rfl, _, rfl, b2, rfl, ⟨_, hqs⟩, fun D2 nD2 => lc_tup (fun i H5 => ∃ ks : List Addr, H5 D2 = some (.lst (ks.map V.ref)) ∧ ks.length = i ∧ Paired (PairAt K H5) ks (scaleP (kk.take i) (j + 1)) ∧ Same H4 H5) ⟨[], upd_same, rfl, by rw [List.take_zero]; exact .nil, same_upd nD2⟩ (fun i H5 _ ⟨_, _, _, _, z⟩ => SqT.keeps hqs (TupsStay.same z)) ?_ ?_⟩
      · rintro i y H5 hy ⟨ks, e2, hl, pk, s5⟩
        obtain ⟨qa, e, rfl, he, hqa⟩ := Paired.ixR pqs hy
        have mem : e ∈ kk := List.mem_of_getElem? he
        have hi : i < kk.length := (List.getElem?_eq_some_iff.mp he).1
        have tk : scaleP (kk.take (i + 1)) (j + 1) = scaleP (kk.take i) (j + 1) ++ [(e.1, e.2 * ((j + 1 : Nat) : Int))] := by
          rw [List.take_add_one, he]
          unfold scaleP
          rw [List.map_append]
          rfl
        refine ⟨qa, _, rfl, SqT.keeps hqa (TupsStay.same s5), rfl, _, [.int e.2], rfl, _, [], rfl, rfl, rfl, ?_⟩
        unfold tYes
        simp only [↓reduceIte]
        have b1 := c1.one e mem
        have b2 := c6 e mem
        refine ⟨_, rfl, _, rfl, _, rfl, _, _, rfl, rfl, mulOk (a := 64) (b := 64) (by omega) (by omega) (by decide) (by decide) (by decide), (by show 2 ≤ sizeLine; decide), fun t nt => ?_⟩
        rw [ekj]
        have st : Same H5 (upd H5 t (.tup [.str e.1, .int (e.2 * ((j + 1 : Nat) : Int))])) := same_upd nt
        have e2t := st _ _ e2
        have eE : Else D2 (upd H5 t (.tup [.str e.1, .int (e.2 * ((j + 1 : Nat) : Int))])) (upd (upd H5 t (.tup [.str e.1, .int (e.2 * ((j + 1 : Nat) : Int))])) D2 (.lst ((ks.map V.ref) ++ [.ref t]))) := .upd
        have tt := eE.tups e2t True.intro
        refine ⟨_, e2t, ?_, ks ++ [t], by rw [upd_same, List.map_append]; rfl, by rw [List.length_append, hl]; rfl, ?_, fun c u ec => ?_⟩
        · rw [List.length_map, hl, sizeLine_eq]
          omega
        · rw [tk]
          exact Paired.snoc (Paired.mapP pk fun _ _ z => PairAt.stay (PairAt.stay z (TupsStay.same st)) tt) (SqT.keeps (SqT.of upd_same) tt)
        · rw [upd_ne (ne_of_none ec nD2)]
          exact st _ _ (s5 _ _ ec)
      · rintro H5 ⟨ks, e2, hl, pk, s5⟩
        rw [List.length_map, lq, List.take_length] at pk
        refine .inl ⟨D2, _, rfl, SqL.of e2, fun kq nkq => ?_⟩
        have s6 : Same H5 (upd H5 kq (.tup (ks.map V.ref))) := same_upd nkq
        have pk6 : ProdAt K (upd H5 kq (.tup (ks.map V.ref))) kq (scaleP kk (j + 1)) := ⟨ks, SqT.of upd_same, Paired.mapP pk fun _ _ z => PairAt.stay z (TupsStay.same s6)⟩
        have s46 := s5.trans s6
        generalize (upd H5 kq (.tup (ks.map V.ref))) = H6 at s46 pk6
        have kN : -(2 ^ 62) ≤ k := by omega
        refine ⟨_, rfl, _, rfl, c.num, k, rfl, c3, kN, k2, _, rfl, _, rfl, (c.den : Int), k, rfl, c4, kN, k2, (by show 2 ≤ sizeLine; decide), fun tv ntv => ?_⟩
        have st : Same H6 (upd H6 tv (.tup [.int (c.num ^ k.toNat), .int ((c.den : Int) ^ k.toNat)])) := same_upd ntv
        have s47 := s46.trans st
        have hv : SqT K (upd H6 tv (.tup [.int (c.num ^ k.toNat), .int ((c.den : Int) ^ k.toNat)])) tv (ratV (c ^ (j + 1))) := by
          rw [ratV_pow, ← hj]
          exact SqT.of upd_same
        have pk7 := pk6.stay (TupsStay.same st)
        generalize (upd H6 tv (.tup [.int (c.num ^ k.toNat), .int ((c.den : Int) ^ k.toNat)])) = H7 at s47 hv pk7
        have p7 := p3.stay (.same s47) fun u e => s47 _ _ e
        obtain ⟨L7, nd7, r7⟩ := p7
        have r7e : RatL K H7 L7 [] := r7
        cases r7e
        obtain ⟨xs7, ed7, na7⟩ := id nd7
        have tk1 : M.take (0 + 1) = [(kk, c)] := by
          rw [List.take_add_one, hMi]
          rfl
        refine ⟨_, rfl, _, rfl, D, [], scaleP kk (j + 1), kq, rfl, rfl, nd7, by rw [sizeLine_eq]; decide, pk7, fun o n2 => ?_⟩
        have tt : TupsStay H7 (upd H7 D o) := .upd ed7 True.intro
        refine ⟨_, _, _, _, _, _, rfl, ⟨_, n2, ?_⟩, (el3.same s47).trans .upd⟩
        rw [tk1]
        exact .cons ⟨rfl, tv, rfl, SqT.keeps hv tt⟩ .nil
    · rintro σ H3 ⟨v3, v4, v5, v6, v7, v8, rfl, pM, el⟩
      rw [l1, List.take_length] at pM
      have eM : (M.map fun x => (scaleP x.1 (j + 1), x.2 ^ (j + 1))) = powM M k.toNat := by
        rw [hj]
        cases M with
        | nil => exact (powM_none (by omega)).symm
        | cons x r =>
          cases r with
          | nil =>
            obtain ⟨c1, c2, _⟩ := all x (by simp)
            exact (powM_part c1 c2 j).symm
          | cons y t =>
            exfalso
            rw [List.length_cons, List.length_cons] at hM
            omega
      rw [eM] at pM
      have el0 : Same H H3 := Else.fresh nD s0 el
      exact ⟨_, rfl, fun x dx nx ndx nex => ⟨x, dx, D, _, rfl, upd_same, pM.made nx ndx, fun H2 sA kp => ⟨rfl, q x H2 sA (el0.trans (Same.made nx ndx kp)) (el0.free nx)⟩⟩⟩
end
section
variable {P : Program} {w : World} {K : PySem.W.Frag} {mg : Str → Option Value} {base : Heap} {C : Addr}
def spPowers (K : PySem.W.Frag) (w : World) (C : Addr) : Sp := fun vs H Q _ => ∃ (b l : Addr) (M : Poly) (ns : List Str) (n D S top : Nat) (ks : List Int), vs = [.ref b, .ref l] ∧ SumAt K w C H b M ∧ H l = some (.lst (ks.map V.int)) ∧ ks.Pairwise (· ≤ ·) ∧ (∀ k ∈ ks, 1 ≤ k ∧ k ≤ (top : Int)) ∧ ks.length < 1000 ∧ PowFit ns n D S top M ∧ top < 1000000 ∧
  ∀ p H', PowAt K w C H' p M ks → Same H H' → H p = none → Q (.ref p) H'
theorem ok_powers_of {f : Addr} {fd : FuncData} (T : Txt K mg C) (F : DefAt K mg "_powers_of" "_powers_of" s_powers_of ["base", "wanted"] f fd) : FnOk P w K mg base CX0 5 f fd ["base", "wanted"] (spPowers K w C) := by
  obtain ⟨f1, fd1, D_sum_of_number⟩ := T.d_sum_of_number
  have G_sum_of_number : FnOk P w K mg base CX0 4 f1 fd1 ["n"] (spNumber K w C) := ok_sum_of_number T D_sum_of_number
  obtain ⟨f3, fd3, D_part_raised⟩ := T.d_part_raised
  have G_part_raised : FnOk P w K mg base CX0 4 f3 fd3 ["base", "power"] (spPartRaised K w C) := ok_part_raised T D_part_raised
  obtain ⟨f5, fd5, D_timed⟩ := T.d_timed
  have G_timed : FnOk P w K mg base CX0 4 f5 fd5 ["one", "other"] (spTimed K w C) := ok_timed T D_timed
  refine F.F.ok sc_powers_of (fun vs H Q E h => ?_) (fun cdv A outer s H vs Q E hr h => ?_)
  · obtain ⟨b, l, M, ns, n, D, S, top, ks, rfl, _⟩ := h
    rfl
  · obtain ⟨b, l, M, ns, n, D, S, top, ks, rfl, SM, el, up, rg, hlen, pf, htop, q⟩ := h
    refine ⟨_, (pss_cons (ps_if (pt_cmpR op_lt (pe_callB call_lenN (by rfl) T.m_len (by decide +kernel) (pa_cons (pe_fld (pv 0) rfl) pa_nil)) pe_int (nomark _)) (pss_one (ps_ret (pe_dc (own := [("power", 2)]) (g := gName 2) (tt := tYes) rfl sc_powers_of.nd (pi_list (pv 1)) (blkOk_by (own := [("power", 2)]) (N := ["base", "wanted", "power", "found", "risen", "reached", "_"]) (sc := defScope s_powers_of) (by decide +kernel)) (fun _ _ _ _ _ => (pg_name (i := 2) sc_powers_of.nd rfl (.inl rfl))) (fun _ _ _ _ _ => pts_nil) (fun _ _ _ _ _ => (pv 2)) (fun _ _ _ _ _ => (pe_call G_part_raised (hr.mono (by decide)) (by rfl) D_part_raised.g D_part_raised.F.kp D_part_raised.b .nil pass0 (pa_cons (pv 0) (pa_cons (pv 2) pa_nil))))))) pss_nil)
      (pss_cons (ps_set (i := 3) sc_powers_of.nd rfl (.inl rfl) pe_dnewK)
      (pss_cons (ps_set (i := 4) sc_powers_of.nd rfl (.inl rfl) (pe_call G_sum_of_number (hr.mono (by decide)) (by rfl) D_sum_of_number.g D_sum_of_number.F.kp D_sum_of_number.b .nil pass0 (pa_cons pe_int pa_nil)))
      (pss_cons (ps_set (i := 5) sc_powers_of.nd rfl (.inl rfl) pe_int)
      (pss_cons (ps_for PassesOwn.never rfl (pi_list (pv 1)) (pg_name (i := 2) sc_powers_of.nd rfl (.inl rfl)) (pss_cons (ps_for PassesOwn.never rfl (pi_range2 rfl T.m_range (pa_cons (pv 5) (pa_cons (pv 2) pa_nil))) (pg_name (i := 6) sc_powers_of.nd rfl (.inl rfl)) (pss_one (ps_set (i := 4) sc_powers_of.nd rfl (.inl rfl) (pe_call G_timed (hr.mono (by decide)) (by rfl) D_timed.g D_timed.F.kp D_timed.b .nil pass0 (pa_cons (pv 4) (pa_cons (pv 0) pa_nil)))))) (pss_cons (ps_set (i := 5) sc_powers_of.nd rfl (.inl rfl) (pv 2)) (pss_one (ps_dput (room1 hr) (pv 3) (pv 2) (pv 4) rfl)))))
      (pss_one (ps_ret (pv 3)))))))), ?_⟩
    obtain ⟨dx, d1, o1, L1, ep, n1, r1⟩ := id SM
    have l1 : L1.length = M.length := Paired.length r1
    refine ⟨_, rfl, b, C, dx, _, _, rfl, ep, T.cl_Sum, T.n_Sum_parts, sumF_parts _, ?_⟩
    refine ⟨d1, L1, rfl, n1.r, _, _, rfl, rfl, _, rfl, ite2 (fun few => ?_) (fun many => ?_)⟩
    · have fewN : M.length < 2 := by
        have : decide ((L1.length : Int) < 2) = true := few
        have := of_decide_eq_true this
        omega
      refine ⟨_, rfl, l, rfl, ⟨_, SqL.of el⟩, fun Dd nD => dc_lst (fun i H3 => ∃ kvs : List (L2.Key × V), H3 Dd = some (.dK kvs) ∧ kvs.length ≤ i ∧ (∀ k ∈ ks.take i, ∃ q, valV kvs (.inl k) = some (.ref q) ∧ SumAt K w C H3 q (powM M k.toNat)) ∧ Same H H3) ⟨[], upd_same, Nat.le_refl 0, (fun k hk => by rw [List.take_zero] at hk; cases hk), same_upd nD⟩ (fun i H3 _ ⟨_, _, _, _, z⟩ => SqL.of (z _ _ el)) ?_ ?_⟩
      · rintro i x H3 hx ⟨kvs, e3, hl, hk, s3⟩
        rw [List.getElem?_map] at hx
        cases hy : ks[i]? with
        | none =>
          rw [hy] at hx
          cases hx
        | some k =>
          rw [hy] at hx
          cases hx
          have hi : i < ks.length := (List.getElem?_eq_some_iff.mp hy).1
          have mem : k ∈ ks := List.mem_of_getElem? hy
          have hk0 := rg k mem
          refine ⟨rfl, ?_⟩
          unfold tYes
          simp only [↓reduceIte]
          refine ⟨_, rfl, _, rfl, _, rfl, b, M, k, rfl, SM.same s3, fewN, hk0.1, by omega, fun x hx => ?_, fun p H4 Sp s4 n4 => ?_⟩
          · obtain ⟨w1, w2⟩ := pf.fit.one hx
            obtain ⟨m1, m2⟩ := small_parts pf.d1 w1
            have kt : k.toNat ≤ top := by omega
            have b1 : bg x.2.num ≤ S := by
              have := pf.s1
              unfold bg
              omega
            have b2 : bg (x.2.den : Int) ≤ D := by
              have := pf.d1
              unfold bg
              omega
            have o := pf.fit.good.pr x hx
            exact ⟨o.1, pf.fit.good.nz x hx, Nat.lt_of_le_of_lt (Nat.le_trans (Nat.pow_le_pow_left b1 _) (pow_up pf.s1 kt)) pf.sb, Nat.lt_of_le_of_lt (Nat.le_trans (Nat.pow_le_pow_left b2 _) (pow_up pf.d1 kt)) pf.db, Nat.lt_of_le_of_lt o.len pf.ns, pf.ex x hx⟩
          · have e4 := s4 _ _ e3
            have e45 : Else Dd H4 (upd H4 Dd (.dK (putK kvs (.inl k) (.ref p)))) := .upd
            refine ⟨kvs, .inl k, rfl, e4, by rw [sizeLine_eq]; omega, _, upd_same, ?_, fun j hj => ?_, fun c u ec => ?_⟩
            · have := length_putK kvs (.inl k) (V.ref p)
              omega
            · rw [valV_put]
              by_cases z : j = k
              · subst z
                exact ⟨p, by rw [if_pos rfl], Sp.else e45 e4⟩
              · rw [if_neg (by simpa using z)]
                have hj' : j ∈ ks.take i := by
                  rw [List.take_add_one, hy] at hj
                  rcases List.mem_append.mp hj with y | y
                  · exact y
                  · exact absurd (by simpa using y) z
                obtain ⟨g, g1, g2⟩ := hk j hj'
                exact ⟨g, g1, (g2.same s4).else e45 e4⟩
            · rw [upd_ne (ne_of_none ec nD)]
              exact s4 _ _ (s3 _ _ ec)
      · rintro H3 ⟨kvs, e3, hl, hk, s3⟩
        rw [List.length_map, List.take_length] at hk
        exact q Dd H3 ⟨kvs, e3, hk⟩ s3 nD
    · clear many
      intro d nd
      have s0 : Same H (upd H d (.dK [])) := same_upd nd
      refine ⟨1, rfl, by decide +kernel, fun r0 H1 S1 s1 nr0 => ?_⟩
      have e1 : H1 d = some (.dK []) := s1 _ _ upd_same
      have s01 := s0.trans s1
      have SM1 := SM.same s01
      have el1 := s01 _ _ el
      refine ⟨_, rfl, l, rfl, ⟨_, SqL.of el1⟩, for_list (fun i σ H2 => ∃ (v5 v6 : Option V) (r : Addr) (m : Int) (kvs : List (L2.Key × V)), σ = [some (.ref b), some (.ref l), v5, some (.ref d), some (.ref r), some (.int m), v6] ∧ H2 d = some (.dK kvs) ∧ kvs.length ≤ i ∧ 0 ≤ m ∧ m ≤ (top : Int) ∧ (∀ k ∈ ks.drop i, m ≤ k) ∧
        SumAt K w C H2 r (powM M m.toNat) ∧ (∀ k ∈ ks.take i, ∃ q, valV kvs (.inl k) = some (.ref q) ∧ SumAt K w C H2 q (powM M k.toNat)) ∧ Else d H1 H2)
        ⟨none, none, r0, 0, [], rfl, e1, Nat.le_refl 0, Int.le_refl 0, by omega, fun k hk => (by have := (rg k (by simpa using hk)).1; omega), S1, (fun k hk => by rw [List.take_zero] at hk; cases hk), .refl _ _⟩
        (fun i σ H2 _ ⟨_, _, _, _, _, _, _, _, _, _, _, _, _, z⟩ => SqL.of (z _ _ el1 (ne_of_none el nd))) ?_ ?_⟩
      · rintro i x σ H2 hx ⟨v5, v6, r, m, kvs, rfl, e2, hl, m0, mt, mk, Sr, hk, e12⟩
        rw [List.getElem?_map] at hx
        cases hy : ks[i]? with
        | none =>
          rw [hy] at hx
          cases hx
        | some k =>
          rw [hy] at hx
          cases hx
          have hi : i < ks.length := (List.getElem?_eq_some_iff.mp hy).1
          have mem : k ∈ ks := List.mem_of_getElem? hy
          have hk0 := rg k mem
          have dr : ks.drop i = k :: ks.drop (i + 1) := by
            rw [List.drop_eq_getElem_cons hi, (List.getElem?_eq_some_iff.mp hy).2]
          have mle : m ≤ k := mk k (by rw [dr]; simp)
          have SM2 : SumAt K w C H2 b M := SM1.else e12 e1
          refine ⟨_, rfl, _, rfl, m, k, rfl, ⟨by omega, by omega, by omega, by omega⟩, for_range (lo := m) (n := (k - m).toNat) (fun t σ H3 => ∃ (v6 : Option V) (r : Addr), σ = [some (.ref b), some (.ref l), some (.int k), some (.ref d), some (.ref r), some (.int m), v6] ∧ SumAt K w C H3 r (powM M (m.toNat + t)) ∧ Same H2 H3) ⟨v6, r, rfl, Sr, fun _ _ e => e⟩ ?_ ?_⟩
          · rintro t σ H3 ht ⟨v6, r, rfl, Sr, s3⟩
            have jt : m.toNat + t + 1 ≤ top := by omega
            have j1 := fit_pow pf.fit (m.toNat + t)
            have hd1 : D ^ (m.toNat + t) * D < big := by rw [← Nat.pow_succ]; exact Nat.lt_of_le_of_lt (pow_up pf.d1 jt) pf.db
            have hs1 : S ^ (m.toNat + t) * S < big := by rw [← Nat.pow_succ]; exact Nat.lt_of_le_of_lt (pow_up pf.s1 jt) pf.sb
            have hn1 : n ^ (m.toNat + t) * n < sizeLine := by rw [← Nat.pow_succ]; exact Nat.lt_of_le_of_lt (pow_up pf.n1 jt) pf.nb
            refine ⟨_, rfl, _, rfl, r, b, _, _, Of ns, _, _, _, D, _, S, rfl, Sr, SM2.same s3, j1, pf.fit, Nat.pow_pos pf.d1, pf.d1, hd1, ?_, ?_, hs1, hn1, fun _ _ => Of.join, fun a ha => ⟨ha.1, Nat.lt_of_le_of_lt ha.len pf.ns⟩, fun r' H' Sr' s' nr' => ⟨_, r', rfl, Sr', s3.trans s'⟩⟩
            · exact Nat.lt_of_le_of_lt (Nat.le_mul_of_pos_right _ pf.s1) hs1
            · exact Nat.lt_of_le_of_lt (Nat.le_mul_of_pos_left _ (Nat.pow_pos pf.s1)) hs1
          · rintro σ H3 ⟨v6, r, rfl, Sr, s3⟩
            have ek : m.toNat + (k - m).toNat = k.toNat := by omega
            rw [ek] at Sr
            have e3 := s3 _ _ e2
            refine ⟨_, rfl, _, rfl, _, rfl, _, rfl, d, _, rfl, DPut.k (k := .inl k) e3 ?_, ?_⟩
            · rw [sizeLine_eq]
              omega
            · have e34 : Else d H3 (upd H3 d (.dK (putK kvs (.inl k) (.ref r)))) := .upd
              refine ⟨_, _, r, k, _, rfl, upd_same, ?_, (by omega), hk0.2, ?_, Sr.else e34 e3, fun j hj => ?_, (e12.same s3).trans e34⟩
              · have := length_putK kvs (.inl k) (V.ref r)
                omega
              · intro j hj
                have u := up.sublist (List.drop_sublist i ks)
                rw [dr] at u
                exact (List.pairwise_cons.mp u).1 j hj
              · rw [valV_put]
                by_cases z : j = k
                · subst z
                  exact ⟨r, by rw [if_pos rfl], Sr.else e34 e3⟩
                · rw [if_neg (by simpa using z)]
                  have hj' : j ∈ ks.take i := by
                    rw [List.take_add_one, hy] at hj
                    rcases List.mem_append.mp hj with y | y
                    · exact y
                    · exact absurd (by simpa using y) z
                  obtain ⟨g, g1, g2⟩ := hk j hj'
                  exact ⟨g, g1, (g2.same s3).else e34 e3⟩
      · rintro σ H2 ⟨v5, v6, r, m, kvs, rfl, e2, hl, m0, mt, mk, Sr, hk, e12⟩
        rw [List.length_map, List.take_length] at hk
        exact ⟨_, rfl, q d H2 ⟨kvs, e2, hk⟩ (Else.fresh nd s01 e12) nd⟩
end
/-! ### which powers of which names are wanted -/
abbrev Want := List (Str × Addr × List Int)
def wV (W : Want) : List (L2.Key × V) := W.map fun e => (Sum.inr e.1, V.ref e.2.1)
def kT (ks : List Int) : List (L2.Key × V) := ks.map fun k => (Sum.inl k, V.bl true)
theorem wV_len (W : Want) : (wV W).length = W.length := List.length_map ..
theorem kT_len (ks : List Int) : (kT ks).length = ks.length := List.length_map ..
theorem wV_val {W : Want} (hn : (W.map (·.1)).Nodup) {e : Str × Addr × List Int} (he : e ∈ W) : valV (wV W) (.inr e.1) = some (.ref e.2.1) := by
  induction W with
  | nil => cases he
  | cons f r ih =>
    rw [List.map_cons] at hn
    obtain ⟨n1, n2⟩ := List.nodup_cons.mp hn
    rcases List.mem_cons.mp he with z | z
    · subst z
      exact valV_pos rfl
    · have ne : ¬ ((Sum.inr f.1 : L2.Key) = .inr e.1) := fun y => n1 (by rw [Sum.inr.inj y]; exact List.mem_map.mpr ⟨e, z, rfl⟩)
      show valV ((Sum.inr f.1, V.ref f.2.1) :: wV r) _ = _
      rw [valV_neg ne]
      exact ih n2 z
theorem wV_some {W : Want} {x : Str} {v : V} (h : valV (wV W) (.inr x) = some v) : ∃ e ∈ W, e.1 = x ∧ v = .ref e.2.1 := by
  induction W with
  | nil => cases h
  | cons f r ih =>
    by_cases z : f.1 = x
    · rw [show wV (f :: r) = (Sum.inr f.1, V.ref f.2.1) :: wV r from rfl, valV_pos (by rw [z])] at h
      exact ⟨f, by simp, z, (Option.some.inj h).symm⟩
    · rw [show wV (f :: r) = (Sum.inr f.1, V.ref f.2.1) :: wV r from rfl, valV_neg (by simpa using z)] at h
      obtain ⟨e, he, a, b⟩ := ih h
      exact ⟨e, by simp [he], a, b⟩
theorem wV_none {W : Want} {x : Str} (h : valV (wV W) (.inr x) = none) : ∀ e ∈ W, e.1 ≠ x := by
  intro e he z
  induction W with
  | nil => cases he
  | cons f r ih =>
    by_cases y : f.1 = x
    · rw [show wV (f :: r) = (Sum.inr f.1, V.ref f.2.1) :: wV r from rfl, valV_pos (by rw [y])] at h
      cases h
    · rw [show wV (f :: r) = (Sum.inr f.1, V.ref f.2.1) :: wV r from rfl, valV_neg (by simpa using y)] at h
      rcases List.mem_cons.mp he with q | q
      · subst q
        exact y z
      · exact ih h q
theorem wV_no {W : Want} {x : Str} (h : ∀ e ∈ W, e.1 ≠ x) : valV (wV W) (.inr x) = none := by
  cases e : valV (wV W) (.inr x) with
  | none => rfl
  | some v =>
    obtain ⟨f, hf, a, _⟩ := wV_some e
    exact absurd a (h f hf)
def addK (ks : List Int) (k : Int) : List Int := if k ∈ ks then ks else ks ++ [k]
theorem addK_mem (ks : List Int) (k : Int) (j : Int) : j ∈ addK ks k ↔ j ∈ ks ∨ j = k := by
  unfold addK
  split
  · rename_i h
    exact ⟨.inl, fun z => z.elim id fun e => by rw [e]; exact h⟩
  · simp
theorem addK_nodup {ks : List Int} (k : Int) (h : ks.Nodup) : (addK ks k).Nodup := by
  unfold addK
  split
  · exact h
  · rename_i n
    refine List.nodup_append.mpr ⟨h, by simp, fun a ha b hb z => ?_⟩
    have eb : b = k := by simpa using hb
    subst z
    subst eb
    exact n ha
theorem kT_put (ks : List Int) (k : Int) : putK (kT ks) (.inl k) (.bl true) = kT (addK ks k) := by
  unfold putK addK kT
  have e : ((ks.map fun k => ((Sum.inl k : L2.Key), V.bl true)).any fun kv => decide (kv.1 = (Sum.inl k : L2.Key))) = decide (k ∈ ks) := by
    rw [List.any_map]
    induction ks with
    | nil => rfl
    | cons a r ih =>
      rw [List.any_cons, ih]
      by_cases z : a = k
      · simp [z]
      · have z' : ¬ k = a := fun y => z y.symm
        simp [z, z']
  rw [e]
  by_cases c : k ∈ ks
  · rw [if_pos (by simpa using c), if_pos c, List.map_map]
    refine List.map_congr_left fun a _ => ?_
    show (if (Sum.inl a : L2.Key) = Sum.inl k then ((Sum.inl a : L2.Key), V.bl true) else (Sum.inl a, V.bl true)) = _
    split <;> rfl
  · rw [if_neg (by simpa using c), if_neg c, List.map_append]
    rfl
def addW (W : Want) (x : Str) (k : Int) : Want := W.map fun e => if e.1 = x then (e.1, e.2.1, addK e.2.2 k) else e
theorem addW_V (W : Want) (x : Str) (k : Int) : wV (addW W x k) = wV W := by
  unfold wV addW
  rw [List.map_map]
  refine List.map_congr_left fun e _ => ?_
  show (Sum.inr (if e.1 = x then (e.1, e.2.1, addK e.2.2 k) else e).1, V.ref (if e.1 = x then (e.1, e.2.1, addK e.2.2 k) else e).2.1) = _
  split <;> rfl
theorem addW_names (W : Want) (x : Str) (k : Int) : (addW W x k).map (·.1) = W.map (·.1) := by
  unfold addW
  rw [List.map_map]
  refine List.map_congr_left fun e _ => ?_
  show (if e.1 = x then (e.1, e.2.1, addK e.2.2 k) else e).1 = _
  split <;> rfl
theorem addW_addrs (W : Want) (x : Str) (k : Int) : (addW W x k).map (·.2.1) = W.map (·.2.1) := by
  unfold addW
  rw [List.map_map]
  refine List.map_congr_left fun e _ => ?_
  show (if e.1 = x then (e.1, e.2.1, addK e.2.2 k) else e).2.1 = _
  split <;> rfl
def HasW (W : Want) (x : Str) (k : Int) : Prop := ∃ e ∈ W, e.1 = x ∧ k ∈ e.2.2
theorem HasW.add {W : Want} {y : Str} {j : Int} (x : Str) (k : Int) (h : HasW W y j) : HasW (addW W x k) y j := by
  obtain ⟨e, he, a, b⟩ := h
  refine ⟨_, List.mem_map.mpr ⟨e, he, rfl⟩, ?_⟩
  show (if e.1 = x then (e.1, e.2.1, addK e.2.2 k) else e).1 = y ∧ j ∈ (if e.1 = x then (e.1, e.2.1, addK e.2.2 k) else e).2.2
  split
  · exact ⟨a, (addK_mem _ _ _).mpr (.inl b)⟩
  · exact ⟨a, b⟩
theorem HasW.now {W : Want} {x : Str} {k : Int} {e : Str × Addr × List Int} (he : e ∈ W) (hx : e.1 = x) : HasW (addW W x k) x k := by
  refine ⟨_, List.mem_map.mpr ⟨e, he, rfl⟩, ?_⟩
  show (if e.1 = x then (e.1, e.2.1, addK e.2.2 k) else e).1 = x ∧ k ∈ (if e.1 = x then (e.1, e.2.1, addK e.2.2 k) else e).2.2
  rw [if_pos hx]
  exact ⟨hx, (addK_mem _ _ _).mpr (.inr rfl)⟩
/-- the dict D of dicts; all of them new since H0 -/
structure WAt (H0 H : Hp) (D : Addr) (W : Want) (dom : Str → Prop) (top : Nat) : Prop where
  d : H D = some (.dK (wV W))
  nd : (W.map (·.1)).Nodup
  ad : (W.map (·.2.1)).Nodup
  ne : ∀ e ∈ W, e.2.1 ≠ D
  new : ∀ e ∈ W, H0 e.2.1 = none
  at_ : ∀ e ∈ W, H e.2.1 = some (.dK (kT e.2.2))
  dom : ∀ e ∈ W, dom e.1
  nk : ∀ e ∈ W, e.2.2.Nodup
  rg : ∀ e ∈ W, ∀ k ∈ e.2.2, 1 ≤ k ∧ k ≤ (top : Int)
theorem WAt.same {H0 H H' : Hp} {D : Addr} {W : Want} {dom : Str → Prop} {top : Nat} (h : WAt H0 H D W dom top) (s : Same H H') : WAt H0 H' D W dom top := ⟨s _ _ h.d, h.nd, h.ad, h.ne, h.new, fun e he => s _ _ (h.at_ e he), h.dom, h.nk, h.rg⟩
theorem WAt.make {H0 H : Hp} {D : Addr} {W : Want} {dom : Str → Prop} {top : Nat} (h : WAt H0 H D W dom top) {x : Str} {a : Addr} (hx : dom x) (no : valV (wV W) (.inr x) = none) (s0 : Same H0 H) (na : H a = none) :
    WAt H0 (upd (upd H a (.dK [])) D (.dK (putK (wV W) (.inr x) (.ref a)))) D (W ++ [(x, a, [])]) dom top := by
  have aD : a ≠ D := (ne_of_none h.d na).symm
  have h0a : H0 a = none := by
    cases e : H0 a with
    | none => rfl
    | some u =>
      have := s0 _ _ e
      rw [na] at this
      cases this
  have cs : ∀ {Q : Str × Addr × List Int → Prop}, (∀ e ∈ W, Q e) → Q (x, a, []) → ∀ e ∈ W ++ [(x, a, [])], Q e := fun h1 h2 e he => by
    rcases List.mem_append.mp he with z | z
    · exact h1 e z
    · rw [show e = (x, a, []) by simpa using z]
      exact h2
  refine ⟨?_, ?_, ?_, cs h.ne aD, cs h.new h0a, cs (fun e he => ?_) ?_, cs h.dom hx, cs h.nk List.nodup_nil, cs h.rg fun _ hk => nomatch hk⟩
  · rw [upd_same, putK_new _ no]
    unfold wV
    rw [List.map_append]
    rfl
  · rw [List.map_append]
    refine List.nodup_append.mpr ⟨h.nd, by simp, fun b hb c hc z => ?_⟩
    obtain ⟨e, he, ee⟩ := List.mem_map.mp hb
    have ec : c = x := by simpa using hc
    exact wV_none no e he (by rw [ee, z, ec])
  · rw [List.map_append]
    refine List.nodup_append.mpr ⟨h.ad, by simp, fun b hb c hc z => ?_⟩
    obtain ⟨e, he, ee⟩ := List.mem_map.mp hb
    have ec : c = a := by simpa using hc
    have := h.at_ e he
    have e1 : e.2.1 = a := by rw [ee, z, ec]
    rw [e1, na] at this
    cases this
  · rw [upd_ne (h.ne e he), upd_ne (ne_of_none (h.at_ e he) na)]
    exact h.at_ e he
  · rw [upd_ne aD]
    exact upd_same
theorem WAt.put {H0 H : Hp} {D : Addr} {W : Want} {dom : Str → Prop} {top : Nat} (h : WAt H0 H D W dom top) {e : Str × Addr × List Int} (he : e ∈ W) {k : Int} (hk : 1 ≤ k ∧ k ≤ (top : Int)) :
    WAt H0 (upd H e.2.1 (.dK (putK (kT e.2.2) (.inl k) (.bl true)))) D (addW W e.1 k) dom top := by
  have uniq : ∀ f ∈ W, f.1 = e.1 → f = e := fun f hf z => by
    obtain ⟨i, hi⟩ := List.mem_iff_getElem?.mp hf
    obtain ⟨j, hj⟩ := List.mem_iff_getElem?.mp he
    have a : (W.map (·.1))[i]? = some e.1 := by rw [List.getElem?_map, hi, ← z]; rfl
    have b : (W.map (·.1))[j]? = some e.1 := by rw [List.getElem?_map, hj]; rfl
    have := nd_ix h.nd a b
    subst this
    rw [hi] at hj
    exact Option.some.inj hj
  have uniqA : ∀ f ∈ W, f.2.1 = e.2.1 → f = e := fun f hf z => by
    obtain ⟨i, hi⟩ := List.mem_iff_getElem?.mp hf
    obtain ⟨j, hj⟩ := List.mem_iff_getElem?.mp he
    have a : (W.map (·.2.1))[i]? = some e.2.1 := by rw [List.getElem?_map, hi, ← z]; rfl
    have b : (W.map (·.2.1))[j]? = some e.2.1 := by rw [List.getElem?_map, hj]; rfl
    have := nd_ix h.ad a b
    subst this
    rw [hi] at hj
    exact Option.some.inj hj
  have cs : ∀ {Q : Str × Addr × List Int → Prop}, (∀ f ∈ W, f.1 ≠ e.1 → Q f) → Q (e.1, e.2.1, addK e.2.2 k) → ∀ f ∈ addW W e.1 k, Q f := fun h1 h2 f hf => by
    obtain ⟨g, hg, eg⟩ := List.mem_map.mp hf
    by_cases z : g.1 = e.1
    · rw [if_pos z, uniq g hg z] at eg
      rw [← eg]
      exact h2
    · rw [if_neg z] at eg
      rw [← eg]
      exact h1 g hg z
  refine ⟨?_, by rw [addW_names]; exact h.nd, by rw [addW_addrs]; exact h.ad, cs (fun f hf _ => h.ne f hf) (h.ne e he), cs (fun f hf _ => h.new f hf) (h.new e he), cs (fun f hf z => ?_) ?_, cs (fun f hf _ => h.dom f hf) (h.dom e he), cs (fun f hf _ => h.nk f hf) (addK_nodup k (h.nk e he)), cs (fun f hf _ => h.rg f hf) fun j hj => ?_⟩
  · rw [upd_ne (h.ne e he).symm, addW_V]
    exact h.d
  · rw [upd_ne fun y => z (by rw [uniqA f hf y])]
    exact h.at_ f hf
  · rw [upd_same, kT_put]
  · rcases (addK_mem _ _ _).mp hj with y | y
    · exact h.rg e he j y
    · rw [y]
      exact hk
theorem WAt.lens {H0 H : Hp} {D : Addr} {W : Want} {dom : Str → Prop} {top : Nat} (h : WAt H0 H D W dom top) : ∀ e ∈ W, e.2.2.length ≤ top := fun e he => by
  have z := nodup_len (m := (List.range top).map fun i : Nat => ((i : Int) + 1)) (h.nk e he) fun k hk => by
    have := h.rg e he k hk
    refine List.mem_map.mpr ⟨(k - 1).toNat, List.mem_range.mpr (by omega), by omega⟩
  rw [List.length_map, List.length_range] at z
  exact z
/-! ### the wanted powers of what is put in -/
theorem dc_keys {d : Addr} {o : Obj} {kvs : List (L2.Key × V)} {g : TG} {tt : TT} {tk tv : TE} {vs : List Nat} {σ : L2.St} {H1 : Hp} {D : Addr} {Qd : Hp → Prop} (Pv : Nat → Hp → Prop) (h0 : Pv 0 (upd H1 D (.dK []))) (hl : ∀ i H, i ≤ kvs.length → Pv i H → H d = some (.frz o (.dK kvs)))
    (hs : ∀ i k v H, kvs[i]? = some (k, v) → Pv i H → g (kV k) (wipe σ vs) H fun σ2 H2 => wipe σ2 vs = wipe σ vs ∧ tt σ2 H2 fun b H3 =>
      if b = true then tk σ2 H3 fun y H4 => tv σ2 H4 fun z H5 => ∃ kvs k, y = kV k ∧ H5 D = some (.dK kvs) ∧ kvs.length < sizeLine ∧ Pv (i + 1) (upd H5 D (.dK (putK kvs k z))) else Pv (i + 1) H3) (hd : ∀ H, Pv kvs.length H → Qd H) :
    ∃ W : Nat → Nat → Hp → Prop, (∃ m, W 0 m (upd H1 D (.dK []))) ∧ ∀ i m H, W i m H →
      ((Itk d o kvs).stop i H ∧ Qd H) ∨ ((Itk d o kvs).go i H ∧ ∃ Nx : Hp → Prop, (∀ H', Nx H' → ∃ m', m' < m ∧ W (i + 1) m' H') ∧ ∀ x H', (Itk d o kvs).yld i H x H' → g x (wipe σ vs) H' fun σ2 H2 => wipe σ2 vs = wipe σ vs ∧ tt σ2 H2 fun b H3 =>
        if b = true then tk σ2 H3 fun y H4 => tv σ2 H4 fun z H5 => ∃ kvs k, y = kV k ∧ H5 D = some (.dK kvs) ∧ kvs.length < sizeLine ∧ Nx (upd H5 D (.dK (putK kvs k z))) else Nx H3) := by
  refine ⟨fun i m H => m = kvs.length - i ∧ i ≤ kvs.length ∧ Pv i H, ⟨kvs.length, by simp, Nat.zero_le _, h0⟩, ?_⟩
  rintro i m H ⟨rfl, hi, p⟩
  have F := hl i H hi p
  by_cases lt : i < kvs.length
  · refine .inr ⟨⟨F, lt⟩, Pv (i + 1), fun H' p' => ⟨kvs.length - (i + 1), by omega, rfl, lt, p'⟩, fun x H' ⟨eH, k, v, hL, ex⟩ => ?_⟩
    subst ex
    subst eH
    exact hs i k v _ hL p
  · have e : i = kvs.length := by omega
    subst e
    exact .inl ⟨⟨F, Nat.le_refl _⟩, hd H p⟩
/-- the dict of what is put in -/
structure FillAt (K : PySem.W.Frag) (w : World) (C : Addr) (H : Hp) (d : Addr) (F : Str → Option Poly) (fk : List (L2.Key × V)) : Prop where
  d : H d = some (.dK fk)
  no : ∀ x, F x = none → valV fk (.inr x) = none
  yes : ∀ x N, F x = some N → ∃ s, valV fk (.inr x) = some (.ref s) ∧ SumAt K w C H s N
theorem FillAt.same {K w C H H' d F fk} (h : FillAt K w C H d F fk) (s : Same H H') : FillAt K w C H' d F fk := ⟨s _ _ h.d, h.no, fun x N e => let ⟨q, a, b⟩ := h.yes x N e; ⟨q, a, b.same s⟩⟩
/-- .. raised to all powers that are wanted for M -/
def RisenAt (K : PySem.W.Frag) (w : World) (C : Addr) (H : Hp) (r : Addr) (F : Str → Option Poly) (M : Poly) : Prop := ∃ kvs : List (L2.Key × V), H r = some (.dK kvs) ∧ ∀ y ∈ M, ∀ e ∈ y.1, (F e.1 = none → valV kvs (.inr e.1) = none) ∧
  ∀ N, F e.1 = some N → ∃ (q s : Addr) (pk : List (L2.Key × V)), valV kvs (.inr e.1) = some (.ref q) ∧ H q = some (.dK pk) ∧ valV pk (.inl e.2) = some (.ref s) ∧ SumAt K w C H s (powM N e.2.toNat)
theorem PowAt.else {K : PySem.W.Frag} {w : World} {C : Addr} {H H' : Hp} {p d : Addr} {M : Poly} {ks : List Int} {kvs : List (L2.Key × V)} (h : PowAt K w C H p M ks) (e : Else d H H') (hd : H d = some (.dK kvs)) (n : p ≠ d) : PowAt K w C H' p M ks := by
  obtain ⟨pk, hp, a⟩ := h
  exact ⟨pk, e _ _ hp n, fun k hk => let ⟨q, b, c⟩ := a k hk; ⟨q, b, c.else e hd⟩⟩
theorem PowAt.same {K : PySem.W.Frag} {w : World} {C : Addr} {H H' : Hp} {p : Addr} {M : Poly} {ks : List Int} (h : PowAt K w C H p M ks) (s : Same H H') : PowAt K w C H' p M ks := by
  obtain ⟨pk, hp, a⟩ := h
  exact ⟨pk, s _ _ hp, fun k hk => let ⟨q, b, c⟩ := a k hk; ⟨q, b, c.same s⟩⟩
section
variable {P : Program} {w : World} {K : PySem.W.Frag} {mg : Str → Option Value} {base : Heap} {C : Addr}
def spFillings (K : PySem.W.Frag) (w : World) (C : Addr) : Sp := fun vs H Q _ => ∃ (p d : Addr) (M : Poly) (F : Str → Option Poly) (fk : List (L2.Key × V)) (ns : List Str) (n D S top : Nat), vs = [.ref p, .ref d] ∧ SumAt K w C H p M ∧ FillAt K w C H d F fk ∧ (∀ x N, F x = some N → PowFit ns n D S top N) ∧ ns.length < 32 ∧ top < 900 ∧
  (∀ y ∈ M, ∀ e ∈ y.1, e.1 ∈ ns ∧ 1 ≤ e.2 ∧ e.2 ≤ (top : Int)) ∧ ∀ r H', RisenAt K w C H' r F M → Same H H' → Q (.ref r) H'
theorem ok_risen_fillings {f : Addr} {fd : FuncData} (T : Txt K mg C) (FF : DefAt K mg "_risen_fillings" "_risen_fillings" s_risen_fillings ["given", "filling"] f fd) : FnOk P w K mg base CX0 6 f fd ["given", "filling"] (spFillings K w C) := by
  obtain ⟨f1, fd1, D_powers_of⟩ := T.d_powers_of
  have G_powers_of : FnOk P w K mg base CX0 5 f1 fd1 ["base", "wanted"] (spPowers K w C) := ok_powers_of T D_powers_of
  refine FF.F.ok sc_risen_fillings (fun vs H Q E h => ?_) (fun cdv A outer s H vs Q E hr h => ?_)
  · obtain ⟨p, d, M, F, fk, ns, n, D, S, top, rfl, _⟩ := h
    rfl
  · obtain ⟨p, d, M, F, fk, ns, n, D, S, top, rfl, SM, FA, pf, hns, htop, hM, q⟩ := h
    obtain ⟨dx, d1, o1, L1, ep, n1, r1⟩ := id SM
    have l1 : L1.length = M.length := Paired.length r1
    refine ⟨_, (pss_cons (ps_set (i := 2) sc_risen_fillings.nd rfl (.inr rfl) pe_dnewK)
      (pss_cons (ps_freeze (ps_for PassesOwn.never rfl (pi_keysN (pe_fld (pv 0) rfl)) (pg_name (i := 3) sc_risen_fillings.nd rfl (.inl rfl)) (pss_one (ps_for PassesOwn.never rfl (pi_tup (pv 3)) (pg_tup (by rfl) (pgs_cons (pg_name (i := 4) sc_risen_fillings.nd rfl (.inl rfl)) (pgs_cons (pg_name (i := 5) sc_risen_fillings.nd rfl (.inl rfl)) pgs_nil))) (pss_one (ps_if (pt_cmp (pc_din (room1 hr) (pv 4) (pv 1)) (by rfl)) (pss_one (ps_dput (room1 hr) (pe_dsetd (pv 2) (pv 4) pe_dnewK ⟨rfl, rfl, rfl, rfl⟩) (pv 5) pe_bl rfl)) pss_nil))))))
      (pss_one (ps_ret (pe_dc (own := [("name", 4)]) (g := gName 4) (tt := tYes) rfl sc_risen_fillings.nd (pi_keys (pv 2)) (blkOk_by (own := [("name", 4)]) (N := ["given", "filling", "wanted", "product", "name", "power"]) (sc := defScope s_risen_fillings) (by decide +kernel)) (fun _ _ _ _ _ => (pg_name (i := 4) sc_risen_fillings.nd rfl (.inl rfl))) (fun _ _ _ _ _ => pts_nil) (fun _ _ _ _ _ => (pv 4)) (fun _ _ _ _ _ => (pe_call G_powers_of (hr.mono (by decide)) (by rfl) D_powers_of.g D_powers_of.F.kp D_powers_of.b .nil pass0 (pa_cons (pe_dget (room1 hr) (pv 1) (pv 4) (fun _ _ => rfl)) (pa_cons (pe_callB (cr_sortedDI rfl) (by rfl) T.m_sorted (by decide +kernel) (pa_cons (pe_dget (room1 hr) (pv 2) (pv 4) (fun _ _ => rfl)) pa_nil)) pa_nil))))))))), ?_⟩
    intro wd nwd
    have s0 : Same H (upd H wd (.dK [])) := same_upd nwd
    let dom : Str → Prop := fun x => x ∈ ns ∧ F x ≠ none
    refine ⟨_, rfl, p, C, dx, _, _, rfl, s0 _ _ ep, T.cl_Sum, T.n_Sum_parts, sumF_parts _, d1, o1, L1, rfl, n1.stay (.same s0) (fun o e => s0 _ _ e), for_keysN (fun i σ H2 => ∃ (v3 v4 v5 : Option V) (W : Want), σ = [some (.ref p), some (.ref d), some (.ref wd), v3, v4, v5] ∧ WAt H H2 wd W dom top ∧ (∀ y ∈ M.take i, ∀ e ∈ y.1, F e.1 ≠ none → HasW W e.1 e.2) ∧ Same H H2)
      ⟨none, none, none, [], rfl, ⟨upd_same, List.nodup_nil, List.nodup_nil, (fun _ h => nomatch h), (fun _ h => nomatch h), (fun _ h => nomatch h), (fun _ h => nomatch h), (fun _ h => nomatch h), (fun _ h => nomatch h)⟩, (fun y hy => by rw [List.take_zero] at hy; cases hy), s0⟩
      (fun i σ H2 _ ⟨_, _, _, _, _, _, _, z⟩ => n1.stay (.same z) fun o e => z _ _ e) ?_ ?_⟩
    · rintro i kk v σ H2 b hL ⟨v3, v4, v5, W, rfl, WA, hW, s2⟩ hb
      obtain ⟨x, r, hMi, rfl, hq⟩ := r1.at_ hL
      have memM : (kk, r) ∈ M := List.mem_of_getElem? hMi
      obtain ⟨qs, hqs, pqs⟩ := id hb
      have lq : qs.length = kk.length := Paired.length pqs
      refine ⟨_, rfl, b, rfl, ⟨_, hqs⟩, for_tup (fun j σ H3 => ∃ (v4 v5 : Option V) (W : Want), σ = [some (.ref p), some (.ref d), some (.ref wd), some (.ref b), v4, v5] ∧ WAt H H3 wd W dom top ∧ (∀ y ∈ M.take i, ∀ e ∈ y.1, F e.1 ≠ none → HasW W e.1 e.2) ∧ (∀ e ∈ kk.take j, F e.1 ≠ none → HasW W e.1 e.2) ∧ Same H H3 ∧ TupsStay H2 H3)
        ⟨v4, v5, W, rfl, WA, hW, (fun e he => by rw [List.take_zero] at he; cases he), s2, .refl _⟩ (fun j σ H3 _ ⟨_, _, _, _, _, _, _, _, z⟩ => SqT.keeps hqs z) ?_ ?_⟩
      · rintro j y σ H3 hy ⟨v4, v5, W, rfl, WA, hW, hj, s3, t3⟩
        obtain ⟨qa, e, rfl, he, hqa⟩ := Paired.ixR pqs hy
        have mem : e ∈ kk := List.mem_of_getElem? he
        have eM := hM _ memM e mem
        have FA3 := FA.same s3
        have tk : kk.take (j + 1) = kk.take j ++ [e] := by rw [List.take_add_one, he]; rfl
        refine ⟨qa, _, rfl, SqT.keeps hqa t3, rfl, _, [.int e.2], rfl, _, [], rfl, rfl, _, rfl, _, rfl, d, _, rfl, DGet.k (k := .inr e.1) FA3.d, _, rfl, ite2 (fun c => ?_) (fun c => ?_)⟩
        · -- a name that is put in
          have hF : F e.1 ≠ none := fun z => by
            rw [FA3.no _ z] at c
            cases c
          refine ⟨_, rfl, wd, rfl, .inl ⟨_, .inl WA.d⟩, _, rfl, fun a na => ?_⟩
          have sa : Same H3 (upd H3 a (.dK [])) := same_upd na
          have WA4 := WA.same sa
          have lW : W.length ≤ ns.length := by
            have z := nodup_len (m := ns) WA.nd fun x hx => by
              obtain ⟨e, he, ee⟩ := List.mem_map.mp hx
              rw [← ee]
              exact (WA.dom e he).1
            rwa [List.length_map] at z
          refine ⟨_, .inr e.1, WA4.d, rfl, by rw [wV_len, sizeLine_eq]; omega, fun v hv => ?_, fun hv => ?_⟩
          · -- there already
            obtain ⟨g, hg, eg, rfl⟩ := wV_some hv
            have lg := WA4.lens g hg
            have H0g : Same H (upd (upd H3 a (.dK [])) g.2.1 (.dK (putK (kT g.2.2) (.inl e.2) (.bl true)))) := fun c u ec => by
              rw [upd_ne (ne_of_none ec (WA4.new g hg))]
              exact sa _ _ (s3 _ _ ec)
            refine ⟨_, rfl, g.2.1, _, rfl, DPut.k (k := .inl e.2) (WA4.at_ g hg) (by rw [kT_len, sizeLine_eq]; omega), _, _, addW W g.1 e.2, rfl, WA4.put hg eM.2, fun y hy e' he' h' => (hW y hy e' he' h').add _ _, fun e' he' h' => ?_, H0g, t3.trans ((TupsStay.same sa).trans (.upd (WA4.at_ g hg) True.intro))⟩
            rw [tk] at he'
            rcases List.mem_append.mp he' with z | z
            · exact (hj e' z h').add _ _
            · rw [show e' = e by simpa using z, ← eg]
              exact HasW.now hg rfl
          · -- new
            have WA5 := WA.make (x := e.1) ⟨eM.1, hF⟩ hv s3 na
            have mk : (e.1, a, ([] : List Int)) ∈ W ++ [(e.1, a, [])] := by simp
            have aD : a ≠ wd := (ne_of_none WA.d na).symm
            have H0g : Same H (upd (upd (upd H3 a (.dK [])) wd (.dK (putK (wV W) (.inr e.1) (.ref a)))) a (.dK (putK (kT []) (.inl e.2) (.bl true)))) := fun c u ec => by
              rw [upd_ne (ne_of_none ec (WA5.new _ mk)), upd_ne (ne_of_none ec nwd)]
              exact sa _ _ (s3 _ _ ec)
            have t5 : TupsStay H3 (upd (upd (upd H3 a (.dK [])) wd (.dK (putK (wV W) (.inr e.1) (.ref a)))) a (.dK (putK (kT []) (.inl e.2) (.bl true)))) :=
              ((TupsStay.same sa).trans (.upd (WA4.d) True.intro)).trans (.upd (WA5.at_ _ mk) True.intro)
            refine ⟨_, rfl, a, _, rfl, DPut.k (k := .inl e.2) (WA5.at_ _ mk) (by rw [kT_len, sizeLine_eq]; exact (by decide : 0 < 16777216)), _, _, addW (W ++ [(e.1, a, [])]) e.1 e.2, rfl, WA5.put mk eM.2, fun y hy e' he' h' => ?_, fun e' he' h' => ?_, H0g, t3.trans t5⟩
            · obtain ⟨g, hg, g1, g2⟩ := hW y hy e' he' h'
              exact HasW.add _ _ ⟨g, by simp [hg], g1, g2⟩
            · rw [tk] at he'
              rcases List.mem_append.mp he' with z | z
              · obtain ⟨g, hg, g1, g2⟩ := hj e' z h'
                exact HasW.add _ _ ⟨g, by simp [hg], g1, g2⟩
              · rw [show e' = e by simpa using z]
                exact HasW.now mk rfl
        · have hF : F e.1 = none := by
            cases z : F e.1 with
            | none => rfl
            | some N =>
              obtain ⟨sN, a, _⟩ := FA3.yes _ _ z
              rw [a] at c
              exact absurd rfl c
          refine ⟨_, _, W, rfl, WA, hW, fun e' he' h' => ?_, s3, t3⟩
          rw [tk] at he'
          rcases List.mem_append.mp he' with z | z
          · exact hj e' z h'
          · rw [show e' = e by simpa using z] at h'
            exact absurd hF h'
      · rintro σ H3 ⟨v4, v5, W, rfl, WA, hW, hj, s3, t3⟩
        rw [List.length_map, lq, List.take_length] at hj
        refine ⟨_, _, _, W, rfl, WA, fun y hy e he h' => ?_, s3⟩
        rw [List.take_add_one, hMi] at hy
        rcases List.mem_append.mp hy with z | z
        · exact hW y z e he h'
        · rw [show y = (kk, r) by simpa using z] at he
          exact hj e he h'
    · rintro σ H2 ⟨v3, v4, v5, W, rfl, WA, hW, s2⟩
      rw [l1, List.take_length] at hW
      refine ⟨wd, _, WA.d, True.intro, fun od => ?_⟩
      have nF : ∀ c u, H2 c = some u → c ≠ wd → (upd H2 wd (.frz od (.dK (wV W)))) c = some u := fun c u e n => by rw [upd_ne n]; exact e
      have sF : Same H (upd H2 wd (.frz od (.dK (wV W)))) := fun c u e => nF _ _ (s2 _ _ e) (ne_of_none e nwd)
      have atF : ∀ e ∈ W, (upd H2 wd (.frz od (.dK (wV W)))) e.2.1 = some (.dK (kT e.2.2)) := fun e he => nF _ _ (WA.at_ e he) (WA.ne e he)
      have dF : (upd H2 wd (.frz od (.dK (wV W)))) wd = some (.frz od (.dK (wV W))) := upd_same
      refine ⟨_, rfl, wd, od, rfl, .inl ⟨_, upd_same, fun D2 nD2 => dc_keys (fun i H3 => ∃ R : Want, H3 D2 = some (.dK (wV R)) ∧ R.map (fun e => (e.1, e.2.2)) = (W.take i).map (fun e => (e.1, e.2.2)) ∧ (∀ e ∈ R, e.2.1 ≠ D2 ∧ ∃ N, F e.1 = some N ∧ PowAt K w C H3 e.2.1 N e.2.2) ∧ Same (upd H2 wd (.frz od (.dK (wV W)))) H3)
        ⟨[], upd_same, by rw [List.take_zero], (fun _ h => nomatch h), same_upd nD2⟩ (fun i H3 _ ⟨_, _, _, _, z⟩ => z _ _ dF) ?_ ?_⟩⟩
      · rintro i k v H3 hL ⟨R, e3, eR, aR, s3⟩
        have hL' : (W.map fun e => ((Sum.inr e.1 : L2.Key), V.ref e.2.1))[i]? = some (k, v) := hL
        rw [List.getElem?_map] at hL'
        cases hWi : W[i]? with
        | none =>
          rw [hWi] at hL'
          cases hL'
        | some e =>
          rw [hWi] at hL'
          cases hL'
          have he : e ∈ W := List.mem_of_getElem? hWi
          have hi : i < W.length := (List.getElem?_eq_some_iff.mp hWi).1
          have FA3 := (FA.same sF).same s3
          obtain ⟨N, hN⟩ : ∃ N, F e.1 = some N := by
            cases z : F e.1 with
            | none => exact absurd z (WA.dom e he).2
            | some N => exact ⟨N, rfl⟩
          obtain ⟨sN, v1, SN'⟩ := FA3.yes _ _ hN
          have g1 : DGet H3 d (kV (.inr e.1)) (some (.ref sN)) := by
            have z := DGet.k (k := .inr e.1) FA3.d
            rwa [v1] at z
          have g2 : DGet H3 wd (kV (.inr e.1)) (some (.ref e.2.1)) := .inl ⟨wV W, .inr e.1, .inr ⟨od, s3 _ _ dF⟩, rfl, (wV_val WA.nd he).symm⟩
          have lks := WA.lens e he
          refine ⟨rfl, _, rfl, _, rfl, _, rfl, d, _, rfl, g1, _, rfl, _, rfl, wd, _, rfl, g2, e.2.1, _, e.2.2, rfl, s3 _ _ (atF e he), ?_, fun ks' l pm up nl => ?_⟩
          · unfold kT
            rw [List.map_map]
            rfl
          · have sl : Same H3 (upd H3 l (.lst (ks'.map V.int))) := same_upd nl
            refine ⟨sN, l, N, ns, n, D, S, top, ks', rfl, SN'.same sl, upd_same, up, fun k hk => ?_, by rw [pm.length_eq]; omega, pf _ _ hN, by omega, fun pp H5 PA s5 np => ?_⟩
            · have := WA.rg e he k (pm.mem_iff.mp hk)
              omega
            · have s35 := sl.trans s5
              have e5 := s35 _ _ e3
              have npD : pp ≠ D2 := (ne_of_none (sl _ _ e3) np).symm
              have el : Else D2 H5 (upd H5 D2 (.dK (putK (wV R) (.inr e.1) (.ref pp)))) := .upd
              have nR : R.map (·.1) = (W.take i).map (·.1) := by
                have z := congrArg (List.map Prod.fst) eR
                rw [List.map_map, List.map_map] at z
                exact z
              have no : valV (wV R) (.inr e.1) = none := wV_no fun f hf z => by
                have m1 : e.1 ∈ (W.take i).map (·.1) := by
                  rw [← nR, ← z]
                  exact List.mem_map.mpr ⟨f, hf, rfl⟩
                obtain ⟨j, hj⟩ := List.mem_iff_getElem?.mp m1
                rw [List.getElem?_map, List.getElem?_take] at hj
                split at hj
                · rename_i lt
                  have a : (W.map (·.1))[j]? = some e.1 := by rw [List.getElem?_map]; exact hj
                  have b : (W.map (·.1))[i]? = some e.1 := by rw [List.getElem?_map, hWi]; rfl
                  have := nd_ix WA.nd a b
                  omega
                · cases hj
              have lW : W.length ≤ ns.length := by
                have z := nodup_len (m := ns) WA.nd fun x hx => by
                  obtain ⟨e, he, ee⟩ := List.mem_map.mp hx
                  rw [← ee]
                  exact (WA.dom e he).1
                rwa [List.length_map] at z
              have lR : R.length ≤ W.length := by
                have z := congrArg List.length nR
                rw [List.length_map, List.length_map, List.length_take] at z
                omega
              have PA' : PowAt K w C H5 pp N e.2.2 := by
                obtain ⟨pk, hp, a⟩ := PA
                exact ⟨pk, hp, fun k hk => a k (pm.mem_iff.mpr hk)⟩
              refine ⟨_, .inr e.1, rfl, e5, by rw [wV_len, sizeLine_eq]; omega, R ++ [(e.1, pp, e.2.2)], ?_, ?_, fun f hf => ?_, ?_⟩
              · rw [upd_same, putK_new _ no]
                unfold wV
                rw [List.map_append]
                rfl
              · rw [List.map_append, eR, List.take_add_one, hWi, List.map_append]
                rfl
              · rcases List.mem_append.mp hf with z | z
                · obtain ⟨b1, N', b2, b3⟩ := aR f z
                  exact ⟨b1, N', b2, (b3.same s35).else el e5 b1⟩
                · rw [show f = (e.1, pp, e.2.2) by simpa using z]
                  exact ⟨npD, N, hN, PA'.else el e5 npD⟩
              · intro c u ec
                rw [upd_ne (ne_of_none ec nD2)]
                exact s35 _ _ (s3 _ _ ec)
      · rintro H3 ⟨R, e3, eR, aR, s3⟩
        rw [wV_len, List.take_length] at eR
        have nR : R.map (·.1) = W.map (·.1) := by
          have z := congrArg (List.map Prod.fst) eR
          rw [List.map_map, List.map_map] at z
          exact z
        have ndR : (R.map (·.1)).Nodup := by rw [nR]; exact WA.nd
        refine q D2 H3 ⟨wV R, e3, fun y hy e he => ⟨fun hF => wV_no fun f hf z => ?_, fun N hF => ?_⟩⟩ (sF.trans s3)
        · obtain ⟨_, N, b2, _⟩ := aR f hf
          rw [z, hF] at b2
          cases b2
        · obtain ⟨g, hg, g1, g2⟩ := hW y hy e he (by rw [hF]; simp)
          have m2 : (g.1, g.2.2) ∈ R.map (fun e => (e.1, e.2.2)) := by
            rw [eR]
            exact List.mem_map.mpr ⟨g, hg, rfl⟩
          obtain ⟨f, hf, ef⟩ := List.mem_map.mp m2
          injection ef with ef1 ef2
          have ef1 : f.1 = g.1 := ef1
          have ef2 : f.2.2 = g.2.2 := ef2
          obtain ⟨b1, N', b2, pk, b3, b4⟩ := aR f hf
          rw [ef1, g1, hF] at b2
          cases b2
          obtain ⟨sq, c1, c2⟩ := b4 e.2 (by rw [ef2]; exact g2)
          exact ⟨f.2.1, sq, pk, by rw [← g1, ← ef1]; exact wV_val ndR hf, b3, c1, c2⟩
end
/-! ### what one part becomes, and all of them -/
theorem SumAt.elseU {K : PySem.W.Frag} {w : World} {C : Addr} {H H' : Hp} {p d : Addr} {M : Poly} {u : HO} (h : SumAt K w C H p M) (e : Else d H H') (hd : H d = some u) (nt : NotTup u) (n1 : ∀ C dx l, HO.ins C dx l ≠ u) (n2 : ∀ o x, HO.frz o x ≠ u) : SumAt K w C H' p M := by
  obtain ⟨dx, d1, o, L, ep, ⟨xs, ed, na⟩, r⟩ := h
  have t : TupsStay H H' := e.tups hd nt
  exact ⟨dx, d1, o, L, e _ _ ep (ne_of ep hd (n1 _ _ _)), ⟨xs, e _ _ ed (ne_of ed hd (n2 _ _)), na.stay t⟩, r.stay t⟩
/-- what stands in the risen dict for a product -/
def RisenFor (K : PySem.W.Frag) (w : World) (C : Addr) (H : Hp) (kvs : List (L2.Key × V)) (F : Str → Option Poly) (p : Pr) : Prop := ∀ e ∈ p, (F e.1 = none → valV kvs (.inr e.1) = none) ∧
  ∀ N, F e.1 = some N → ∃ (q s : Addr) (pk : List (L2.Key × V)), valV kvs (.inr e.1) = some (.ref q) ∧ H q = some (.dK pk) ∧ valV pk (.inl e.2) = some (.ref s) ∧ SumAt K w C H s (powM N e.2.toNat)
theorem RisenFor.same {K w C H H' kvs F p} (h : RisenFor K w C H kvs F p) (s : Same H H') : RisenFor K w C H' kvs F p := fun e he => ⟨(h e he).1, fun N hN => let ⟨q, t, pk, a, b, c, d⟩ := (h e he).2 N hN; ⟨q, t, pk, a, s _ _ b, c, d.same s⟩⟩
theorem RisenFor.elseU {K w C H H' kvs F p} {d : Addr} {u : HO} (h : RisenFor K w C H kvs F p) (e : Else d H H') (hd : H d = some u) (nt : NotTup u) (n0 : ∀ l, HO.dK l ≠ u) (n1 : ∀ C dx l, HO.ins C dx l ≠ u) (n2 : ∀ o x, HO.frz o x ≠ u) : RisenFor K w C H' kvs F p := fun g hg => ⟨(h g hg).1, fun N hN => let ⟨q, t, pk, a, b, c, s⟩ := (h g hg).2 N hN; ⟨q, t, pk, a, e _ _ b (ne_of b hd (n0 _)), c, s.elseU e hd nt n1 n2⟩⟩
def stepF (F : Str → Option Poly) (acc : Poly) (e : Str × Int) : Poly := match F e.1 with
  | some N => mulM acc (powM N e.2.toNat)
  | none => acc
def keptP (F : Str → Option Poly) (p : Pr) : Pr := p.filter fun e => (F e.1).isNone
def filledM (F : Str → Option Poly) (p : Pr) (c : Rat) : Poly := p.foldl (stepF F) [(keptP F p, c)]
def fillTo (F : Str → Option Poly) (p : Pr) (c : Rat) (i : Nat) : Poly := (p.take i).foldl (stepF F) [(keptP F p, c)]
theorem fillTo_succ {F : Str → Option Poly} {p : Pr} {c : Rat} {i : Nat} {e : Str × Int} (h : p[i]? = some e) : fillTo F p c (i + 1) = stepF F (fillTo F p c i) e := by
  unfold fillTo
  rw [List.take_add_one, h, List.foldl_append]
  rfl
/-- the powers of a product together -/
def degP (p : Pr) : Nat := (p.map fun e => e.2.toNat).sum
theorem degP_take {p : Pr} {i : Nat} {e : Str × Int} (h : p[i]? = some e) : degP (p.take (i + 1)) = degP (p.take i) + e.2.toNat := by
  unfold degP
  rw [List.take_add_one, h, List.map_append, List.sum_append]
  simp
theorem degP_le (p : Pr) (i : Nat) : degP (p.take i) ≤ degP p := by
  have e : degP p = degP (p.take i) + degP (p.drop i) := by
    unfold degP
    rw [← List.sum_append, ← List.map_append, List.take_append_drop]
  omega
theorem keptP_of {ns : List Str} {F : Str → Option Poly} {p : Pr} (h : Of ns p) : Of ns (keptP F p) := ⟨⟨h.1.up.sublist List.filter_sublist, fun e he => h.1.one e (List.mem_filter.mp he).1⟩, fun e he => h.2 e (List.mem_filter.mp he).1⟩
theorem fit_one {ns : List Str} {p : Pr} {c : Rat} {D S : Nat} (h : Of ns p) (hc : c ≠ 0) (hw : Whole D c) (hm : mag D c ≤ S) : Fit (Of ns) 1 D S [(p, c)] := by
  refine ⟨⟨List.nodup_cons.mpr ⟨by simp, List.nodup_nil⟩, fun y hy => ?_, fun y hy => ?_⟩, Nat.le_refl 1, fun y hy => ?_, ?_⟩
  · rw [show y = (p, c) by simpa using hy]
    exact hc
  · rw [show y = (p, c) by simpa using hy]
    exact h
  · rw [show y = (p, c) by simpa using hy]
    exact hw
  · rw [szM_cons, szM_nil]
    exact hm
theorem fit_step {ns : List Str} {F : Str → Option Poly} {n S top g n0 D0 s0 : Nat} {acc : Poly} {e : Str × Int} (hF : ∀ x N, F x = some N → PowFit ns n 1 S top N) (hn1 : 1 ≤ n) (hS1 : 1 ≤ S) (h : Fit (Of ns) (n0 * n ^ g) D0 (s0 * S ^ g) acc) : Fit (Of ns) (n0 * n ^ (g + e.2.toNat)) D0 (s0 * S ^ (g + e.2.toNat)) (stepF F acc e) := by
  unfold stepF
  cases hN : F e.1 with
  | none => exact h.mono (Nat.mul_le_mul_left _ (pow_up hn1 (Nat.le_add_right _ _))) (Nat.mul_le_mul_left _ (pow_up hS1 (Nat.le_add_right _ _)))
  | some N =>
    have a := h.mul (fit_pow (hF _ _ hN).fit e.2.toNat) fun _ _ => Of.join
    rw [Nat.one_pow, Nat.mul_one, Nat.mul_assoc, Nat.mul_assoc, ← Nat.pow_add, ← Nat.pow_add] at a
    exact a
theorem fit_fill {ns : List Str} {F : Str → Option Poly} {n S top D0 s0 : Nat} {p : Pr} {c : Rat} (hF : ∀ x N, F x = some N → PowFit ns n 1 S top N) (hn1 : 1 ≤ n) (hS1 : 1 ≤ S) (hp : Of ns p) (hc : c ≠ 0) (hw : Whole D0 c) (hm : mag D0 c ≤ s0) : ∀ i, i ≤ p.length → Fit (Of ns) (1 * n ^ degP (p.take i)) D0 (s0 * S ^ degP (p.take i)) (fillTo F p c i)
  | 0, _ => by
    have a := fit_one (keptP_of (F := F) hp) hc hw hm
    have e0 : degP (p.take 0) = 0 := rfl
    rw [e0, Nat.pow_zero, Nat.pow_zero, Nat.mul_one, Nat.mul_one]
    exact a
  | i + 1, hi => by
    have g : p[i]? = some p[i] := List.getElem?_eq_getElem hi
    rw [degP_take g, fillTo_succ g]
    exact fit_step hF hn1 hS1 (fit_fill hF hn1 hS1 hp hc hw hm i (by omega))
theorem fit_filled {ns : List Str} {F : Str → Option Poly} {n S top D0 s0 : Nat} {p : Pr} {c : Rat} (hF : ∀ x N, F x = some N → PowFit ns n 1 S top N) (hn1 : 1 ≤ n) (hS1 : 1 ≤ S) (hp : Of ns p) (hc : c ≠ 0) (hw : Whole D0 c) (hm : mag D0 c ≤ s0) (hd : degP p ≤ top) : Fit (Of ns) (n ^ top) D0 (s0 * S ^ top) (filledM F p c) := by
  have a := fit_fill hF hn1 hS1 hp hc hw hm p.length (Nat.le_refl _)
  have e : fillTo F p c p.length = filledM F p c := by
    unfold fillTo filledM
    rw [List.take_length]
  rw [e, List.take_length, Nat.one_mul] at a
  exact a.mono (pow_up hn1 hd) (Nat.mul_le_mul_left _ (pow_up hS1 hd))
theorem ix_tupK {X : Cx} {K : PySem.W.Frag} (e : X.K = K) : IxR X (rIxT K) := by
  subst e
  exact ix_tup
section
variable {P : Program} {w : World} {K : PySem.W.Frag} {mg : Str → Option Value} {base : Heap} {C : Addr}
/-- what goes for all that is put in -/
structure PutFit (ns : List Str) (F : Str → Option Poly) (n S top : Nat) : Prop where
  pf : ∀ x N, F x = some N → PowFit ns n 1 S top N
  n1 : 1 ≤ n
  s1 : 1 ≤ S
  nb : n ^ top < sizeLine
  sb : S ^ top < big
  ns : ns.length < 32
  top : top < 900
def spFilled (K : PySem.W.Frag) (w : World) (C : Addr) : Sp := fun vs H Q _ => ∃ (b x r : Addr) (p : Pr) (c : Rat) (F : Str → Option Poly) (kvs : List (L2.Key × V)) (ns : List Str) (n S top D0 s0 : Nat), vs = [.ref b, .ref x, .ref r] ∧ ProdAt K H b p ∧ SqT K H x (ratV c) ∧ H r = some (.dK kvs) ∧ RisenFor K w C H kvs F p ∧ PutFit ns F n S top ∧
  Of ns p ∧ c ≠ 0 ∧ 0 < D0 ∧ D0 < big ∧ Whole D0 c ∧ mag D0 c ≤ s0 ∧ s0 * S ^ top < big ∧ degP p ≤ top ∧ ∀ y H', SumAt K w C H' y (filledM F p c) → Same H H' → Q (.ref y) H'
theorem ok_filled {f : Addr} {fd : FuncData} (T : Txt K mg C) (FF : DefAt K mg "_filled" "_filled" s_filled ["product", "part", "risen"] f fd) : FnOk P w K mg base CX0 5 f fd ["product", "part", "risen"] (spFilled K w C) := by
  obtain ⟨f5, fd5, D_timed⟩ := T.d_timed
  have G_timed : FnOk P w K mg base CX0 4 f5 fd5 ["one", "other"] (spTimed K w C) := ok_timed T D_timed
  obtain ⟨f2, fd2, M_Sum, FI, b_Sum_init⟩ := T.mk_Sum
  have G_Sum_init : FnOk P w K mg base CX0 1 f2 fd2 ["self", "parts"] (spInit K w C) := ok_Sum_init T FI
  refine FF.F.ok sc_filled (fun vs H Q E h => ?_) (fun cdv A outer s H vs Q E hr h => ?_)
  · obtain ⟨b, x, r, p, c, F, kvs, ns, n, S, top, D0, s0, rfl, _⟩ := h
    rfl
  · obtain ⟨b, x, r, p, c, F, kvs, ns, n, S, top, D0, s0, rfl, hb, hx, hr1, RF, pf, op, hc, hD0, hDb, hw, hm, hsb, hdeg, q⟩ := h
    obtain ⟨qs, hqs, pqs⟩ := id hb
    have lq : qs.length = p.length := Paired.length pqs
    refine ⟨_, (pss_cons (ps_set (i := 3) sc_filled.nd rfl (.inl rfl) (pe_tupleOf (by rfl) T.m_tuple (pe_lc (own := [("pair", 7)]) (g := gName 7) (tt := _) rfl sc_filled.nd (pi_tup (pv 0)) (blkOk_by (own := [("pair", 7)]) (N := ["product", "part", "risen", "kept", "told", "name", "power", "pair"]) (sc := defScope s_filled) (by decide +kernel)) (fun _ _ _ _ _ => pg_name (i := 7) sc_filled.nd rfl (.inl rfl)) (fun _ _ _ _ _ => (pts_one (pt_cmp (pc_dnotin (room1 hr) (pe_ix (ix_tupK (K := K) rfl) (pv 7) pe_int (fun _ _ => rfl)) (pv 2)) (by rfl)))) (fun _ _ _ _ _ => (pv 7)))))
      (pss_cons (ps_set (i := 4) sc_filled.nd rfl (.inl rfl) (pe_make M_Sum G_Sum_init (hr.mono (by decide)) (by rfl) T.g_Sum b_Sum_init .nil pass0 (pa_cons (pe_oneN hr.units (pv 3) (pv 1)) pa_nil)))
      (pss_cons (ps_for PassesOwn.never rfl (pi_tup (pv 0)) (pg_tup (by rfl) (pgs_cons (pg_name (i := 5) sc_filled.nd rfl (.inl rfl)) (pgs_cons (pg_name (i := 6) sc_filled.nd rfl (.inl rfl)) pgs_nil))) (pss_one (ps_if (pt_cmp (pc_din (room1 hr) (pv 5) (pv 2)) (by rfl)) (pss_one (ps_set (i := 4) sc_filled.nd rfl (.inl rfl) (pe_call G_timed (hr.mono (by decide)) (by rfl) D_timed.g D_timed.F.kp D_timed.b .nil pass0 (pa_cons (pv 4) (pa_cons (pe_dget (room1 hr) (pe_dget (room1 hr) (pv 2) (pv 5) (fun _ _ => rfl)) (pv 6) (fun _ _ => rfl)) pa_nil))))) pss_nil)))
      (pss_one (ps_ret (pv 4)))))), ?_⟩
    refine ⟨_, rfl, b, rfl, ⟨_, hqs⟩, fun D nD => lc_tup (fun i H2 => ∃ ks : List Addr, H2 D = some (.lst (ks.map V.ref)) ∧ ks.length ≤ i ∧ Paired (PairAt K H) ks ((p.take i).filter fun e => (F e.1).isNone) ∧ Same H H2) ⟨[], upd_same, Nat.le_refl 0, by rw [List.take_zero]; exact .nil, same_upd nD⟩ (fun i H2 _ ⟨_, _, _, _, z⟩ => SqT.keeps hqs (TupsStay.same z)) ?_ ?_⟩
    · rintro i y H2 hy ⟨ks, e2, hl, pk, s2⟩
      obtain ⟨qa, e, rfl, he, hqa⟩ := Paired.ixR pqs hy
      have mem : e ∈ p := List.mem_of_getElem? he
      have hi : i < p.length := (List.getElem?_eq_some_iff.mp he).1
      have lp : p.length < 32 := Nat.lt_of_le_of_lt op.len pf.ns
      have tk : p.take (i + 1) = p.take i ++ [e] := by rw [List.take_add_one, he]; rfl
      refine ⟨rfl, _, rfl, qa, _, _, _, rfl, rfl, SqT.keeps hqa (TupsStay.same s2), atI_nat (j := 0) rfl, _, rfl, r, _, rfl, DGet.k (k := .inr e.1) (s2 _ _ hr1), _, rfl, ?_⟩
      cases hF : F e.1 with
      | none =>
        rw [(RF e mem).1 hF]
        refine ⟨_, rfl, _, e2, ?_, ks ++ [qa], by rw [upd_same, List.map_append]; rfl, ?_, ?_, fun c u ec => ?_⟩
        · rw [List.length_map, sizeLine_eq]
          omega
        · rw [List.length_append]
          exact Nat.add_le_add hl (Nat.le_refl 1)
        · rw [tk, List.filter_append]
          rw [List.filter_cons_of_pos (by rw [hF]; rfl), List.filter_nil]
          exact Paired.snoc pk hqa
        · rw [upd_ne (ne_of_none ec nD)]
          exact s2 _ _ ec
      | some N =>
        obtain ⟨q1, s1, pk1, v1, _⟩ := (RF e mem).2 N hF
        rw [v1]
        refine ⟨ks, e2, Nat.le_succ_of_le hl, ?_, s2⟩
        rw [tk, List.filter_append, List.filter_cons_of_neg (by rw [hF]; simp), List.filter_nil, List.append_nil]
        exact pk
    · rintro H2 ⟨ks, e2, hl, pk, s2⟩
      rw [List.length_map, lq, List.take_length] at pk
      refine .inl ⟨D, _, rfl, SqL.of e2, fun kq nkq => ?_⟩
      have s3 : Same H (upd H2 kq (.tup (ks.map V.ref))) := s2.trans (same_upd nkq)
      have pk3 : ProdAt K (upd H2 kq (.tup (ks.map V.ref))) kq (keptP F p) := ⟨ks, SqT.of upd_same, Paired.mapP pk fun _ _ z => PairAt.stay z (TupsStay.same s3)⟩
      generalize (upd H2 kq (.tup (ks.map V.ref))) = H3 at s3 pk3
      intro d nd sd
      have s4 : Same H3 (upd H3 d (ndO w d [])) := same_upd nd
      refine ⟨_, rfl, _, rfl, keptP F p, kq, rfl, pk3.stay (TupsStay.same s4), upd_same, fun o n3 => ?_⟩
      have el0 : Same H (upd (upd H3 d (ndO w d [])) d o) := s3.trans (Else.fresh nd s4 .upd)
      have p3 : PartsAt K w (upd (upd H3 d (ndO w d [])) d o) d [(keptP F p, c)] := ⟨_, n3, .cons ⟨rfl, x, rfl, SqT.keeps hx (TupsStay.same el0)⟩ .nil⟩
      refine fun t0 dx nt ndx nex => ⟨t0, dx, d, _, rfl, upd_same, p3.made nt ndx, fun H4 sA kp => ⟨rfl, ?_⟩⟩
      have s04 : Same H H4 := el0.trans (Same.made nt ndx kp)
      have hn1 := pf.n1
      have hS1 := pf.s1
      refine ⟨_, rfl, b, rfl, ⟨_, SqT.keeps hqs (TupsStay.same s04)⟩, for_tup (fun i σ H5 => ∃ (v5 v6 v7 : Option V) (t : Addr), σ = [some (.ref b), some (.ref x), some (.ref r), some (.ref kq), some (.ref t), v5, v6, v7] ∧ SumAt K w C H5 t (fillTo F p c i) ∧ Same H H5) ⟨_, _, _, t0, rfl, sA, s04⟩ (fun i σ H5 _ ⟨_, _, _, _, _, _, z⟩ => SqT.keeps hqs (TupsStay.same z)) ?_ ?_⟩
      · rintro i y σ H5 hy ⟨v5, v6, v7, t, rfl, St, s5⟩
        obtain ⟨qa, e, rfl, he, hqa⟩ := Paired.ixR pqs hy
        have mem : e ∈ p := List.mem_of_getElem? he
        have hi : i < p.length := (List.getElem?_eq_some_iff.mp he).1
        have RF5 := RF.same s5
        refine ⟨qa, _, rfl, SqT.keeps hqa (TupsStay.same s5), rfl, _, [.int e.2], rfl, _, [], rfl, rfl, _, rfl, _, rfl, r, _, rfl, DGet.k (k := .inr e.1) (s5 _ _ hr1), _, rfl, ?_⟩
        cases hF : F e.1 with
        | none =>
          rw [(RF e mem).1 hF]
          refine ⟨_, _, v7, t, rfl, ?_, s5⟩
          rw [fillTo_succ he]
          unfold stepF
          rw [hF]
          exact St
        | some N =>
          obtain ⟨q1, s1, pk1, v1, h1, v2, S1⟩ := (RF5 e mem).2 N hF
          have g1 : DGet H5 r (kV (.inr e.1)) (some (.ref q1)) := by
            have z := DGet.k (k := .inr e.1) (s5 _ _ hr1)
            rwa [v1] at z
          have g2 : DGet H5 q1 (kV (.inl e.2)) (some (.ref s1)) := by
            have z := DGet.k (k := .inl e.2) h1
            rwa [v2] at z
          rw [v1]
          have ff := fit_fill pf.pf hn1 hS1 op hc hw hm i (Nat.le_of_lt hi)
          have fp := fit_pow (pf.pf _ _ hF).fit e.2.toNat
          have dg : degP (p.take i) + e.2.toNat ≤ top := by
            have a := degP_take he
            have b := degP_le p (i + 1)
            omega
          have b1 : s0 * S ^ degP (p.take i) * S ^ e.2.toNat ≤ s0 * S ^ top := by
            rw [Nat.mul_assoc, ← Nat.pow_add]
            exact Nat.mul_le_mul_left _ (pow_up hS1 dg)
          have b2 : 1 * n ^ degP (p.take i) * n ^ e.2.toNat ≤ n ^ top := by
            rw [Nat.one_mul, ← Nat.pow_add]
            exact pow_up hn1 dg
          refine ⟨_, rfl, _, rfl, _, rfl, r, _, rfl, g1, _, rfl, q1, _, rfl, g2, t, s1, _, _, Of ns, _, _, D0, _, _, _, rfl, St, S1, ff, fp, hD0, Nat.pow_pos (by decide), ?_, ?_, ?_, Nat.lt_of_le_of_lt b1 hsb, Nat.lt_of_le_of_lt b2 pf.nb, fun _ _ => Of.join, fun a ha => ⟨ha.1, Nat.lt_of_le_of_lt ha.len pf.ns⟩, fun t' H' St' s' nt' => ⟨_, _, v7, t', rfl, ?_, s5.trans s'⟩⟩
          · rw [Nat.one_pow, Nat.mul_one]
            exact hDb
          · exact Nat.lt_of_le_of_lt (Nat.le_mul_of_pos_right _ (Nat.pow_pos hS1)) (Nat.lt_of_le_of_lt b1 hsb)
          · exact Nat.lt_of_le_of_lt (pow_up hS1 (Nat.le_trans (Nat.le_add_left _ _) dg)) pf.sb
          · rw [fillTo_succ he]
            unfold stepF
            rw [hF]
            exact St'
      · rintro σ H5 ⟨v5, v6, v7, t, rfl, St, s5⟩
        rw [List.length_map, lq] at St
        have e : fillTo F p c p.length = filledM F p c := by
          unfold fillTo filledM
          rw [List.take_length]
        rw [e] at St
        exact ⟨_, rfl, q t H5 St s5⟩
end
/-! ### sums put in -/
def flatF (F : Str → Option Poly) (M : Poly) : Poly := M.flatMap fun y => filledM F y.1 y.2
def putInM (F : Str → Option Poly) (M : Poly) : Poly := sumM [] (flatF F M)
theorem flatF_take {F : Str → Option Poly} {M : Poly} {i : Nat} {x : Pr × Rat} (h : M[i]? = some x) : flatF F (M.take (i + 1)) = flatF F (M.take i) ++ filledM F x.1 x.2 := by
  unfold flatF
  rw [List.take_add_one, h, List.flatMap_append]
  simp
theorem flatF_pre (F : Str → Option Poly) (M : Poly) (i : Nat) : flatF F (M.take i) <+: flatF F M := by
  refine ⟨flatF F (M.drop i), ?_⟩
  unfold flatF
  rw [← List.flatMap_append, List.take_append_drop]
theorem exp_le_deg {p : Pr} {e : Str × Int} (h : e ∈ p) : e.2.toNat ≤ degP p := by
  unfold degP
  induction p with
  | nil => cases h
  | cons f r ih =>
    rw [List.map_cons, List.sum_cons]
    rcases List.mem_cons.mp h with z | z
    · rw [z]
      omega
    · have := ih z
      omega
/-- what goes for a sum in which something is put -/
structure InFit (ns : List Str) (F : Str → Option Poly) (M : Poly) (m D0 S0 n S top : Nat) : Prop where
  put : PutFit ns F n S top
  fit : Fit (Of ns) m D0 S0 M
  d0 : 0 < D0
  db : D0 < big
  sb : S0 * S ^ top < big
  mb : m * n ^ top < sizeLine
  dg : ∀ y ∈ M, degP y.1 ≤ top
theorem InFit.one {ns : List Str} {F : Str → Option Poly} {M : Poly} {m D0 S0 n S top : Nat} (h : InFit ns F M m D0 S0 n S top) {y : Pr × Rat} (hy : y ∈ M) : Fit (Of ns) (n ^ top) D0 (mag D0 y.2 * S ^ top) (filledM F y.1 y.2) :=
  fit_filled h.put.pf h.put.n1 h.put.s1 (h.fit.good.pr y hy) (h.fit.good.nz y hy) (h.fit.wh y hy) (Nat.le_refl _) (h.dg y hy)
theorem InFit.flat {ns : List Str} {F : Str → Option Poly} {M : Poly} {m D0 S0 n S top : Nat} (h : InFit ns F M m D0 S0 n S top) : (∀ x ∈ flatF F M, Of ns x.1 ∧ Whole D0 x.2) ∧ (flatF F M).length ≤ m * n ^ top ∧ szM D0 (flatF F M) ≤ S0 * S ^ top := by
  have gen : ∀ L : Poly, (∀ y ∈ L, y ∈ M) → (∀ x ∈ flatF F L, Of ns x.1 ∧ Whole D0 x.2) ∧ (flatF F L).length ≤ L.length * n ^ top ∧ szM D0 (flatF F L) ≤ szM D0 L * S ^ top := by
    intro L
    induction L with
    | nil => exact fun _ => ⟨(fun _ h => nomatch h), Nat.zero_le _, Nat.zero_le _⟩
    | cons y r ih =>
      intro hL
      obtain ⟨a, b, c⟩ := ih fun z hz => hL z (by simp [hz])
      have o := h.one (hL y (by simp))
      have e : flatF F (y :: r) = filledM F y.1 y.2 ++ flatF F r := List.flatMap_cons ..
      rw [e]
      refine ⟨fun x hx => ?_, ?_, ?_⟩
      · rcases List.mem_append.mp hx with z | z
        · exact o.parts x z
        · exact a x z
      · rw [List.length_append, List.length_cons, Nat.succ_mul]
        have := o.len
        omega
      · rw [szM_append, szM_cons, Nat.add_mul]
        exact Nat.add_le_add o.sz c
  obtain ⟨a, b, c⟩ := gen M fun _ h => h
  exact ⟨a, Nat.le_trans b (Nat.mul_le_mul_right _ h.fit.len), Nat.le_trans c (Nat.mul_le_mul_right _ h.fit.sz)⟩
theorem InFit.res {ns : List Str} {F : Str → Option Poly} {M : Poly} {m D0 S0 n S top : Nat} (h : InFit ns F M m D0 S0 n S top) : Fit (Of ns) (m * n ^ top) D0 (S0 * S ^ top) (putInM F M) := by
  obtain ⟨a, b, c⟩ := h.flat
  have z := Fit.sum (flatF F M) (Fit.nil (A := Of ns) (n := 0) (D := D0) (S := 0)) a
  exact z.mono (by omega) (by omega)
section
variable {P : Program} {w : World} {K : PySem.W.Frag} {mg : Str → Option Value} {base : Heap} {C : Addr}
def spPutIn (K : PySem.W.Frag) (w : World) (C : Addr) : Sp := fun vs H Q _ => ∃ (p d : Addr) (M : Poly) (F : Str → Option Poly) (fk : List (L2.Key × V)) (ns : List Str) (m D0 S0 n S top : Nat), vs = [.ref p, .ref d] ∧ SumAt K w C H p M ∧ FillAt K w C H d F fk ∧ InFit ns F M m D0 S0 n S top ∧
  ∀ x H', SumAt K w C H' x (putInM F M) → Same H H' → H x = none → Q (.ref x) H'
theorem ok_put_in {f : Addr} {fd : FuncData} (T : Txt K mg C) (FF : DefAt K mg "put_in" "put_in" s_put_in ["given", "filling"] f fd) : FnOk P w K mg base CX0 7 f fd ["given", "filling"] (spPutIn K w C) := by
  obtain ⟨f1, fd1, D_risen_fillings⟩ := T.d_risen_fillings
  have G_risen_fillings : FnOk P w K mg base CX0 6 f1 fd1 ["given", "filling"] (spFillings K w C) := ok_risen_fillings T D_risen_fillings
  obtain ⟨f3, fd3, D_filled⟩ := T.d_filled
  have G_filled : FnOk P w K mg base CX0 5 f3 fd3 ["product", "part", "risen"] (spFilled K w C) := ok_filled T D_filled
  obtain ⟨f4, fd4, D_put_all_to⟩ := T.d_put_all_to
  have G_put_all_to : FnOk P w K mg base CX0 4 f4 fd4 ["parts", "other"] (spPutAll K w C) := ok_put_all_to T D_put_all_to
  obtain ⟨f2, fd2, M_Sum, FI, b_Sum_init⟩ := T.mk_Sum
  have G_Sum_init : FnOk P w K mg base CX0 1 f2 fd2 ["self", "parts"] (spInit K w C) := ok_Sum_init T FI
  refine FF.F.ok sc_put_in (fun vs H Q E h => ?_) (fun cdv A outer s H vs Q E hr h => ?_)
  · obtain ⟨p, d, M, F, fk, ns, m, D0, S0, n, S, top, rfl, _⟩ := h
    rfl
  · obtain ⟨p, d, M, F, fk, ns, m, D0, S0, n, S, top, rfl, SM, FA, IF, q⟩ := h
    have pf := IF.put
    have hOf : ∀ y ∈ M, ∀ e ∈ y.1, e.1 ∈ ns ∧ 1 ≤ e.2 ∧ e.2 ≤ (top : Int) := fun y hy e he => by
      have o := IF.fit.good.pr y hy
      have a := exp_le_deg he
      have b := IF.dg y hy
      have c := o.1.one e he
      exact ⟨o.2 e he, c, by omega⟩
    refine ⟨_, (pss_cons (ps_set (i := 2) sc_put_in.nd rfl (.inl rfl) (pe_call G_risen_fillings (hr.mono (by decide)) (by rfl) D_risen_fillings.g D_risen_fillings.F.kp D_risen_fillings.b .nil pass0 (pa_cons (pv 0) (pa_cons (pv 1) pa_nil))))
      (pss_cons (ps_set (i := 3) sc_put_in.nd rfl (.inl rfl) pe_newN)
      (pss_cons (ps_for PassesOwn.never rfl (pi_itemsN (pe_fld (pv 0) rfl)) (pg_tup (by rfl) (pgs_cons (pg_name (i := 4) sc_put_in.nd rfl (.inl rfl)) (pgs_cons (pg_name (i := 5) sc_put_in.nd rfl (.inl rfl)) pgs_nil))) (pss_one (ps_expr (pe_call G_put_all_to (hr.mono (by decide)) (by rfl) D_put_all_to.g D_put_all_to.F.kp D_put_all_to.b .nil pass0 (pa_cons (pv 3) (pa_cons (pe_call G_filled (hr.mono (by decide)) (by rfl) D_filled.g D_filled.F.kp D_filled.b .nil pass0 (pa_cons (pv 4) (pa_cons (pv 5) (pa_cons (pv 2) pa_nil)))) pa_nil))))))
      (pss_one (ps_ret (pe_make M_Sum G_Sum_init (hr.mono (by decide)) (by rfl) T.g_Sum b_Sum_init .nil pass0 (pa_cons (pv 3) pa_nil))))))), ?_⟩
    refine ⟨_, rfl, _, rfl, p, d, M, F, fk, ns, n, 1, S, top, rfl, SM, FA, pf.pf, pf.ns, pf.top, hOf, fun r H1 RA s1 => ?_⟩
    obtain ⟨kvs, er, RF⟩ := RA
    intro D' nD sD
    have SM1 := SM.same s1
    obtain ⟨dx, d1, o1, L1, ep, n1, r1⟩ := id SM1
    have l1 : L1.length = M.length := Paired.length r1
    have s0 : Same H1 (upd H1 D' (ndO w D' [])) := same_upd nD
    have e0 : (upd H1 D' (ndO w D' [])) D' = some (ndO w D' []) := upd_same
    have nd0 : ND K w (upd H1 D' (ndO w D' [])) D' [] := .new sD
    have n1' := n1.stay (.same s0) fun o e => s0 _ _ e
    have r1' := r1.stay (.same s0)
    have x1 : ∀ C dx l, HO.ins C dx l ≠ ndO w D' [] := fun _ _ _ z => by cases z
    have x2 : ∀ o x, HO.frz o x ≠ ndO w D' [] := fun _ _ z => by cases z
    have x0 : ∀ l, HO.dK l ≠ ndO w D' [] := fun _ z => by cases z
    obtain ⟨fl1, fl2, fl3⟩ := IF.flat
    refine ⟨_, rfl, p, C, dx, _, _, rfl, s0 _ _ ep, T.cl_Sum, T.n_Sum_parts, sumF_parts _, d1, o1, L1, rfl, n1', for_itemsN (fun i σ H3 => ∃ v4 v5 : Option V, σ = [some (.ref p), some (.ref d), some (.ref r), some (.ref D'), v4, v5] ∧ PartsAt K w H3 D' (sumM [] (flatF F (M.take i))) ∧ Else D' (upd H1 D' (ndO w D' [])) H3)
      ⟨none, none, rfl, ⟨[], nd0, .nil⟩, .refl _ _⟩ (fun i σ H3 _ ⟨_, _, _, _, z⟩ => PartsAt.elseNF n1' nd0 z) ?_ ?_⟩
    · rintro i kk v σ H3 Tt b hL ⟨v4, v5, rfl, pM, el⟩ nT hb
      obtain ⟨x, c, hMi, rfl, hq⟩ := r1'.at_ hL
      have memM : (kk, c) ∈ M := List.mem_of_getElem? hMi
      have sT : Same H3 (upd H3 Tt (.tup [.ref b, .ref x])) := same_upd nT
      refine ⟨Tt, [.ref b, .ref x], rfl, SqT.of upd_same, rfl, _, [.ref x], rfl, _, [], rfl, rfl, ?_⟩
      have el3 := el.same sT
      have t3 : TupsStay (upd H1 D' (ndO w D' [])) (upd H3 Tt (.tup [.ref b, .ref x])) := el3.tups e0 True.intro
      have er3 : (upd H3 Tt (.tup [.ref b, .ref x])) r = some (.dK kvs) := el3 _ _ (s0 _ _ er) (ne_of (s0 _ _ er) e0 (x0 _))
      have RF3 : RisenFor K w C (upd H3 Tt (.tup [.ref b, .ref x])) kvs F kk := ((show RisenFor K w C H1 kvs F kk from fun e he => RF (kk, c) memM e he).same s0).elseU el3 e0 True.intro x0 x1 x2
      refine ⟨_, rfl, _, rfl, _, rfl, _, rfl, b, x, r, kk, c, F, kvs, ns, n, S, top, D0, mag D0 c, rfl, hb.stay (.same sT), SqT.keeps hq t3, er3, RF3, pf, IF.fit.good.pr _ memM, IF.fit.good.nz _ memM, IF.d0, IF.db, IF.fit.wh _ memM, Nat.le_refl _, ?_, IF.dg _ memM, fun y H4 Sy s4 => ?_⟩
      · refine Nat.lt_of_le_of_lt (Nat.mul_le_mul_right _ ?_) IF.sb
        exact Nat.le_trans (mag_le_szM (x := (kk, c)) memM) IF.fit.sz
      · have pre0 := flatF_pre F M i
        have pre1 := flatF_pre F M (i + 1)
        have fi := Fit.sum (flatF F (M.take i)) (Fit.nil (A := Of ns) (n := 0) (D := D0) (S := 0)) fun y hy => fl1 y (pre0.subset hy)
        have sp := szM_pre (D := D0) pre1
        rw [flatF_take hMi, szM_append, List.length_append] at sp
        have p4 := pM.stay (.same (sT.trans s4)) fun u e => (sT.trans s4) _ _ e
        have h1 := IF.sb
        have h2 := IF.mb
        have sp1 : szM D0 (flatF F (M.take i)) + szM D0 (filledM F kk c) ≤ szM D0 (flatF F M) := sp.1
        have sp2 : (flatF F (M.take i)).length + (filledM F kk c).length ≤ (flatF F M).length := sp.2
        refine ⟨D', y, _, filledM F kk c, Of ns, _, D0, _, rfl, p4, Sy, fi, (IF.one memM).parts, IF.d0, IF.db, by omega, by omega, fun H5 p5 el5 => ?_⟩
        refine ⟨_, _, rfl, ?_, (el3.same s4).trans el5⟩
        rw [flatF_take hMi, sumM_append]
        exact p5
    · rintro σ H3 ⟨v4, v5, rfl, pM, el⟩
      rw [l1, List.take_length] at pM
      have s3 : Same H1 H3 := Else.fresh nD s0 el
      refine ⟨_, rfl, fun x dx nx ndx nex => ⟨x, dx, D', _, rfl, upd_same, pM.made nx ndx, fun H4 sA kp => ⟨rfl, ?_⟩⟩⟩
      exact q x H4 sA ((s1.trans s3).trans (Same.made nx ndx kp)) ((s1.trans s3).free nx)
end
/-! ### sums as a ring: what lin tells -/
theorem lin_congr {f g : Pr → Rat} {M : Poly} (h : ∀ x ∈ M, f x.1 = g x.1) : lin f M = lin g M := by
  induction M with
  | nil => rfl
  | cons x r ih => rw [lin_cons, lin_cons, h x (by simp), ih fun y hy => h y (by simp [hy])]
theorem lin_mulc (c : Rat) (f : Pr → Rat) (M : Poly) : lin (fun a => c * f a) M = c * lin f M := by
  induction M with
  | nil =>
    show (0 : Rat) = c * 0
    grind
  | cons x r ih =>
    rw [lin_cons, lin_cons, ih]
    grind
theorem lin_addf (f g : Pr → Rat) (M : Poly) : lin (fun a => f a + g a) M = lin f M + lin g M := by
  induction M with
  | nil =>
    show (0 : Rat) = 0 + 0
    grind
  | cons x r ih =>
    rw [lin_cons, lin_cons, lin_cons, ih]
    grind
theorem lin_zero (M : Poly) : lin (fun _ => 0) M = 0 := by
  induction M with
  | nil => rfl
  | cons x r ih =>
    rw [lin_cons, ih]
    grind
theorem lin_swap (g : Pr → Pr → Rat) (M N : Poly) : lin (fun a => lin (fun b => g a b) N) M = lin (fun b => lin (fun a => g a b) M) N := by
  induction M with
  | nil =>
    show (0 : Rat) = lin (fun _ => 0) N
    rw [lin_zero]
  | cons x r ih =>
    rw [lin_cons, ih]
    have e : (fun b => lin (fun a => g a b) (x :: r)) = fun b => x.2 * g x.1 b + lin (fun a => g a b) r := by
      funext b
      rw [lin_cons]
    rw [e, lin_addf, lin_mulc]
/-- the same, whatever is asked -/
def Eqv (M N : Poly) : Prop := ∀ f, lin f M = lin f N
theorem Eqv.refl (M : Poly) : Eqv M M := fun _ => rfl
theorem Eqv.symm {M N : Poly} (h : Eqv M N) : Eqv N M := fun f => (h f).symm
theorem Eqv.trans {M N L : Poly} (h : Eqv M N) (g : Eqv N L) : Eqv M L := fun f => (h f).trans (g f)
theorem Eqv.mul {M M' N N' : Poly} (h : Eqv M M') (g : Eqv N N') : Eqv (mulM M N) (mulM M' N') := fun f => by
  rw [lin_mul, lin_mul, h]
  exact lin_congr fun x _ => g _
def AllP (A : Pr → Prop) (M : Poly) : Prop := ∀ x ∈ M, A x.1
theorem AllP.mem_add {A : Pr → Prop} {M : Poly} (h : AllP A M) {k : Pr} (hk : A k) (r : Rat) : AllP A (addM M k r) := fun x hx => by
  unfold addM at hx
  split at hx
  · exact h x (List.mem_filter.mp hx).1
  · rcases keys_put M k _ x hx with ⟨e, _⟩ | z
    · rw [e]
      exact hk
    · exact h x z
theorem AllP.sum {A : Pr → Prop} : ∀ (N : Poly) {M : Poly}, AllP A M → AllP A N → AllP A (sumM M N)
  | [], _, h, _ => h
  | x :: N, _, h, g => AllP.sum N (h.mem_add (g x (by simp)) x.2) fun y hy => g y (by simp [hy])
theorem AllP.nil {A : Pr → Prop} : AllP A [] := fun _ h => nomatch h
theorem AllP.mul {A B E : Pr → Prop} {M N : Poly} (h : AllP A M) (g : AllP B N) (hE : ∀ a b, A a → B b → E (joinP a b)) : AllP E (mulM M N) := by
  refine AllP.sum _ AllP.nil fun z hz => ?_
  obtain ⟨x, hx, hz⟩ := List.mem_flatMap.mp hz
  obtain ⟨y, hy, e⟩ := List.mem_map.mp hz
  subst e
  exact hE _ _ (h x hx) (g y hy)
theorem AllP.neg {A : Pr → Prop} {M : Poly} (h : AllP A M) : AllP A (negM M) := fun x hx => by
  obtain ⟨y, hy, e⟩ := List.mem_map.mp hx
  subst e
  exact h y hy
theorem AllP.imp {A B : Pr → Prop} {M : Poly} (h : AllP A M) (g : ∀ p, A p → B p) : AllP B M := fun x hx => g _ (h x hx)
theorem nodup_sum : ∀ (N : Poly) {M : Poly}, (M.map (·.1)).Nodup → ((sumM M N).map (·.1)).Nodup
  | [], _, h => h
  | x :: N, _, h => nodup_sum N (nodup_addM x.1 x.2 h)
theorem mul_comm' {M N : Poly} (h : AllP Canon M) (g : AllP Canon N) : Eqv (mulM M N) (mulM N M) := fun f => by
  rw [lin_mul, lin_mul, lin_swap]
  exact lin_congr fun y hy => lin_congr fun x hx => by rw [join_comm (h x hx) (g y hy)]
theorem mul_assoc' {M N L : Poly} (h : AllP Canon M) (g : AllP Canon N) (k : AllP Canon L) : Eqv (mulM (mulM M N) L) (mulM M (mulM N L)) := fun f => by
  rw [lin_mul, lin_mul, lin_mul]
  refine lin_congr fun x hx => ?_
  rw [lin_mul]
  exact lin_congr fun y hy => lin_congr fun z hz => by rw [join_assoc (h x hx) (g y hy) (k z hz)]
theorem mul_add' {M N L : Poly} (n : (N.map (·.1)).Nodup) : ∀ f, lin f (mulM M (sumM N L)) = lin f (mulM M N) + lin f (mulM M L) := fun f => by
  rw [lin_mul, lin_mul, lin_mul, ← lin_addf]
  exact lin_congr fun x _ => lin_sumM _ _ n
theorem add_mul' {M N L : Poly} (n : (M.map (·.1)).Nodup) : ∀ f, lin f (mulM (sumM M N) L) = lin f (mulM M L) + lin f (mulM N L) := fun f => by
  rw [lin_mul, lin_mul, lin_mul, lin_sumM _ _ n]
theorem mul_neg' {M N : Poly} : ∀ f, lin f (mulM M (negM N)) = - lin f (mulM M N) := fun f => by
  rw [lin_mul, lin_mul]
  have e : (fun a => lin (fun b => f (joinP a b)) (negM N)) = fun a => (-1) * lin (fun b => f (joinP a b)) N := by
    funext a
    rw [lin_neg]
    grind
  rw [e, lin_mulc]
  grind
theorem one_mul' (M : Poly) : Eqv (mulM [([], 1)] M) M := fun f => by
  rw [lin_mul, lin_cons, lin_nil]
  show 1 * lin f M + 0 = _
  grind
theorem mul_one' {M : Poly} (h : AllP Canon M) : Eqv (mulM M [([], 1)]) M := fun f => by
  rw [lin_mul]
  refine lin_congr fun x hx => ?_
  rw [lin_cons, lin_nil, join_nil (h x hx)]
  grind
theorem numberM {n : Int} (f : Pr → Rat) : lin f (addM [] [] (n : Rat)) = (n : Rat) * f [] := by
  rw [lin_add f (M := []) List.nodup_nil, lin_nil]
  grind
theorem powM_zero (N : Poly) : Eqv (powM N 0) [([], 1)] := fun f => by
  show lin f (addM [] [] ((1 : Int) : Rat)) = _
  rw [numberM, lin_cons, lin_nil]
  show ((1 : Int) : Rat) * f [] = 1 * f [] + 0
  have : ((1 : Int) : Rat) = 1 := rfl
  rw [this]
  grind
theorem AllP.pow {A : Pr → Prop} {N : Poly} (h0 : A []) (hj : ∀ a b, A a → A b → A (joinP a b)) (h : AllP A N) : ∀ k, AllP A (powM N k)
  | 0 => AllP.nil.mem_add h0 _
  | k + 1 => (AllP.pow h0 hj h k).mul h hj
theorem CanonJ : ∀ a b, Canon a → Canon b → Canon (joinP a b) := fun _ _ ha hb => hb.join ha.one
theorem powM_add {N : Poly} (h : AllP Canon N) (j : Nat) : ∀ k, Eqv (powM N (j + k)) (mulM (powM N j) (powM N k))
  | 0 => ((mul_one' (h.pow Canon.nil CanonJ j)).symm).trans ((Eqv.refl _).mul (powM_zero N).symm)
  | k + 1 => ((powM_add h j k).mul (Eqv.refl N)).trans (mul_assoc' (h.pow Canon.nil CanonJ j) (h.pow Canon.nil CanonJ k) h)
/-! ### products that are put in -/
def termF (F : Str → Option Poly) (e : Str × Int) : Poly := match F e.1 with
  | some N => powM N e.2.toNat
  | none => [([e], 1)]
def prodT (F : Str → Option Poly) : Pr → Poly
  | [] => [([], 1)]
  | e :: r => mulM (termF F e) (prodT F r)
def CanF (F : Str → Option Poly) : Prop := ∀ x N, F x = some N → AllP Canon N
theorem canon_one {e : Str × Int} (h : 1 ≤ e.2) : Canon [e] := ⟨List.pairwise_singleton _ _, fun f hf => by rw [show f = e by simpa using hf]; exact h⟩
theorem AllP.single {A : Pr → Prop} {p : Pr} {c : Rat} (h : A p) : AllP A [(p, c)] := fun x hx => by
  rw [show x = (p, c) by simpa using hx]
  exact h
theorem termF_can {F : Str → Option Poly} (hF : CanF F) {e : Str × Int} (he : 1 ≤ e.2) : AllP Canon (termF F e) := by
  unfold termF
  cases h : F e.1 with
  | none => exact AllP.single (canon_one he)
  | some N => exact (hF _ _ h).pow Canon.nil CanonJ _
theorem prodT_can {F : Str → Option Poly} (hF : CanF F) : ∀ {p : Pr}, (∀ e ∈ p, 1 ≤ e.2) → AllP Canon (prodT F p)
  | [], _ => AllP.single Canon.nil
  | e :: r, h => (termF_can hF (h e (by simp))).mul (prodT_can hF fun f hf => h f (by simp [hf])) CanonJ
theorem prodT_ins {F : Str → Option Poly} (hF : CanF F) {e : Str × Int} (he : 1 ≤ e.2) : ∀ {p : Pr}, Canon p → Eqv (prodT F (insE e p)) (mulM (termF F e) (prodT F p))
  | [], _ => .refl _
  | f :: r, hp => by
    unfold insE
    have hf := hp.one f (by simp)
    have cr := prodT_can hF hp.tail.one
    split
    · exact .refl _
    · split
      · rename_i h
        have te : Eqv (termF F (f.1, f.2 + e.2)) (mulM (termF F e) (termF F f)) := by
          unfold termF
          rw [h]
          have en : (f.2 + e.2).toNat = e.2.toNat + f.2.toNat := by omega
          cases hN : F f.1 with
          | some N =>
            show Eqv (powM N (f.2 + e.2).toNat) (mulM (powM N e.2.toNat) (powM N f.2.toNat))
            rw [en]
            exact powM_add (hF _ _ hN) _ _
          | none =>
            intro g
            rw [lin_mul, lin_cons, lin_nil, lin_cons, lin_nil]
            show _ = 1 * lin (fun b => g (joinP [e] b)) [([f], 1)] + 0
            rw [lin_cons, lin_nil]
            have ej : joinP [e] [f] = [(f.1, f.2 + e.2)] := by
              show insE e [f] = _
              unfold insE
              rw [h, if_neg (slt_irrefl _), if_pos rfl]
            rw [ej]
            grind
        exact (te.mul (.refl _)).trans (mul_assoc' (termF_can hF he) (termF_can hF hf) cr)
      · -- f * (e inserted)
        have ih := prodT_ins hF he hp.tail
        exact (((Eqv.refl (termF F f)).mul ih).trans (mul_assoc' (termF_can hF hf) (termF_can hF he) cr).symm).trans
          (((mul_comm' (termF_can hF hf) (termF_can hF he)).mul (.refl _)).trans (mul_assoc' (termF_can hF he) (termF_can hF hf) cr))
theorem prodT_join {F : Str → Option Poly} (hF : CanF F) {q : Pr} (hq : Canon q) : ∀ {p : Pr}, (∀ e ∈ p, 1 ≤ e.2) → Eqv (prodT F (joinP p q)) (mulM (prodT F p) (prodT F q))
  | [], _ => (one_mul' _).symm
  | e :: r, hp => by
    have he := hp e (by simp)
    have hr := fun f (hf : f ∈ r) => hp f (by simp [hf])
    exact ((prodT_ins hF he (hq.join hr)).trans ((Eqv.refl _).mul (prodT_join hF hq hr))).trans (mul_assoc' (termF_can hF he) (prodT_can hF hr) (prodT_can hF hq.one)).symm
/-! ### what putting in tells -/
def prodS (F : Str → Option Poly) : Pr → Poly
  | [] => [([], 1)]
  | e :: r => match F e.1 with
    | some N => mulM (powM N e.2.toNat) (prodS F r)
    | none => prodS F r
theorem prodS_can {F : Str → Option Poly} (hF : CanF F) : ∀ p : Pr, AllP Canon (prodS F p)
  | [] => AllP.single Canon.nil
  | e :: r => by
    unfold prodS
    cases h : F e.1 with
    | none => exact prodS_can hF r
    | some N => exact ((hF _ _ h).pow Canon.nil CanonJ _).mul (prodS_can hF r) CanonJ
theorem fold_prodS {F : Str → Option Poly} (hF : CanF F) : ∀ (p : Pr) {acc : Poly}, AllP Canon acc → Eqv (p.foldl (stepF F) acc) (mulM acc (prodS F p))
  | [], _, h => (mul_one' h).symm
  | e :: r, acc, h => by
    rw [List.foldl_cons]
    unfold stepF prodS
    cases hN : F e.1 with
    | none => exact fold_prodS hF r h
    | some N =>
      have cp := (hF _ _ hN).pow Canon.nil CanonJ e.2.toNat
      exact (fold_prodS hF r (h.mul cp CanonJ)).trans (mul_assoc' h cp (prodS_can hF r))
theorem ins_head {e : Str × Int} {r : Pr} (h : Canon (e :: r)) (g : Str × Int → Bool) : insE e (r.filter g) = e :: r.filter g := by
  cases hr : r.filter g with
  | nil => rfl
  | cons f t =>
    have hf : f ∈ r := (List.mem_filter.mp (by rw [hr]; simp)).1
    unfold insE
    rw [if_pos ((List.pairwise_cons.mp h.up).1 f hf)]
theorem lin_one (f : Pr → Rat) (k : Pr) (c : Rat) (S : Poly) : lin f (mulM [(k, c)] S) = c * lin (fun b => f (joinP k b)) S := by
  rw [lin_mul, lin_cons, lin_nil]
  grind
theorem keptP_can {F : Str → Option Poly} {p : Pr} (h : Canon p) : Canon (keptP F p) := ⟨h.up.sublist List.filter_sublist, fun e he => h.one e (List.mem_filter.mp he).1⟩
theorem prodT_kept {F : Str → Option Poly} (hF : CanF F) : ∀ {p : Pr}, Canon p → Eqv (prodT F p) (mulM [(keptP F p, 1)] (prodS F p))
  | [], _ => (one_mul' _).symm
  | e :: r, h => by
    have ih := prodT_kept hF h.tail
    have ck : AllP Canon [(keptP F r, (1 : Rat))] := AllP.single (keptP_can h.tail)
    have cs := prodS_can hF r
    have ce : AllP Canon [([e], (1 : Rat))] := AllP.single (canon_one (h.one e (by simp)))
    show Eqv (mulM (termF F e) (prodT F r)) _
    unfold termF prodS
    cases hN : F e.1 with
    | none =>
      have ek : keptP F (e :: r) = insE e (keptP F r) := by
        have a := ins_head h fun e => (F e.1).isNone
        unfold keptP
        rw [a, List.filter_cons_of_pos (by rw [hN]; rfl)]
      have one : Eqv (mulM [([e], 1)] [(keptP F r, 1)]) [(keptP F (e :: r), 1)] := fun f => by
        rw [lin_one, lin_cons, lin_nil, lin_cons, lin_nil, ek]
        show 1 * (1 * f (insE e (keptP F r)) + 0) = _
        grind
      exact (((Eqv.refl _).mul ih).trans (mul_assoc' ce ck cs).symm).trans (one.mul (.refl _))
    | some N =>
      have cp := (hF _ _ hN).pow Canon.nil CanonJ e.2.toNat
      have ek : keptP F (e :: r) = keptP F r := by
        unfold keptP
        rw [List.filter_cons_of_neg (by rw [hN]; simp)]
      rw [ek]
      exact (((Eqv.refl _).mul ih).trans (mul_assoc' cp ck cs).symm).trans (((mul_comm' cp ck).mul (.refl _)).trans (mul_assoc' ck cp cs))
theorem lin_filled {F : Str → Option Poly} (hF : CanF F) {p : Pr} (h : Canon p) (c : Rat) (f : Pr → Rat) : lin f (filledM F p c) = c * lin f (prodT F p) := by
  rw [prodT_kept hF h f, lin_one]
  unfold filledM
  rw [fold_prodS hF p (AllP.single (keptP_can h)) f, lin_one]
  grind
theorem lin_putIn {F : Str → Option Poly} (hF : CanF F) {M : Poly} (h : AllP Canon M) (f : Pr → Rat) : lin f (putInM F M) = lin (fun p => lin f (prodT F p)) M := by
  unfold putInM
  rw [lin_sumM f (M := []) _ List.nodup_nil, lin_nil, Rat.zero_add]
  unfold flatF
  induction M with
  | nil => rfl
  | cons y r ih =>
    rw [List.flatMap_cons, lin_append, lin_cons, lin_filled hF (h y (by simp)), ih fun z hz => h z (by simp [hz])]
theorem put_add {F : Str → Option Poly} (hF : CanF F) {M N : Poly} (n : (M.map (·.1)).Nodup) (h : AllP Canon M) (g : AllP Canon N) (f : Pr → Rat) : lin f (putInM F (sumM M N)) = lin f (putInM F M) + lin f (putInM F N) := by
  rw [lin_putIn hF (AllP.sum N h g), lin_putIn hF h, lin_putIn hF g, lin_sumM _ _ n]
theorem put_mul {F : Str → Option Poly} (hF : CanF F) {M N : Poly} (h : AllP Canon M) (g : AllP Canon N) : Eqv (putInM F (mulM M N)) (mulM (putInM F M) (putInM F N)) := fun f => by
  rw [lin_putIn hF (h.mul g CanonJ), lin_mul, lin_mul, lin_putIn hF h]
  refine lin_congr fun x hx => ?_
  have e1 : (fun u => lin (fun v => f (joinP u v)) (putInM F N)) = fun u => lin (fun b => lin (fun v => f (joinP u v)) (prodT F b)) N := by
    funext u
    rw [lin_putIn hF g]
  rw [e1, lin_swap]
  refine lin_congr fun y hy => ?_
  rw [prodT_join hF (g y hy) (h x hx).one f, lin_mul]
/-- nothing changes -/
theorem prodT_same {F : Str → Option Poly} : ∀ {p : Pr}, Canon p → (∀ e ∈ p, Eqv (termF F e) [([e], 1)]) → Eqv (prodT F p) [(p, 1)]
  | [], _, _ => .refl _
  | e :: r, h, g => by
    have ih := prodT_same h.tail fun f hf => g f (by simp [hf])
    refine ((g e (by simp)).mul ih).trans fun f => ?_
    have ej : joinP [e] r = e :: r := by
      have a := ins_head h fun _ => true
      rw [List.filter_eq_self.mpr fun _ _ => rfl] at a
      exact a
    rw [lin_one, lin_cons, lin_nil, lin_cons, lin_nil, ej]
    grind
theorem put_same {F : Str → Option Poly} (hF : CanF F) {M : Poly} (h : AllP Canon M) (g : ∀ y ∈ M, ∀ e ∈ y.1, Eqv (termF F e) [([e], 1)]) : Eqv (putInM F M) M := fun f => by
  rw [lin_putIn hF h]
  refine lin_congr fun y hy => ?_
  rw [prodT_same (h y hy) (g y hy) f, lin_cons, lin_nil]
  grind
theorem pow_single (x : Str) : ∀ k : Nat, Eqv (powM [([(x, 1)], 1)] (k + 1)) [([(x, ((k : Int) + 1))], 1)]
  | 0 => by
    refine ((powM_zero _).mul (.refl _)).trans ((one_mul' _).trans fun f => ?_)
    rfl
  | k + 1 => by
    refine ((pow_single x k).mul (.refl _)).trans fun f => ?_
    have ej : joinP [(x, ((k : Int) + 1))] [(x, 1)] = [(x, 1 + ((k : Int) + 1))] := by
      show insE (x, ((k : Int) + 1)) [(x, 1)] = _
      unfold insE
      rw [if_neg (slt_irrefl _), if_pos rfl]
    rw [lin_one, lin_cons, lin_nil, lin_cons, lin_nil, ej]
    have : 1 + ((k : Int) + 1) = ((k + 1 : Nat) : Int) + 1 := by omega
    rw [this]
    grind
theorem term_single {F : Str → Option Poly} {e : Str × Int} (he : 1 ≤ e.2) (h : F e.1 = some [([(e.1, 1)], 1)]) : Eqv (termF F e) [([e], 1)] := by
  unfold termF
  rw [h]
  obtain ⟨k, hk⟩ : ∃ k : Nat, e.2.toNat = k + 1 := ⟨e.2.toNat - 1, by omega⟩
  have ek : e = (e.1, ((k : Int) + 1)) := Prod.ext rfl (by show e.2 = _; omega)
  show Eqv (powM _ e.2.toNat) _
  rw [hk]
  refine (pow_single e.1 k).trans fun f => ?_
  rw [← ek]
theorem term_none {F : Str → Option Poly} {e : Str × Int} (h : F e.1 = none) : Eqv (termF F e) [([e], 1)] := by
  unfold termF
  rw [h]
  exact .refl _
/-! ### points -/
theorem evalI_ins (v : Str → Int) {e : Str × Int} (he : 1 ≤ e.2) : ∀ {p : Pr}, (∀ f ∈ p, 1 ≤ f.2) → evalI v (insE e p) = v e.1 ^ e.2.toNat * evalI v p
  | [], _ => rfl
  | f :: r, h => by
    have hf := h f (by simp)
    unfold insE
    split
    · rfl
    · split
      · rename_i z
        show v f.1 ^ (f.2 + e.2).toNat * evalI v r = v e.1 ^ e.2.toNat * (v f.1 ^ f.2.toNat * evalI v r)
        have en : (f.2 + e.2).toNat = e.2.toNat + f.2.toNat := by omega
        rw [z, en, Int.pow_add, Int.mul_assoc]
      · show v f.1 ^ f.2.toNat * evalI v (insE e r) = v e.1 ^ e.2.toNat * (v f.1 ^ f.2.toNat * evalI v r)
        rw [evalI_ins v he fun g hg => h g (by simp [hg]), ← Int.mul_assoc, ← Int.mul_assoc, Int.mul_comm (v f.1 ^ f.2.toNat)]
theorem evalI_join (v : Str → Int) {q : Pr} (hq : Canon q) : ∀ {p : Pr}, (∀ f ∈ p, 1 ≤ f.2) → evalI v (joinP p q) = evalI v p * evalI v q
  | [], _ => (Int.one_mul _).symm
  | e :: r, h => by
    have hr := fun f (hf : f ∈ r) => h f (by simp [hf])
    show evalI v (insE e (joinP r q)) = v e.1 ^ e.2.toNat * evalI v r * evalI v q
    rw [evalI_ins v (h e (by simp)) (hq.join hr).one, evalI_join v hq hr, Int.mul_assoc]
abbrev evM (v : Str → Int) (M : Poly) : Rat := lin (fun p => (evalI v p : Rat)) M
theorem evM_mul (v : Str → Int) {M N : Poly} (h : AllP Canon M) (g : AllP Canon N) : evM v (mulM M N) = evM v M * evM v N := by
  unfold evM
  rw [lin_mul]
  have e : lin (fun a => lin (fun b => (evalI v (joinP a b) : Rat)) N) M = lin (fun a => lin (fun b => (evalI v b : Rat)) N * (evalI v a : Rat)) M := by
    refine lin_congr fun x hx => ?_
    have e2 : lin (fun b => (evalI v (joinP x.1 b) : Rat)) N = lin (fun b => (evalI v x.1 : Rat) * (evalI v b : Rat)) N := lin_congr fun y hy => by
      rw [evalI_join v (g y hy) (h x hx).one, Rat.intCast_mul]
    rw [e2, lin_mulc]
    grind
  rw [e, lin_mulc]
  grind
theorem evM_pow (v : Str → Int) {N : Poly} (h : AllP Canon N) {t : Int} (ht : evM v N = (t : Rat)) : ∀ k, evM v (powM N k) = ((t ^ k : Int) : Rat)
  | 0 => by
    show lin _ (addM [] [] ((1 : Int) : Rat)) = _
    rw [numberM, Int.pow_zero]
    show ((1 : Int) : Rat) * ((1 : Int) : Rat) = _
    rw [← Rat.intCast_mul]
    rfl
  | k + 1 => by
    show evM v (mulM (powM N k) N) = _
    rw [evM_mul v (h.pow Canon.nil CanonJ k) h, evM_pow v h ht k, ht, ← Rat.intCast_mul, Int.pow_succ]
theorem evM_prod (v v' : Str → Int) {F : Str → Option Poly} (hF : CanF F) (hn : ∀ x, F x = none → v' x = v x) (hs : ∀ x N, F x = some N → evM v N = (v' x : Rat)) : ∀ {p : Pr}, (∀ e ∈ p, 1 ≤ e.2) → evM v (prodT F p) = (evalI v' p : Rat)
  | [], _ => by
    show lin _ [([], 1)] = _
    rw [lin_cons, lin_nil]
    show 1 * ((1 : Int) : Rat) + 0 = ((1 : Int) : Rat)
    grind
  | e :: r, h => by
    have hr := fun f (hf : f ∈ r) => h f (by simp [hf])
    have he := h e (by simp)
    show evM v (mulM (termF F e) (prodT F r)) = ((v' e.1 ^ e.2.toNat * evalI v' r : Int) : Rat)
    rw [evM_mul v (termF_can hF he) (prodT_can hF hr), evM_prod v v' hF hn hs hr, Rat.intCast_mul]
    congr 1
    unfold termF
    cases hN : F e.1 with
    | none =>
      show lin _ [([e], 1)] = _
      rw [lin_cons, lin_nil, hn _ hN]
      show 1 * ((v e.1 ^ e.2.toNat * 1 : Int) : Rat) + 0 = _
      rw [Int.mul_one]
      grind
    | some N => exact evM_pow v (hF _ _ hN) (hs _ _ hN) _
theorem evM_put (v v' : Str → Int) {F : Str → Option Poly} (hF : CanF F) (hn : ∀ x, F x = none → v' x = v x) (hs : ∀ x N, F x = some N → evM v N = (v' x : Rat)) {M : Poly} (h : AllP Canon M) : evM v (putInM F M) = evM v' M := by
  unfold evM
  rw [lin_putIn hF h]
  exact lin_congr fun y hy => evM_prod v v' hF hn hs (h y hy).one
/-! ### sets of texts: made, added to, sorted -/
/-- the payload D holds the texts l, and its places are in order -/
def TxtSet (P : Program) (w : World) (h : Heap) (a : Addr) (l : List Str) : Prop := ∃ D : PySem.Froz.SD, h.get? a = some (PySem.Froz.sObj "set" D) ∧ PySem.Froz.TxOk P w D l ∧ Ris D.2.2.place.toList ∧ (w.params.followText "set-order" = true ∨ D.2.2.led = true)
def SetT (P : Program) (w : World) (a : Addr) (l : List Str) : HO := .ext fun h => TxtSet P w h a l
theorem TxtSet.at_ {P : Program} {w : World} {h h' : Heap} {a : Addr} {l : List Str} (R : TxtSet P w h a l) (k : ∀ o, h.get? a = some o → h'.get? a = some o) : TxtSet P w h' a l := by
  obtain ⟨D, e, r⟩ := R
  exact ⟨D, k _ e, r⟩
theorem setT_new {w : World} {P : Program} {H : Hp} {h : Heap} {a : Addr} {l : List Str} (R : TxtSet P w h a l) : ObjOk P w H h a (SetT P w a l) := by
  have ⟨D, e, _⟩ := R
  exact ⟨R, ⟨_, e⟩, fun h1 h2 p k => p.at_ k⟩
theorem TxtSet.typeIs {P : Program} {w : World} {s : Shared} {a : Addr} {l : List Str} (R : TxtSet P w s.heap a l) : s.TypeIs (.ref a) "set" := by
  obtain ⟨D, e, _⟩ := R
  exact ⟨_, e, rfl⟩
theorem addTx_more {h : Int} {v : Value} {D : PySem.Froz.SD} (r : Ris D.2.2.place.toList) : Ris (PySem.Froz.addTx h v D).2.2.place.toList ∧ (PySem.Froz.addTx h v D).2.2.led = D.2.2.led := by
  obtain ⟨es, ep, t⟩ := D
  have hr := layNew_ris t es h v r
  have hl := layNew_led t es h v
  unfold PySem.Froz.addTx PySem.Froz.tailTx
  dsimp only
  split
  · split
    · exact ⟨relayAll_ris _ _ _, (relayAll_led _ _ _).trans hl⟩
    · exact ⟨hr, hl⟩
  · split
    · exact ⟨relayAll_ris _ _ _, (relayAll_led _ _ _).trans hl⟩
    · exact ⟨hr, hl⟩
section
variable {P : Program} {w : World} {A : Around} {E : Value → Shared → Prop} {s : Shared} {a : Addr} {l : List Str} {k : Str} {u : Tok}
theorem addT_old {Q : Bool → Shared → Prop} (R : TxtSet P w s.heap a l) (hk : k ∈ l) (hb : l.length < scanBound) (h : Q false s) : wpAny (model P w) A (setAddHashed a (.str k u) (hashStr w k)) Q E s := by
  obtain ⟨⟨es, ep, t⟩, ho, F, _⟩ := R
  have hd : (PySem.Froz.sObj "set" (es, ep, t)).data = .set es ep t := rfl
  have hf : t.fits es.size = true := F.fit
  have hel : ElemsOf (strKind P w) es.toList := F.el
  have hsz : es.size = l.length := F.sz
  have hb0 : es.size < scanBound := by omega
  have hkey : (strKind P w).is k (.str k u) = true := PySem.Froz.is_str k u
  unfold setAddHashed setAddHashedIn
  refine wpAny_holding (wpAny_bind (wpAny_setState_of ho hd hf ?_))
  dsimp only
  rw [byScan_of rfl hb0 hel]
  simp only [↓reduceIte]
  unfold setAddByScan
  refine wpAny_bind ?_
  refine wpAny_bind (wpAny_rule ?_)
  refine wpAny_bind (wpAny_setScan_of (knd := strKind P w) (k := k) hkey ho hd hf hel ?_)
  cases hfi : List.findIdx? (fun e => (strKind P w).is k e.2) es.toList with
  | some j =>
    dsimp only
    exact wpAny_pure (wpAny_pure h)
  | none =>
    obtain ⟨e, he, q⟩ := (F.mem k).mp hk
    have c := List.findIdx?_eq_none_iff.mp hfi e he
    rw [q] at c
    cases c
theorem call_addT {Q : Value → Shared → Prop} (R : TxtSet P w s.heap a l) (hb : l.length + 1 < scanBound)
    (hQ : ∀ h', Heap.SameBut a s.heap h' → TxtSet P w h' a (if k ∈ l then l else k :: l) → Q .none { s with heap := h', toks := s.toks + 1 }) : wpAny (model P w) A (call (.builtin "set.add") [.ref a, .str k u]) Q E s := by
  refine wpAny_call_entry PySem.F.slot_set_add R.typeIs PySem.F.entry_set_add ?_ (PySem.F.args_set_add_2 _ _)
  unfold Builtin.«set.add» Builtin.Frozenset.oneOther
  simp only [List.isEmpty_nil, bind_assoc]
  unfold Builtin.Frozenset.addrOf setAdd
  refine wpAny_bind (wpAny_pure ?_)
  try dsimp only
  refine wpAny_bind (wpAny_pure ?_)
  try dsimp only
  refine wpAny_bind ?_
  refine wpAny_holding ?_
  refine wpAny_bind ((strKind P w).pyHash (PySem.Froz.is_str k u) ?_)
  by_cases hk : k ∈ l
  · refine addT_old (s := { s with toks := s.toks + 1 }) R hk (by omega) ?_
    show wpAny _ _ (ret Value.none) _ _ _
    refine wpAny_pure ⟨_, rfl, hQ s.heap (Heap.SameBut.refl a s.heap) ?_⟩
    rw [if_pos hk]
    exact R
  · obtain ⟨D, ho, F, ri, le⟩ := R
    refine PySem.Froz.add_x (s := { s with toks := s.toks + 1 }) (T := "set") ho F hk hb ?_
    show wpAny _ _ (ret Value.none) _ _ _
    refine wpAny_pure ⟨_, rfl, hQ _ (Heap.SameBut.update ..) ?_⟩
    rw [if_neg hk]
    have m := addTx_more (h := hashStr w k) (v := .str k u) ri
    exact ⟨_, PySem.Froz.get_upd _ ho rfl, PySem.Froz.add_ok u F, m.1, le.imp id fun z => by rw [m.2]; exact z⟩
end
section
variable {X : Cx}
def rSet0T (P : Program) (w : World) : List V → Hp → VK → Prop := fun xs H Q => xs = [] ∧ ∀ p, H p = none → Q (.ref p) (upd H p (SetT P w p []))
theorem cr_set0T : CallR X (.type "set") (rSet0T X.prog X.w) := by
  intro pins s σ H xs us Q I r h
  obtain ⟨rfl, q⟩ := h
  cases r
  refine setR_new fun _ => ?_
  have new : TxtSet X.prog X.w (s.heap.push { cls := .type "set", dict := none, data := .set #[] 0 (.fresh 0 0 (!X.w.params.followText "set-order")) }) s.heap.objs.size [] :=
    ⟨(#[], 0, .fresh 0 0 (!X.w.params.followText "set-order")), Heap.get?_push_size _ rfl, PySem.Froz.TxOk.nil rfl, List.Pairwise.nil, by
      show _ ∨ (!X.w.params.followText "set-order") = true
      cases X.w.params.followText "set-order"
      · exact .inr rfl
      · exact .inl rfl⟩
  exact ⟨.ref _, upd H s.heap.objs.size (SetT X.prog X.w s.heap.objs.size []), I.laid (t' := s.toks) (fun b u e => Heap.get?_push_of_some _ e) (Nat.le_refl _) (setT_new new), rfl, q _ (I.hok.fresh (Nat.le_refl _))⟩
def rSAddT (P : Program) (w : World) : V → List V → Hp → VK → Prop := fun x xs H Q => ∃ (a : Addr) (k : Str) (l : List Str), x = V.ref a ∧ xs = [.str k] ∧ H a = some (SetT P w a l) ∧ l.length + 1 < scanBound ∧ Q .non (upd H a (SetT P w a (if k ∈ l then l else k :: l)))
theorem mt_saddT : MtR X "set.add" (rSAddT X.prog X.w) := by
  intro pins s σ H x xs v us Q I rx rxs h
  obtain ⟨a, k, l, rfl, rfl, ha, room, q⟩ := h
  cases rx
  cases rxs with
  | cons ry rt =>
    cases rt
    obtain ⟨t, rfl⟩ := ry
    have R : TxtSet X.prog X.w s.heap a l := (I.hok a _ ha).1
    refine call_addT R room fun h' sb new => ?_
    have he : ∃ u, h'.get? a = some u := by
      have ⟨D, e, _⟩ := new
      exact ⟨_, e⟩
    exact ⟨.non, upd H a (SetT X.prog X.w a (if k ∈ l then l else k :: l)), I.write (e := a) (t' := s.toks + 1) (by rw [ha]; trivial) (.inl rfl) (fun b u hb hu => (sb.2 b hb).trans hu) he (setT_new new), rfl, q⟩
def tSAddT (P : Program) (w : World) (to te : TE) : TE := fun σ H Q => to σ H fun x H1 => (∃ a l, x = V.ref a ∧ H1 a = some (SetT P w a l)) ∧ te σ H1 fun y H2 => rSAddT P w x [y] H2 Q
theorem pe_saddT {o e : Expr} {to te : TE} {apos cpos : Pos} (ho : PE X o to) (he : PE X e te)
    (hbase : attributeBase o "add" X.env (eval o X.env) = eval o X.env := by rfl)
    (hfew : ((backTo cpos (starEach [e] X.env)).all (fun x => !x.1) && (backToKw cpos (keywordEach [] X.env)).all (fun x => x.1.isSome)
      && decide (([e] : List Expr).length + ([] : List Keyword).length + (if ([] : List Keyword).isEmpty then 0 else 1) < 30)) = true := by rfl)
    (hline : (apos.endLine == cpos.line) = true := by rfl) (hs : starEach [e] X.env = [(false, eval e X.env)] := by rfl) :
    PE X (.Call (.Attribute o "add" apos) [e] [] cpos) (tSAddT X.prog X.w to te) := by
  refine ⟨fun pins s σ H Q I h => ?_⟩
  refine wpAny_Call_method_late hbase hfew hline rfl (thn (ho.run pins s σ H _ I h) fun v s1 ⟨x, H1, I1, r1, ty, q1⟩ => ?_)
  obtain ⟨a, l, rfl, hka⟩ := ty
  have R : TxtSet X.prog X.w s1.heap a l := (I1.hok a _ hka).1
  cases r1
  have ⟨D, hD, _⟩ := R
  refine ⟨"set", "set.add", PySem.F.plainAttrs_set, PySem.F.slot_set_add, PySem.F.type_set_add, R.typeIs, (fun b e => by cases e; exact ⟨_, hD, rfl⟩), ?_⟩
  rw [hs]
  refine Calls.callWith_builtin rfl (Calls.evalArgs_plain (Calls.spliced_cons (thn (he.run pins s1 σ H1 _ I1 q1) fun iv s2 ⟨y, H2, I2, ry, q2⟩ => Calls.spliced_nil ?_)))
  exact mt_saddT pins s2 σ H2 (.ref a) [y] (.ref a) [iv] Q I2 rfl (.cons ry .nil) q2
/-- sorted(found) -/
def rSortT (P : Program) (w : World) : List V → Hp → VK → Prop := fun vs H Q => ∃ (a : Addr) (l : List Str), vs = [.ref a] ∧ H a = some (SetT P w a l) ∧ l.Nodup ∧ l.length < 64 ∧
  ∀ (l' : List Str) (p : Addr), l'.Perm l → l'.Pairwise slt → H p = none → Q (.ref p) (upd H p (.lst (l'.map V.str)))
theorem strs_all {l : List Str} {vs : List Value} (h : ∀ v ∈ vs, ∃ x t, v = Value.str x t ∧ x ∈ l) : StrsAre vs (vs.map strOf) := strsAre_map vs fun v hv => let ⟨x, t, e, _⟩ := h v hv; ⟨x, t, e⟩
theorem perm_of_sub : ∀ {l m : List Str}, l.Nodup → (∀ x ∈ l, x ∈ m) → m.length = l.length → m.Perm l
  | [], m, _, _, e => by
    rw [List.length_eq_zero_iff.mp e]
  | x :: r, m, h, s, e => by
    obtain ⟨h1, h2⟩ := List.nodup_cons.mp h
    have hx : x ∈ m := s x (by simp)
    have ih := perm_of_sub (m := m.erase x) h2 (fun y hy => (List.mem_erase_of_ne (fun z => h1 (by rw [← z]; exact hy))).mpr (s y (by simp [hy]))) (by rw [List.length_erase_of_mem hx, e]; rfl)
    exact (List.perm_cons_erase hx).trans (ih.cons x)
theorem str_of_is {P : Program} {w : World} {k : Str} {v : Value} (h : (strKind P w).is k v = true) : ∃ t, v = .str k t := by
  rcases keyIs_shape (k := (Sum.inr k : L2.Key)) (show keyIs (.inr k) v = true from h) with ⟨_, _, e, _⟩ | ⟨x, t, e, e2⟩
  · cases e
  · cases e
    exact ⟨t, e2⟩
theorem cr_sortedT (hc : X.calm = true) : CallR X (.builtin "sorted") (rSortT X.prog X.w) := by
  intro pins s σ H xs us Q I r h
  obtain ⟨a, l, rfl, ha, nl, h64, q⟩ := h
  obtain rfl := Vals.ref1 r
  obtain ⟨⟨es, ep, t⟩, ho, F, ri, le⟩ := (show TxtSet X.prog X.w s.heap a l from (I.hok a _ ha).1)
  have hsz : es.size = l.length := F.sz
  refine Calls.call_function_entry kind_sorted plain_sorted entry_sorted (args_sorted1 _) ?_
  unfold Builtin.«sorted»
  refine wpAny_bind (m := checkCount "sorted" 1 1 _) (wpAny_pure ?_)
  refine wpAny_bind (collect_set (A := X.A.in1) (I.ok.hd hc) ⟨_, ho, rfl, rfl⟩ F.fit (by rw [hsz]; exact Nat.lt_trans h64 (by decide)) ri le fun s1 vs k1 hz g1 o1 pm => ?_)
  have hvl : vs.length = l.length := by rw [pm.length_eq, List.length_map, Array.length_toList, hsz]
  have isv : ∀ v ∈ vs, ∃ x t, v = Value.str x t ∧ x ∈ l := fun v hv => by
    obtain ⟨e, he, q⟩ := List.mem_map.mp (pm.mem_iff.mp hv)
    obtain ⟨⟨k, hk, _⟩, _⟩ := F.el e he
    obtain ⟨t, et⟩ := str_of_is hk
    exact ⟨k, t, by rw [← q]; exact et, (F.mem k).mpr ⟨e, he, hk⟩⟩
  have hS := strs_all isv
  have pl : (vs.map strOf).Perm l := by
    refine perm_of_sub nl (fun x hx => ?_) (by rw [List.length_map, hvl])
    obtain ⟨e, he, hk⟩ := (F.mem x).mp hx
    obtain ⟨t, et⟩ := str_of_is hk
    exact List.mem_map.mpr ⟨e.2, pm.mem_iff.mpr (List.mem_map.mpr ⟨e, he, rfl⟩), by rw [et]; rfl⟩
  refine wpAny_bind (wpAny_newList ?_ (by rw [hvl, sizeLine_eq]; omega))
  have hoL : (s1.heap.push { cls := .type "list", data := .seq vs.toArray }).get? s1.heap.objs.size = some (seqObj "list" vs.toArray 0) := Heap.get?_push_size _ rfl
  refine wpAny_bind (wpAny_holding (wpAny_call_entry PyProof.Rows.slot_list_sort ⟨_, hoL, rfl⟩ PyProof.Rows.entry_list_sort
    (SK.plain_sort (r := fun v => rankS l (strOf v)) hoL (by rw [hvl]; exact h64) (fun h2 Qk hQk => ?_) fun ps out o2 o3 o4 => ⟨.none, rfl, ?_⟩) (PyProof.Rows.args_list_sort _)))
  · have kk : keyKind' vs.toArray = pure oneType' := by
      match vs, hS, h2 with
      | v1 :: v2 :: rest, hS, _ => exact keyKind_strs hS
      | [], _, h => exact absurd h (by decide)
      | [v], _, h => exact absurd h (by simp)
    rw [kk]
    refine wpAny_pure (hQk _ ?_)
    intro p q hp hq Q' E' hQ
    rw [PyProof.Rows.pairsOf_toList] at hp hq
    obtain ⟨x, t, e1, m1⟩ := isv _ (mem_zip_self hp).2
    obtain ⟨y, u, e2, m2⟩ := isv _ (mem_zip_self hq).2
    rw [e1, e2] at hQ ⊢
    rw [keyLt'_oneType]
    refine oneLt_str ?_
    have := rankS_iff m1 m2
    show Q' (decide (slt x y)) _
    rw [this]
    exact hQ
  · have pv : out.toList.Perm vs := by
      have z := o3.map Prod.snd
      rw [List.map_snd_zip (Nat.le_refl _)] at z
      rw [o2]
      exact z
    have pl' : (out.toList.map strOf).Perm l := (pv.map strOf).trans pl
    have up : (out.toList.map strOf).Pairwise slt := by
      have nd' := pl'.nodup_iff.mpr nl
      rw [o2, List.map_map] at nd' ⊢
      rw [List.nodup_iff_pairwise_ne, List.pairwise_map] at nd'
      rw [List.pairwise_map]
      refine List.Pairwise.imp_of_mem (fun {p q} hp hq h => ?_) (o4.and nd')
      obtain ⟨a1, b1⟩ := mem_zip_self (o3.mem_iff.mp hp)
      obtain ⟨a2, b2⟩ := mem_zip_self (o3.mem_iff.mp hq)
      obtain ⟨x, t, e1, m1⟩ := isv _ b1
      obtain ⟨y, u, e2, m2⟩ := isv _ b2
      have h1 : rankS l (strOf p.1) ≤ rankS l (strOf q.1) := h.1
      have h2 : strOf p.2 ≠ strOf q.2 := h.2
      show slt (strOf p.2) (strOf q.2)
      rw [← a1, ← a2, e1, e2] at h2 ⊢
      rw [e1, e2] at h1
      have h1' : rankS l x ≤ rankS l y := h1
      have h2' : x ≠ y := h2
      show slt x y
      by_cases c : slt x y
      · exact c
      · rcases slt_or c with g | g
        · have := rankS_lt m2 g
          omega
        · exact absurd g h2'
    have hI : StrsAre out.toList (out.toList.map strOf) := strsAre_map _ fun v hv => by
      obtain ⟨x, t, e, _⟩ := isv v (pv.mem_iff.mp hv)
      exact ⟨x, t, e⟩
    have hlen : ((out.toList.map strOf).map V.str).length ≤ sizeLine := by
      rw [List.length_map, pl'.length_eq, sizeLine_eq]
      omega
    obtain ⟨eF, heF⟩ := PyProof.Rows.sortedHeap_at (vs := vs) (out := out) hoL
    have hn : H s1.heap.objs.size = none := I.hok.fresh hz
    have k2 : ∀ b o, s.heap.get? b = some o → (sortedHeap (s1.heap.push { cls := .type "list", data := .seq vs.toArray }) s1.heap.objs.size vs out).get? b = some o := fun b o e => by
      have e1 := k1 b o e
      have lt := Heap.lt_size e1
      exact (PyProof.Rows.sortedHeap_old (Nat.ne_of_lt lt) (Heap.lt_size (Heap.get?_push_of_some _ e1))).trans (Heap.get?_push_of_some _ e1)
    have rv : Vals ((out.toList.map strOf).map V.str) out.toList := vals_of_strs hI
    have J : Inv X pins σ (upd H s1.heap.objs.size (.lst ((out.toList.map strOf).map V.str))) { s with heap := sortedHeap (s1.heap.push { cls := .type "list", data := .seq vs.toArray }) s1.heap.objs.size vs out, gens := s1.gens, drawn := s1.drawn, toks := s1.toks } :=
      I.call (ch := []) (Un.laid k2 hz hn) (I.hok.laid k2 hz ⟨hlen, out.toList, eF, rv, heF⟩) (by rw [g1]; exact I.bare) (fun _ z => nomatch z)
    have es1 : ({ s1 with heap := sortedHeap (s1.heap.push { cls := .type "list", data := .seq vs.toArray }) s1.heap.objs.size vs out } : Shared) = { s with heap := sortedHeap (s1.heap.push { cls := .type "list", data := .seq vs.toArray }) s1.heap.objs.size vs out, gens := s1.gens, drawn := s1.drawn, toks := s1.toks } := by
      cases s1
      cases s
      cases o1
      rfl
    refine wpAny_pure ⟨_, rfl, ?_⟩
    rw [es1]
    exact ⟨.ref s1.heap.objs.size, _, J, rfl, q _ _ pl' up hn⟩
end
/-! ### the names in a sum -/
section
variable {P : Program} {w : World} {K : PySem.W.Frag} {mg : Str → Option Value} {base : Heap} {C : Addr}
def spNamesIn (K : PySem.W.Frag) (w : World) (C : Addr) : Sp := fun vs H Q _ => ∃ (p : Addr) (M : Poly) (ns : List Str), vs = [.ref p] ∧ SumAt K w C H p M ∧ (∀ y ∈ M, Of ns y.1) ∧ ns.length < 32 ∧
  ∀ (l : Addr) (xs : List Str) (H' : Hp), H' l = some (.lst (xs.map V.str)) → (∀ x, x ∈ xs ↔ ∃ y ∈ M, ∃ e ∈ y.1, e.1 = x) → xs.length < 32 → Same H H' → H l = none → Q (.ref l) H'
theorem ok_names_in {f : Addr} {fd : FuncData} (T : Txt K mg C) (FF : DefAt K mg "names_in" "names_in" s_names_in ["given"] f fd) : FnOk P w K mg base CX0 1 f fd ["given"] (spNamesIn K w C) := by
  refine FF.F.ok sc_names_in (fun vs H Q E h => ?_) (fun cdv A outer s H vs Q E hr h => ?_)
  · obtain ⟨p, M, ns, rfl, _⟩ := h
    rfl
  · obtain ⟨p, M, ns, rfl, SM, hM, hns, q⟩ := h
    obtain ⟨dx, d1, o1, L1, ep, n1, r1⟩ := id SM
    have l1 : L1.length = M.length := Paired.length r1
    refine ⟨_, (pss_cons (ps_set (i := 1) sc_names_in.nd rfl (.inl rfl) (pe_callTy0 cr_set0T (by rfl) T.m_set (by decide +kernel)))
      (pss_cons (ps_for PassesOwn.never rfl (pi_keysN (pe_fld (pv 0) rfl)) (pg_name (i := 2) sc_names_in.nd rfl (.inl rfl)) (pss_one (ps_for PassesOwn.never rfl (pi_tup (pv 2)) (pg_tup (by rfl) (pgs_cons (pg_name (i := 3) sc_names_in.nd rfl (.inl rfl)) (pgs_cons (pg_name (i := 4) sc_names_in.nd rfl (.inl rfl)) pgs_nil))) (pss_one (ps_expr (pe_saddT (pv 1) (pv 3)))))))
      (pss_one (ps_ret (pe_callB (cr_sortedT rfl) (by rfl) T.m_sorted (by decide +kernel) (pa_cons (pv 1) pa_nil)))))), ?_⟩
    refine ⟨rfl, fun D nD => ?_⟩
    have s0 : Same H (upd H D (SetT P w D [])) := same_upd nD
    have e0 : (upd H D (SetT P w D [])) D = some (SetT P w D []) := upd_same
    have few : ∀ l : List Str, l.Nodup → (∀ x, x ∈ l → ∃ y ∈ M, ∃ e ∈ y.1, e.1 = x) → l.length < 32 := fun l hl hx => by
      have z := nodup_len (m := ns) hl fun x h => by
        obtain ⟨y, hy, e, he, ex⟩ := hx x h
        rw [← ex]
        exact (hM y hy).2 e he
      omega
    refine ⟨_, rfl, p, C, dx, _, _, rfl, s0 _ _ ep, T.cl_Sum, T.n_Sum_parts, sumF_parts _, d1, o1, L1, rfl, n1.stay (.same s0) (fun o e => s0 _ _ e), for_keysN (fun i σ H2 => ∃ (v2 v3 v4 : Option V) (l : List Str), σ = [some (.ref p), some (.ref D), v2, v3, v4] ∧ H2 D = some (SetT P w D l) ∧ l.Nodup ∧ (∀ x, x ∈ l ↔ ∃ y ∈ M.take i, ∃ e ∈ y.1, e.1 = x) ∧ Else D (upd H D (SetT P w D [])) H2)
      ⟨none, none, none, [], rfl, e0, List.nodup_nil, (fun x => ⟨fun h => (nomatch h), fun ⟨y, hy, _⟩ => by rw [List.take_zero] at hy; cases hy⟩), .refl _ _⟩
      (fun i σ H2 _ ⟨_, _, _, _, _, _, _, _, z⟩ => n1.stay (.same (Else.fresh nD s0 z)) fun o e => (Else.fresh nD s0 z) _ _ e) ?_ ?_⟩
    · rintro i kk v σ H2 b hL ⟨v2, v3, v4, l, rfl, e2, nl, ml, el⟩ hb
      obtain ⟨x, r, hMi, rfl, hq⟩ := r1.at_ hL
      have memM : (kk, r) ∈ M := List.mem_of_getElem? hMi
      have tk : M.take (i + 1) = M.take i ++ [(kk, r)] := by rw [List.take_add_one, hMi]; rfl
      obtain ⟨qs, hqs, pqs⟩ := id hb
      have lq : qs.length = kk.length := Paired.length pqs
      refine ⟨_, rfl, b, rfl, ⟨_, hqs⟩, for_tup (fun j σ H3 => ∃ (v3 v4 : Option V) (l : List Str), σ = [some (.ref p), some (.ref D), some (.ref b), v3, v4] ∧ H3 D = some (SetT P w D l) ∧ l.Nodup ∧ (∀ x, x ∈ l ↔ (∃ y ∈ M.take i, ∃ e ∈ y.1, e.1 = x) ∨ ∃ e ∈ kk.take j, e.1 = x) ∧ Else D H2 H3)
        ⟨v3, v4, l, rfl, e2, nl, (fun x => (ml x).trans ⟨.inl, fun z => z.elim id fun ⟨e, he, _⟩ => by rw [List.take_zero] at he; cases he⟩), .refl _ _⟩ (fun j σ H3 _ ⟨_, _, _, _, _, _, _, z⟩ => SqT.keeps hqs (z.tups e2 True.intro)) ?_ ?_⟩
      · rintro j y σ H3 hy ⟨v3, v4, l, rfl, e3, nl, ml, el3⟩
        obtain ⟨qa, e, rfl, he, hqa⟩ := Paired.ixR pqs hy
        have mem : e ∈ kk := List.mem_of_getElem? he
        have tj : kk.take (j + 1) = kk.take j ++ [e] := by rw [List.take_add_one, he]; rfl
        have fl := few l nl fun x hx => by
          rcases (ml x).mp hx with ⟨y, hy, z⟩ | ⟨g, hg, z⟩
          · exact ⟨y, List.mem_of_mem_take hy, z⟩
          · exact ⟨_, memM, g, List.mem_of_mem_take hg, z⟩
        refine ⟨qa, _, rfl, SqT.keeps hqa (el3.tups e2 True.intro), rfl, _, [.int e.2], rfl, _, [], rfl, rfl, _, rfl, ⟨D, l, rfl, e3⟩, _, rfl, D, e.1, l, rfl, rfl, e3, Nat.lt_of_lt_of_le (Nat.succ_lt_succ fl) (by decide), ?_⟩
        refine ⟨_, _, _, rfl, upd_same, ?_, fun x => ?_, el3.trans .upd⟩
        · split
          · exact nl
          · rename_i h
            exact List.nodup_cons.mpr ⟨h, nl⟩
        · have c1 : x ∈ (if e.1 ∈ l then l else e.1 :: l) ↔ x ∈ l ∨ x = e.1 := by
            split
            · rename_i h
              exact ⟨.inl, fun z => z.elim id fun z => by rw [z]; exact h⟩
            · rw [List.mem_cons]
              exact Or.comm
          rw [c1, ml, tj]
          constructor
          · rintro ((z | ⟨g, hg, z⟩) | z)
            · exact .inl z
            · exact .inr ⟨g, List.mem_append_left _ hg, z⟩
            · exact .inr ⟨e, by simp, z.symm⟩
          · rintro (z | ⟨g, hg, z⟩)
            · exact .inl (.inl z)
            · rcases List.mem_append.mp hg with y | y
              · exact .inl (.inr ⟨g, y, z⟩)
              · rw [show g = e by simpa using y] at z
                exact .inr z.symm
      · rintro σ H3 ⟨v3, v4, l, rfl, e3, nl, ml, el3⟩
        rw [List.length_map, lq, List.take_length] at ml
        refine ⟨_, _, _, l, rfl, e3, nl, fun x => (ml x).trans ?_, el.trans el3⟩
        rw [tk]
        constructor
        · rintro (⟨y, hy, z⟩ | z)
          · exact ⟨y, List.mem_append_left _ hy, z⟩
          · exact ⟨(kk, r), by simp, z⟩
        · rintro ⟨y, hy, z⟩
          rcases List.mem_append.mp hy with g | g
          · exact .inl ⟨y, g, z⟩
          · rw [show y = (kk, r) by simpa using g] at z
            exact .inr z
    · rintro σ H2 ⟨v2, v3, v4, l, rfl, e2, nl, ml, el⟩
      rw [l1, List.take_length] at ml
      have fl := few l nl fun x hx => (ml x).mp hx
      refine ⟨_, rfl, D, l, rfl, e2, nl, Nat.lt_trans fl (by decide), fun l' r pm up nr => ?_⟩
      have sH : Same H H2 := Else.fresh nD s0 el
      refine q r l' _ upd_same (fun x => by rw [pm.mem_iff]; exact ml x) (by rw [pm.length_eq]; exact fl) (sH.trans (same_upd nr)) (sH.free nr)
end
theorem degP_ins {e : Str × Int} (he : 1 ≤ e.2) : ∀ {p : Pr}, (∀ f ∈ p, 1 ≤ f.2) → degP (insE e p) = e.2.toNat + degP p
  | [], _ => rfl
  | f :: r, h => by
    have hf := h f (by simp)
    unfold insE
    split
    · rfl
    · split
      · show (f.2 + e.2).toNat + degP r = e.2.toNat + (f.2.toNat + degP r)
        omega
      · show f.2.toNat + degP (insE e r) = e.2.toNat + (f.2.toNat + degP r)
        rw [degP_ins he fun g hg => h g (by simp [hg])]
        omega
theorem degP_join {q : Pr} (hq : Canon q) : ∀ {p : Pr}, (∀ f ∈ p, 1 ≤ f.2) → degP (joinP p q) = degP p + degP q
  | [], _ => by
    show degP q = 0 + degP q
    omega
  | e :: r, h => by
    have hr := fun f (hf : f ∈ r) => h f (by simp [hf])
    show degP (insE e (joinP r q)) = e.2.toNat + degP r + degP q
    rw [degP_ins (h e (by simp)) (hq.join hr).one, degP_join hq hr]
    omega
def Lo (g : Nat) (p : Pr) : Prop := Canon p ∧ degP p ≤ g
theorem Lo.join {g k : Nat} {a b : Pr} (ha : Lo g a) (hb : Lo k b) : Lo (g + k) (joinP a b) := ⟨hb.1.join ha.1.one, by rw [degP_join hb.1 ha.1.one]; exact Nat.add_le_add ha.2 hb.2⟩
theorem Lo.up {g k : Nat} (h : g ≤ k) {p : Pr} (a : Lo g p) : Lo k p := ⟨a.1, Nat.le_trans a.2 h⟩
theorem evalB_pow {v : Str → Int} {B : Nat} (h : ∀ x, max 1 (v x).natAbs ≤ B) : ∀ p : Pr, evalB v p ≤ B ^ degP p
  | [] => Nat.le_refl 1
  | e :: r => by
    show (max 1 (v e.1).natAbs) ^ e.2.toNat * evalB v r ≤ B ^ (e.2.toNat + degP r)
    rw [Nat.pow_add]
    exact Nat.mul_le_mul (Nat.pow_le_pow_left (h e.1) _) (evalB_pow h r)
theorem Fit.can {ns : List Str} {n D S : Nat} {M : Poly} (h : Fit (Of ns) n D S M) : AllP Canon M := fun x hx => (h.good.pr x hx).1
theorem Fit.nd {ns : List Str} {n D S : Nat} {M : Poly} (h : Fit (Of ns) n D S M) : (M.map (·.1)).Nodup := h.good.nd
def polyE : Ex → Poly
  | .num n => addM [] [] (n : Rat)
  | .name x => [([(x, 1)], 1)]
  | .add a b => sumM (polyE a) (polyE b)
  | .mul a b => mulM (polyE a) (polyE b)
def nE : Nat → Nat
  | 0 => 1
  | d + 1 => max (nE d + nE d) (nE d * nE d)
def sE : Nat → Nat
  | 0 => 1000
  | d + 1 => sE d * sE d
theorem nE_one : ∀ d, 1 ≤ nE d
  | 0 => Nat.le_refl 1
  | d + 1 => Nat.le_trans (nE_one d) (Nat.le_trans (Nat.le_add_right _ _) (Nat.le_max_left _ _))
theorem sE_two : ∀ d, 2 ≤ sE d
  | 0 => by decide
  | d + 1 => Nat.le_trans (sE_two d) (Nat.le_mul_of_pos_right _ (Nat.lt_of_lt_of_le (by decide) (sE_two d)))
theorem nE_up {d e : Nat} (h : d ≤ e) : nE d ≤ nE e := by
  induction h with
  | refl => exact Nat.le_refl _
  | step _ ih => exact Nat.le_trans ih (Nat.le_trans (Nat.le_add_right _ _) (Nat.le_max_left _ _))
theorem sE_up {d e : Nat} (h : d ≤ e) : sE d ≤ sE e := by
  induction h with
  | refl => exact Nat.le_refl _
  | step _ ih => exact Nat.le_trans ih (Nat.le_mul_of_pos_right _ (Nat.lt_of_lt_of_le (by decide) (sE_two _)))
theorem fit_ex {ns : List Str} : ∀ {t : Ex} {d : Nat}, ExOk ns d t → Fit (Of ns) (nE d) 1 (sE d) (polyE t)
  | .num n, d, h => by
    have hn := h.of_num
    exact (Fit.number n).mono (nE_one d) (Nat.le_trans (by omega : n.natAbs ≤ 1000) (sE_up (d := 0) (Nat.zero_le d)))
  | .name x, d, h => (Fit.name h.of_name).mono (nE_one d) (Nat.le_trans (by decide) (sE_two d))
  | .add a b, 0, h => False.elim h
  | .mul a b, 0, h => False.elim h
  | .add a b, d + 1, ⟨ha, hb⟩ => ((fit_ex ha).plus (fit_ex hb)).mono (Nat.le_max_left _ _) (add_le_sq (sE_two d))
  | .mul a b, d + 1, ⟨ha, hb⟩ => ((fit_ex ha).mul (fit_ex hb) fun _ _ => Of.join).mono (Nat.le_max_right _ _) (Nat.le_refl _)
theorem sE_big {d : Nat} (h : d ≤ 5) : sE d * sE d < big := Nat.lt_of_le_of_lt (Nat.mul_le_mul (sE_up h) (sE_up h)) (by decide +kernel)
theorem nE_big {d : Nat} (h : d ≤ 4) : nE d * nE d < sizeLine ∧ nE d + nE d < sizeLine := ⟨Nat.lt_of_le_of_lt (Nat.mul_le_mul (nE_up h) (nE_up h)) (by decide +kernel), Nat.lt_of_le_of_lt (Nat.add_le_add (nE_up h) (nE_up h)) (by decide +kernel)⟩
theorem lo_ex {ns : List Str} : ∀ {t : Ex} {d : Nat}, ExOk ns d t → AllP (Lo (2 ^ d)) (polyE t)
  | .num n, d, _ => AllP.nil.mem_add ⟨.nil, Nat.zero_le _⟩ _
  | .name x, d, _ => AllP.single ⟨canon_one (e := (x, 1)) (Int.le_refl 1), Nat.le_trans (show degP [(x, (1 : Int))] ≤ 1 from Nat.le_refl 1) (Nat.one_le_pow _ _ (by decide))⟩
  | .add a b, 0, h => False.elim h
  | .mul a b, 0, h => False.elim h
  | .add a b, d + 1, ⟨ha, hb⟩ => by
    have up : 2 ^ d ≤ 2 ^ (d + 1) := Nat.pow_le_pow_right (by decide) (Nat.le_succ d)
    exact AllP.sum _ ((lo_ex ha).imp fun _ => Lo.up up) ((lo_ex hb).imp fun _ => Lo.up up)
  | .mul a b, d + 1, ⟨ha, hb⟩ => by
    have e : 2 ^ d + 2 ^ d = 2 ^ (d + 1) := by rw [Nat.pow_succ]; omega
    exact (lo_ex ha).mul (lo_ex hb) fun _ _ x y => e ▸ x.join y
def valE (v : Str → Int) : Ex → Int
  | .num n => n
  | .name x => v x
  | .add a b => valE v a + valE v b
  | .mul a b => valE v a * valE v b
theorem ev_ex (v : Str → Int) {ns : List Str} : ∀ {t : Ex} {d : Nat}, ExOk ns d t → evM v (polyE t) = (valE v t : Rat)
  | .num n, d, _ => by
    show lin _ (addM [] [] (n : Rat)) = _
    rw [numberM]
    show (n : Rat) * ((1 : Int) : Rat) = (n : Rat)
    have : ((1 : Int) : Rat) = 1 := rfl
    rw [this, Rat.mul_one]
  | .name x, d, _ => by
    show lin _ [([(x, 1)], 1)] = _
    rw [lin_cons, lin_nil]
    show (1 : Rat) * ((v x ^ (1 : Int).toNat * 1 : Int) : Rat) + 0 = (v x : Rat)
    have : v x ^ (1 : Int).toNat * 1 = v x := by
      rw [Int.mul_one]
      exact Int.pow_succ _ 0 |>.trans (by rw [Int.pow_zero, Int.one_mul])
    rw [this]
    grind
  | .add a b, 0, h => False.elim h
  | .mul a b, 0, h => False.elim h
  | .add a b, d + 1, ⟨ha, hb⟩ => by
    show lin _ (sumM (polyE a) (polyE b)) = ((valE v a + valE v b : Int) : Rat)
    rw [lin_sumM _ _ (fit_ex ha).nd, Rat.intCast_add, ← ev_ex v ha, ← ev_ex v hb]
  | .mul a b, d + 1, ⟨ha, hb⟩ => by
    show evM _ (mulM (polyE a) (polyE b)) = ((valE v a * valE v b : Int) : Rat)
    rw [evM_mul _ (fit_ex ha).can (fit_ex hb).can, Rat.intCast_mul, ← ev_ex v ha, ← ev_ex v hb]
/-- values within: a number squared for each depth -/
def vB (V : Nat) : Nat → Nat
  | 0 => V
  | d + 1 => vB V d * vB V d
theorem vB_two {V : Nat} (h : 2 ≤ V) : ∀ d, 2 ≤ vB V d
  | 0 => h
  | d + 1 => Nat.le_trans (vB_two h d) (Nat.le_mul_of_pos_right _ (Nat.lt_of_lt_of_le (by decide) (vB_two h d)))
theorem vB_up {V d e : Nat} (hV : 2 ≤ V) (h : d ≤ e) : vB V d ≤ vB V e := by
  induction h with
  | refl => exact Nat.le_refl _
  | step _ ih => exact Nat.le_trans ih (Nat.le_mul_of_pos_right _ (Nat.lt_of_lt_of_le (by decide) (vB_two hV _)))
theorem valE_le {ns : List Str} {v : Str → Int} {V : Nat} (hV : 1000 ≤ V) (hv : ∀ x ∈ ns, (v x).natAbs ≤ V) : ∀ {t : Ex} {d : Nat}, ExOk ns d t → (valE v t).natAbs ≤ vB V d
  | .num n, d, h => by
    have hn := h.of_num
    exact Nat.le_trans (show n.natAbs ≤ V by omega) (vB_up (d := 0) (by omega) (Nat.zero_le d))
  | .name x, d, h => Nat.le_trans (hv x h.of_name) (vB_up (d := 0) (by omega) (Nat.zero_le d))
  | .add a b, 0, h => False.elim h
  | .mul a b, 0, h => False.elim h
  | .add a b, d + 1, ⟨ha, hb⟩ => by
    have fa := valE_le hV hv ha
    have fb := valE_le hV hv hb
    have two := add_le_sq (vB_two (V := V) (by omega) d)
    show (valE v a + valE v b).natAbs ≤ vB V d * vB V d
    omega
  | .mul a b, d + 1, ⟨ha, hb⟩ => by
    show (valE v a * valE v b).natAbs ≤ vB V d * vB V d
    rw [Int.natAbs_mul]
    exact Nat.mul_le_mul (valE_le hV hv ha) (valE_le hV hv hb)
section
variable {P : Program} {w : World} {K : PySem.W.Frag} {mg : Str → Option Value} {base : Heap} {C : Addr}
def spTold (K : PySem.W.Frag) (w : World) (C : Addr) : Nat → Sp
  | 0 => fun _ _ _ _ => False
  | d + 1 => fun vs H Q _ => ∃ (p : Addr) (t : Ex) (ns : List Str), vs = [.ref p] ∧ ExAt K H p t ∧ ExOk ns d t ∧ d ≤ 5 ∧ ns.length < 32 ∧ ∀ x H', SumAt K w C H' x (polyE t) → Same H H' → H x = none → Q (.ref x) H'
theorem ok_sum_told {f : Addr} {fd : FuncData} (T : Txt K mg C) (F : DefAt K mg "sum_told" "sum_told" s_sum_told ["expression"] f fd) : ∀ d, FnOk P w K mg base CX0 (d + 6) f fd ["expression"] (spTold K w C d)
  | 0 => ⟨fun _ _ _ _ h => False.elim h, fun _ _ _ _ _ _ _ _ _ _ _ _ _ h => False.elim h⟩
  | d + 1 => by
    have G_sum_told := ok_sum_told T F d
    have Dsum_told := F
    have D_sum_told := F
    obtain ⟨f1, fd1, D_sum_of_number⟩ := T.d_sum_of_number
    have G_sum_of_number : FnOk P w K mg base CX0 4 f1 fd1 ["n"] (spNumber K w C) := ok_sum_of_number T D_sum_of_number
    obtain ⟨f2, fd2, D_sum_of_name⟩ := T.d_sum_of_name
    have G_sum_of_name : FnOk P w K mg base CX0 3 f2 fd2 ["x"] (spName K w C) := ok_sum_of_name T D_sum_of_name
    obtain ⟨f3, fd3, D_added⟩ := T.d_added
    have G_added : FnOk P w K mg base CX0 5 f3 fd3 ["one", "other"] (spAdded K w C) := ok_added T D_added
    obtain ⟨f5, fd5, D_timed⟩ := T.d_timed
    have G_timed : FnOk P w K mg base CX0 4 f5 fd5 ["one", "other"] (spTimed K w C) := ok_timed T D_timed
    refine F.F.ok sc_sum_told (fun vs H Q E h => ?_) (fun cdv A outer s H vs Q E hr h => ?_)
    · obtain ⟨p, t, ns, rfl, _⟩ := h
      rfl
    · obtain ⟨p, t, ns, rfl, tr, ok, hd, hns, q⟩ := h
      refine ⟨_, (pss_cons (ps_set (i := 1) sc_sum_told.nd rfl (.inl rfl) (pe_ix ix_tup (pv 0) pe_int (fun _ _ => rfl)))
      (pss_cons (ps_if (pt_cmpR op_eq (pv 1) pe_str (nomark _)) (pss_one (ps_ret (pe_call G_sum_of_number (hr.mono (by omega)) (by rfl) D_sum_of_number.g D_sum_of_number.F.kp D_sum_of_number.b .nil pass0 (pa_cons (pe_ix ix_tup (pv 0) pe_int (fun _ _ => rfl)) pa_nil)))) pss_nil)
      (pss_cons (ps_if (pt_cmpR op_eq (pv 1) pe_str (nomark _)) (pss_one (ps_ret (pe_call G_sum_of_name (hr.mono (by omega)) (by rfl) D_sum_of_name.g D_sum_of_name.F.kp D_sum_of_name.b .nil pass0 (pa_cons (pe_ix ix_tup (pv 0) pe_int (fun _ _ => rfl)) pa_nil)))) pss_nil)
      (pss_cons (ps_set (i := 2) sc_sum_told.nd rfl (.inl rfl) (pe_call G_sum_told (hr.mono (by omega)) (by rfl) D_sum_told.g D_sum_told.F.kp D_sum_told.b .nil pass0 (pa_cons (pe_ix ix_tup (pv 0) pe_int (fun _ _ => rfl)) pa_nil)))
      (pss_cons (ps_set (i := 3) sc_sum_told.nd rfl (.inl rfl) (pe_call G_sum_told (hr.mono (by omega)) (by rfl) D_sum_told.g D_sum_told.F.kp D_sum_told.b .nil pass0 (pa_cons (pe_ix ix_tup (pv 0) pe_int (fun _ _ => rfl)) pa_nil)))
      (pss_cons (ps_if (pt_cmpR op_eq (pv 1) pe_str (nomark _)) (pss_one (ps_ret (pe_call G_added (hr.mono (by omega)) (by rfl) D_added.g D_added.F.kp D_added.b .nil pass0 (pa_cons (pv 2) (pa_cons (pv 3) pa_nil))))) pss_nil)
      (pss_one (ps_ret (pe_call G_timed (hr.mono (by omega)) (by rfl) D_timed.g D_timed.F.kp D_timed.b .nil pass0 (pa_cons (pv 2) (pa_cons (pv 3) pa_nil))))))))))), ?_⟩
      cases t with
      | num n =>
        have hn := ok.of_num
        refine ⟨_, rfl, p, _, _, _, rfl, rfl, tr, atI_nat (j := 0) rfl, ?_⟩
        refine ⟨_, rfl, rfl, _, rfl, ite2 (fun e => ?_) (fun e => absurd (by decide) e)⟩
        refine ⟨_, rfl, p, _, _, _, rfl, rfl, tr, atI_nat (j := 1) rfl, n, rfl, Nat.lt_of_le_of_lt (by omega : n.natAbs ≤ 1000) (by decide +kernel), q⟩
      | name x =>
        refine ⟨_, rfl, p, _, _, _, rfl, rfl, tr, atI_nat (j := 0) rfl, ?_⟩
        refine ⟨_, rfl, rfl, _, rfl, ite2 (fun e => absurd e (by decide)) (fun e => ?_)⟩
        refine ⟨_, rfl, rfl, _, rfl, ite2 (fun e => ?_) (fun e => absurd (by decide) e)⟩
        exact ⟨_, rfl, p, _, _, _, rfl, rfl, tr, atI_nat (j := 1) rfl, x, rfl, q⟩
      | add a b =>
        cases d with
        | zero => exact False.elim ok
        | succ d =>
          obtain ⟨pa, pb, tp, ta, tb⟩ := tr
          obtain ⟨oa, ob⟩ := ok
          have fa := fit_ex oa
          have fb := fit_ex ob
          refine ⟨_, rfl, p, _, _, _, rfl, rfl, tp, atI_nat (j := 0) rfl, ?_⟩
          refine ⟨_, rfl, rfl, _, rfl, ite2 (fun e => absurd e (by decide)) (fun e => ?_)⟩
          refine ⟨_, rfl, rfl, _, rfl, ite2 (fun e => absurd e (by decide)) (fun e => ?_)⟩
          refine ⟨_, rfl, p, _, _, _, rfl, rfl, tp, atI_nat (j := 1) rfl, pa, a, ns, rfl, ta, oa, by omega, hns, fun x1 H1 S1 s1 nx1 => ?_⟩
          refine ⟨_, rfl, p, _, _, _, rfl, rfl, SqT.keeps tp (TupsStay.same s1), atI_nat (j := 2) rfl, pb, b, ns, rfl, tb.stay (TupsStay.same s1), ob, by omega, hns, fun x2 H2 S2 s2 nx2 => ?_⟩
          have s12 := s1.trans s2
          have S1' := S1.same s2
          have sb := sE_big (d := d) (by omega)
          have nb := nE_big (d := d) (by omega)
          have s2' := add_le_sq (sE_two d)
          obtain ⟨nb, nb2⟩ := nb
          have fin : ∀ x H', SumAt K w C H' x (polyE (.add a b)) → Same H2 H' → H2 x = none → Q (.ref x) H' := fun x H' S3 s3 nx => q x H' S3 (s12.trans s3) (s12.free nx)
          refine ⟨_, rfl, rfl, _, rfl, ite2 (fun e => ?_) (fun e => absurd (by decide) e)⟩
          exact ⟨_, rfl, _, rfl, x1, x2, _, _, _, _, _, 1, _, _, rfl, ⟨S1', S2, fa, fb, by decide, by decide +kernel⟩, by omega, by omega, fin⟩
      | mul a b =>
        cases d with
        | zero => exact False.elim ok
        | succ d =>
          obtain ⟨pa, pb, tp, ta, tb⟩ := tr
          obtain ⟨oa, ob⟩ := ok
          have fa := fit_ex oa
          have fb := fit_ex ob
          refine ⟨_, rfl, p, _, _, _, rfl, rfl, tp, atI_nat (j := 0) rfl, ?_⟩
          refine ⟨_, rfl, rfl, _, rfl, ite2 (fun e => absurd e (by decide)) (fun e => ?_)⟩
          refine ⟨_, rfl, rfl, _, rfl, ite2 (fun e => absurd e (by decide)) (fun e => ?_)⟩
          refine ⟨_, rfl, p, _, _, _, rfl, rfl, tp, atI_nat (j := 1) rfl, pa, a, ns, rfl, ta, oa, by omega, hns, fun x1 H1 S1 s1 nx1 => ?_⟩
          refine ⟨_, rfl, p, _, _, _, rfl, rfl, SqT.keeps tp (TupsStay.same s1), atI_nat (j := 2) rfl, pb, b, ns, rfl, tb.stay (TupsStay.same s1), ob, by omega, hns, fun x2 H2 S2 s2 nx2 => ?_⟩
          have s12 := s1.trans s2
          have S1' := S1.same s2
          have sb := sE_big (d := d) (by omega)
          have nb := nE_big (d := d) (by omega)
          have s2' := add_le_sq (sE_two d)
          obtain ⟨nb, nb2⟩ := nb
          have fin : ∀ x H', SumAt K w C H' x (polyE (.mul a b)) → Same H2 H' → H2 x = none → Q (.ref x) H' := fun x H' S3 s3 nx => q x H' S3 (s12.trans s3) (s12.free nx)
          refine ⟨_, rfl, rfl, _, rfl, ite2 (fun e => absurd e (by decide)) (fun e => ?_)⟩
          exact ⟨_, rfl, _, rfl, x1, x2, _, _, _, _, _, 1, 1, _, _, rfl, S1', S2, fa, fb, by decide, by decide, by decide +kernel, by omega, by omega, sb, nb, fun _ _ => Of.join, fun a ha => ⟨ha.1, Nat.lt_of_le_of_lt ha.len hns⟩, fin⟩
end
/-! ### all names of a program -/
def namesE : Ex → List Str
  | .num _ => []
  | .name x => [x]
  | .add a b => namesE a ++ namesE b
  | .mul a b => namesE a ++ namesE b
def namesR : Rw → List Str
  | .nil => []
  | .set x e r => x :: (namesE e ++ namesR r)
  | .say e r => namesE e ++ namesR r
  | .lap x m b r => x :: (namesE m ++ (namesR b ++ namesR r))
theorem namesE_len {ns : List Str} : ∀ {t : Ex} {d : Nat}, ExOk ns d t → (namesE t).length ≤ 2 ^ d
  | .num _, d, _ => Nat.zero_le _
  | .name _, d, _ => Nat.one_le_two_pow
  | .add a b, 0, h => False.elim h
  | .mul a b, 0, h => False.elim h
  | .add a b, d + 1, ⟨ha, hb⟩ => by
    have := namesE_len ha
    have := namesE_len hb
    show (namesE a ++ namesE b).length ≤ _
    rw [List.length_append, Nat.pow_succ]
    omega
  | .mul a b, d + 1, ⟨ha, hb⟩ => by
    have := namesE_len ha
    have := namesE_len hb
    show (namesE a ++ namesE b).length ≤ _
    rw [List.length_append, Nat.pow_succ]
    omega
theorem namesE_in {ns : List Str} : ∀ {t : Ex} {d : Nat}, ExOk ns d t → ∀ x ∈ namesE t, x ∈ ns
  | .num _, d, _, x, h => nomatch h
  | .name y, d, k, x, h => by rw [show x = y by simpa [namesE] using h]; exact k.of_name
  | .add a b, 0, h, _, _ => False.elim h
  | .mul a b, 0, h, _, _ => False.elim h
  | .add a b, d + 1, ⟨ha, hb⟩, x, h => (List.mem_append.mp h).elim (namesE_in ha x) (namesE_in hb x)
  | .mul a b, d + 1, ⟨ha, hb⟩, x, h => (List.mem_append.mp h).elim (namesE_in ha x) (namesE_in hb x)
def rowN : Nat → Nat
  | 0 => 33
  | d + 1 => 33 + 8 * rowN d
theorem rowN_pos : ∀ d, 33 ≤ rowN d
  | 0 => Nat.le_refl _
  | d + 1 => Nat.le_add_right _ _
theorem rowN_up : ∀ d, rowN d ≤ rowN (d + 1)
  | d => by show rowN d ≤ 33 + 8 * rowN d; omega
theorem namesR_len {ns : List Str} : ∀ {r : Rw} {d : Nat}, RwOk ns r d → (namesR r).length ≤ lenR r * rowN d
  | .nil, d, _ => Nat.zero_le _
  | .set x e r, d, ⟨_, b, c⟩ => by
    have h1 := namesE_len b
    have h2 := namesR_len c
    have h3 := rowN_pos d
    show (x :: (namesE e ++ namesR r)).length ≤ (lenR r + 1) * rowN d
    rw [List.length_cons, List.length_append, Nat.succ_mul]
    omega
  | .say e r, d, ⟨b, c⟩ => by
    have h1 := namesE_len b
    have h2 := namesR_len c
    have h3 := rowN_pos d
    show (namesE e ++ namesR r).length ≤ (lenR r + 1) * rowN d
    rw [List.length_append, Nat.succ_mul]
    omega
  | .lap x m b r, 0, ⟨_, _, k, _⟩ => absurd k (by decide)
  | .lap x m b r, d + 1, ⟨_, o, _, l8, okb, c⟩ => by
    have h1 := namesE_len o
    have h2 := namesR_len c
    have h4 := namesR_len (d := d) okb
    have h5 : lenR b * rowN d ≤ 8 * rowN d := Nat.mul_le_mul_right _ l8
    show (x :: (namesE m ++ (namesR b ++ namesR r))).length ≤ (lenR r + 1) * (33 + 8 * rowN d)
    have h2 : (namesR r).length ≤ lenR r * (33 + 8 * rowN d) := h2
    rw [List.length_cons, List.length_append, List.length_append, Nat.succ_mul]
    omega
theorem namesR_in {ns : List Str} : ∀ {r : Rw} {d : Nat}, RwOk ns r d → ∀ x ∈ namesR r, x ∈ ns
  | .nil, d, _, x, h => nomatch h
  | .set y e r, d, ⟨a, b, c⟩, x, h => (List.mem_cons.mp h).elim (fun z => by rw [z]; exact a) fun z => (List.mem_append.mp z).elim (namesE_in b x) (namesR_in c x)
  | .say e r, d, ⟨b, c⟩, x, h => (List.mem_append.mp h).elim (namesE_in b x) (namesR_in c x)
  | .lap y m b r, d, ⟨a, o, _, _, okb, c⟩, x, h => (List.mem_cons.mp h).elim (fun z => by rw [z]; exact a) fun z => (List.mem_append.mp z).elim (namesE_in o x) fun z => (List.mem_append.mp z).elim (namesR_in okb x) (namesR_in c x)
section
variable {P : Program} {w : World} {K : PySem.W.Frag} {mg : Str → Option Value} {base : Heap} {C : Addr}
theorem tyT {K : PySem.W.Frag} {H : Hp} {p : Addr} {xs : List V} (h : SqT K H p xs) : TyX K H (.ref p) (.type "tuple") := by
  rcases h with (h | ⟨o, h⟩) | ⟨o, _, _, h, c, _⟩
  · exact .base (.tup h)
  · exact .fTuple h
  · exact .kTuple h c
/-- a new list of the names L is given back -/
def GivesL (H : Hp) (Q : VK) (L : List Str) : Prop := ∀ q H', H' q = some (.lst (L.map V.str)) → Same H H' → H q = none → Q (.ref q) H'
def PartIs (K : PySem.W.Frag) (H : Hp) (ns : List Str) (d : Nat) (v : V) (A : List Str) : Prop :=
  (∃ x, v = .str x ∧ A = [x]) ∨ (∃ (p : Addr) (t : Ex), v = .ref p ∧ ExAt K H p t ∧ ExOk ns 5 t ∧ A = namesE t) ∨ (∃ (p pt : Addr) (b : Rw), v = .ref p ∧ SqT K H p [.str "row", .ref pt] ∧ 1 ≤ d ∧ RwAt K H p b ∧ RwOk ns b (d - 1) ∧ lenR b ≤ 8 ∧ A = namesR b)
theorem PartIs.stay {H H' : Hp} {ns : List Str} {d : Nat} {v : V} {A : List Str} (h : PartIs K H ns d v A) (s : TupsStay H H') : PartIs K H' ns d v A := by
  rcases h with h | ⟨p, t, a, b, c⟩ | ⟨p, pt, r, a, b, c, e, f⟩
  · exact .inl h
  · exact .inr (.inl ⟨p, t, a, b.stay s, c⟩)
  · exact .inr (.inr ⟨p, pt, r, a, SqT.keeps b s, c, e.stay s, f⟩)
def Parts (K : PySem.W.Frag) (H : Hp) (ns : List Str) (d : Nat) : List V → List Str → Prop
  | [], L => L = []
  | v :: r, L => ∃ A B, L = A ++ B ∧ PartIs K H ns d v A ∧ Parts K H ns d r B
theorem Parts.stay {H H' : Hp} {ns : List Str} {d : Nat} (s : TupsStay H H') : ∀ {vs : List V} {A : List Str}, Parts K H ns d vs A → Parts K H' ns d vs A
  | [], _, h => h
  | _ :: _, _, ⟨A, B, e, a, b⟩ => ⟨A, B, e, a.stay s, Parts.stay s b⟩
theorem sts_step {H : Hp} {ns : List Str} {d : Nat} {q : Addr} {t : List Addr} : ∀ {r : Rw}, StsAt K H r (q :: t) → RwOk ns r d → ∃ (x : Str) (items : List V) (B : List Str) (r2 : Rw), SqT K H q (.str x :: items) ∧ Parts K H ns d items B ∧ namesR r = B ++ namesR r2 ∧ StsAt K H r2 t ∧ RwOk ns r2 d
  | .nil, h, _ => nomatch h
  | .set x e r, ⟨q1, t1, pe, e1, a, b, c⟩, ⟨o1, o2, o3⟩ => by
    obtain ⟨z1, z2⟩ := List.cons.inj e1
    subst z1 z2
    exact ⟨_, _, [x] ++ (namesE e ++ []), r, a, ⟨_, _, rfl, .inl ⟨x, rfl, rfl⟩, _, _, rfl, .inr (.inl ⟨pe, e, rfl, b, o2, rfl⟩), rfl⟩, by rw [List.append_nil]; rfl, c, o3⟩
  | .say e r, ⟨q1, t1, pe, e1, a, b, c⟩, ⟨o2, o3⟩ => by
    obtain ⟨z1, z2⟩ := List.cons.inj e1
    subst z1 z2
    exact ⟨_, _, namesE e ++ [], r, a, ⟨_, _, rfl, .inr (.inl ⟨pe, e, rfl, b, o2, rfl⟩), rfl⟩, by rw [List.append_nil]; rfl, c, o3⟩
  | .lap x m b r, ⟨q1, t1, pm, pb, pt, qb, e1, a, am, a1, a2, ab, c⟩, ⟨o1, o2, o3, o4, o5, o6⟩ => by
    obtain ⟨z1, z2⟩ := List.cons.inj e1
    subst z1 z2
    exact ⟨_, _, [x] ++ (namesE m ++ (namesR b ++ [])), r, a, ⟨_, _, rfl, .inl ⟨x, rfl, rfl⟩, _, _, rfl, .inr (.inl ⟨pm, m, rfl, am, o2, rfl⟩), _, _, rfl, .inr (.inr ⟨pb, pt, b, rfl, a1, o3, ⟨pt, qb, a1, a2, ab⟩, o5, o4, rfl⟩), rfl⟩, by rw [List.append_nil]; show _ = [x] ++ (namesE m ++ namesR b) ++ namesR r; rw [List.append_assoc, List.append_assoc]; rfl, c, o6⟩
theorem rowN_le {d : Nat} (h : d ≤ 3) : rowN d ≤ 19305 := by
  have : d = 0 ∨ d = 1 ∨ d = 2 ∨ d = 3 := by omega
  rcases this with h | h | h | h <;> subst h <;> decide
theorem sIx1 (v : V) (items : List V) : HT.sIx (v :: items).length 0 (some 1) = 1 := by
  have := HT.sIx_nat (v :: items).length 0 1
  rw [show ((1 : Nat) : Int) = 1 from rfl] at this
  rw [this, List.length_cons]
  omega
theorem cut1 (v : V) (items : List V) : cutV (v :: items) (some 1) none = items := by
  unfold cutV
  rw [sIx1, HT.sIx_none]
  show items.take (items.length + 1 - 1) = items
  rw [Nat.add_sub_cancel, List.take_length]
end
/-! ### set(xs) of a list of texts -/
/-- what the set has got from the first i items -/
structure GotS (ks : List Str) (i : Nat) (l : List Str) : Prop where
  sub : ∀ x ∈ l, x ∈ ks.take i
  all : ∀ x ∈ ks.take i, x ∈ l
  nd : l.Nodup
theorem GotS.zero (ks : List Str) : GotS ks 0 [] := ⟨(fun _ h => nomatch h), (fun _ h => by rw [List.take_zero] at h; cases h), List.nodup_nil⟩
theorem take_nextS {α : Type} {l : List α} {i : Nat} {x : α} (h : l[i]? = some x) : l.take (i + 1) = l.take i ++ [x] := by
  rw [List.take_succ, h] <;> rfl
theorem GotS.step {ks l : List Str} {i : Nat} {x : Str} (g : GotS ks i l) (h : ks[i]? = some x) : GotS ks (i + 1) (if x ∈ l then l else x :: l) := by
  by_cases c : x ∈ l
  · rw [if_pos c]
    refine ⟨fun y hy => ?_, fun y hy => ?_, g.nd⟩
    · rw [take_nextS h]
      exact List.mem_append_left _ (g.sub y hy)
    · rw [take_nextS h] at hy
      rcases List.mem_append.mp hy with z | z
      · exact g.all y z
      · rw [List.mem_singleton.mp z]; exact c
  · rw [if_neg c]
    refine ⟨fun y hy => ?_, fun y hy => ?_, List.nodup_cons.mpr ⟨c, g.nd⟩⟩
    · rw [take_nextS h]
      rcases List.mem_cons.mp hy with e | z
      · rw [e]; exact List.mem_append_right _ (List.mem_singleton.mpr rfl)
      · exact List.mem_append_left _ (g.sub y z)
    · rw [take_nextS h] at hy
      rcases List.mem_append.mp hy with z | z
      · exact List.mem_cons_of_mem _ (g.all y z)
      · rw [List.mem_singleton.mp z]; exact List.mem_cons_self
section
variable {P : Program} {w : World} {A : Around} {E : Value → Shared → Prop} {s : Shared}
theorem set_add_txt {a : Addr} {l : List Str} {k : Str} {u : Tok} {Q : Bool → Shared → Prop} (R : TxtSet P w s.heap a l) (hb : l.length + 1 < scanBound)
    (hQ : ∀ b h', Heap.SameBut a s.heap h' → TxtSet P w h' a (if k ∈ l then l else k :: l) → Q b { s with heap := h', toks := s.toks + 1 }) : wpAny (model P w) A (setAdd a (.str k u)) Q E s := by
  unfold setAdd
  refine wpAny_holding ?_
  refine wpAny_bind ((strKind P w).pyHash (PySem.Froz.is_str k u) ?_)
  by_cases hk : k ∈ l
  · refine addT_old (s := { s with toks := s.toks + 1 }) R hk (by omega) ?_
    refine hQ _ s.heap (Heap.SameBut.refl a s.heap) ?_
    rw [if_pos hk]
    exact R
  · obtain ⟨D, ho, F, ri, le⟩ := R
    refine PySem.Froz.add_x (s := { s with toks := s.toks + 1 }) (T := "set") ho F hk hb ?_
    refine hQ _ _ (Heap.SameBut.update ..) ?_
    rw [if_neg hk]
    have m := addTx_more (h := hashStr w k) (v := .str k u) ri
    exact ⟨_, PySem.Froz.get_upd _ ho rfl, PySem.Froz.add_ok u F, m.1, le.imp id fun z => by rw [m.2]; exact z⟩
theorem set_update_txts {I : Addr} {fp wr : List Addr} {G : Array GenState → Array GenState → Prop} {n : Nat} {Pv : Nat → Value → Prop} {St : Nat → Shared → Prop} {R : Result → Shared → Prop}
    (W : WalksS P w A.in1 I fp wr G n Pv St) (S : Addr) (hSf : S ∉ fp) (ks ns : List Str) (hn : n = ks.length) (hns : ∀ x ∈ ks, x ∈ ns) (hfew : ns.length + 1 < scanBound) (hval : ∀ (i : Nat) (v : Value), Pv i v → ∃ (x : Str) (u : Tok), ks[i]? = some x ∧ v = Value.str x u)
    (h0 : Heap) (hS0 : h0.get? S = none) (hw0 : ∀ b ∈ wr, h0.get? b = none) :
    ∀ (k i : Nat) (s : Shared), n - i = k → i ≤ n → St i s → (∀ b o, h0.get? b = some o → s.heap.get? b = some o) → (∃ l, TxtSet P w s.heap S l ∧ GotS ks i l) →
      (∀ s' l, Moved (S :: wr) G s s' → TxtSet P w s'.heap S l → GotS ks n l → (∀ b o, h0.get? b = some o → s'.heap.get? b = some o) → R (.ok (.ret .none)) s') →
      codeAny (model P w) A (.builtin "set.update.loop" ⟨[.ref S, .ref I], []⟩) R s := by
  have hSw : S ∉ wr := fun h => hSf (W.sub _ h)
  have hsub : ∀ b ∈ wr, b ∈ S :: wr := fun b hb => List.mem_cons_of_mem _ hb
  have keepM : ∀ {s s' : Shared}, Moved wr G s s' → (∀ b o, h0.get? b = some o → s.heap.get? b = some o) → ∀ b o, h0.get? b = some o → s'.heap.get? b = some o := fun hm hkp b o e =>
    hm.heap b o (fun hb => by rw [hw0 b hb] at e; cases e) (hkp b o e)
  have keepT : ∀ {h h' : Heap} {l : List Str}, TxtSet P w h S l → (∀ o, h.get? S = some o → h'.get? S = some o) → TxtSet P w h' S l := fun R k => by
    obtain ⟨D, e, r⟩ := R
    exact ⟨D, k _ e, r⟩
  intro k
  induction k with
  | zero =>
    intro i s hk' hi hst hkp ⟨l, hS, g⟩ hR
    have hin : i = n := by omega
    subst hin
    refine codeAny_builtin F.entry_set_update_loop ?_
    rw [Around.under_plainId F.plain_set_update_loop _]
    show wpAny _ A.in1 (pyNext (.ref I) >>= _) _ _ s
    refine wpAny_bind (W.done s _ _ hst fun s' hm => ?_)
    show wpAny _ A.in1 (ret Value.none) _ _ s'
    have hkp' := keepM hm hkp
    exact wpAny_pure (hR s' l (hm.mono hsub) (keepT hS fun o e => hm.heap S o hSw e) g hkp')
  | succ k ih =>
    intro i s hk' hi hst hkp ⟨l, hS, g⟩ hR
    have hlt : i < n := by omega
    refine codeAny_builtin F.entry_set_update_loop ?_
    rw [Around.under_plainId F.plain_set_update_loop _]
    show wpAny _ A.in1 (pyNext (.ref I) >>= _) _ _ s
    refine wpAny_bind (W.item i s _ _ hlt hst fun v s' hP hst' hm => ?_)
    obtain ⟨x, u, hx, rfl⟩ := hval i v hP
    have hkp' := keepM hm hkp
    have hS' : TxtSet P w s'.heap S l := keepT hS fun o e => hm.heap S o hSw e
    show wpAny _ A.in1 (holding [Value.str x u] (setAdd S (.str x u)) >>= _) _ _ s'
    refine wpAny_bind (wpAny_holding ?_)
    have len := nodup_len (m := ns) g.nd fun y hy => hns y (List.mem_of_mem_take (g.sub y hy))
    refine set_add_txt hS' (by omega) fun b h' hsb hS2 => ?_
    have g' := g.step hx
    have hkp2 : ∀ b o, h0.get? b = some o → h'.get? b = some o := fun b o e => (hsb.2 b (fun z => by rw [z, hS0] at e; cases e)).trans (hkp' b o e)
    refine wpAny_pure ⟨plainId_quiet F.plain_set_update_loop _, ih (i + 1) _ (by omega) hlt (W.frame _ s' _ _ hst' (Nat.le_add_right _ _) fun b hb o e => ?_) hkp2 ⟨_, hS2, g'⟩ fun s'' l2 hm'' hS'' g'' hkp'' => ?_⟩
    · rw [hsb.2 b (fun h : b = S => hSf (by rw [← h]; exact hb))]; exact e
    · refine hR s'' l2 (Moved.trans W.gtrans ((hm.mono hsub).then_heap (Nat.le_add_right _ _) fun b o hb e => ?_) hm'') hS'' g'' hkp''
      rw [hsb.2 b (fun h : b = S => hb (by rw [h]; exact List.mem_cons_self))]; exact e
theorem setT_fresh {h : Heap} {a : Addr} (ho : h.get? a = some { cls := .type "set", dict := none, data := .set #[] 0 (.fresh 0 0 (!w.params.followText "set-order")) }) : TxtSet P w h a [] :=
  ⟨(#[], 0, .fresh 0 0 (!w.params.followText "set-order")), ho, PySem.Froz.TxOk.nil rfl, List.Pairwise.nil, by
      show _ ∨ (!w.params.followText "set-order") = true
      cases w.params.followText "set-order"
      · exact .inr rfl
      · exact .inl rfl⟩
set_option maxHeartbeats 3200000 in
theorem call_set_txts {l : Addr} {items : Array Value} (ks ns : List Str) {Q : Value → Shared → Prop} (hh : A.handled = none) (hl : s.heap.IsList l items) (hit : ∀ (i : Nat) (v : Value), items[i]? = some v → ∃ (x : Str) (u : Tok), ks[i]? = some x ∧ v = Value.str x u) (hisz : items.size = ks.length)
    (hns : ∀ x ∈ ks, x ∈ ns) (hfew : ns.length + 1 < scanBound)
    (h : ∀ (h' : Heap) (tk : Nat) L, TxtSet P w h' s.heap.objs.size L → GotS ks ks.length L → (∀ b o, s.heap.get? b = some o → h'.get? b = some o) → Q (.ref s.heap.objs.size) { s with heap := h', toks := tk }) :
    wpAny (model P w) A (call (.type "set") [.ref l]) Q E s := by
  obtain ⟨c, tl, hmro⟩ := F.called_set.mro
  have hmade := F.called_set.made
  have hsub := F.called_set.sub
  refine wpAny_call (codeAny_of_tree ?_)
  show wpAny _ _ (callAny (.type "set") _) _ _ _
  refine wpAny_pure ⟨Code.quiet_builtin _ (by decide +kernel), codeAny_builtin F.entry_type_call ?_⟩
  rw [Around.under_plain (weight_type_call_type "set" [.ref l] []) rfl]
  have h1 := F.called_set.notType
  have h2 := F.called_set.canCreate
  have hct := F.typeCall_set_1 (.ref l)
  repeat (any_goals (first | assumption | wp_step))
  refine codeAny_mono (code_set_led1 (.ref l) (E := E) (Q₁ := fun obj s₁ => obj = .ref s.heap.objs.size ∧ s₁ = { s with heap := s.heap.push { cls := .type "set", dict := none, data := .set #[] 0 (.fresh 0 0 (!w.params.followText "set-order")) } }) ⟨rfl, rfl⟩) fun r s₁ hr => ?_
  cases r with
  | error e => exact hr
  | ok fl =>
    cases fl with
    | ret obj =>
      obtain ⟨rfl, rfl⟩ := hr
      have hS : (s.heap.push { cls := .type "set", dict := none, data := .set #[] 0 (.fresh 0 0 (!w.params.followText "set-order")) }).get? s.heap.objs.size = some { cls := .type "set", dict := none, data := .set #[] 0 (.fresh 0 0 (!w.params.followText "set-order")) } := Heap.get?_push_size _ rfl
      have hT : Shared.TypeIs { s with heap := s.heap.push { cls := .type "set", dict := none, data := .set #[] 0 (.fresh 0 0 (!w.params.followText "set-order")) } } (.ref s.heap.objs.size) "set" := ⟨_, hS, rfl⟩
      have hli := F.called_set.init.lookup
      have hbi := F.called_set.init.bind (.ref s.heap.objs.size)
      repeat (any_goals (first | assumption | wp_step))
      refine codeAny_mono (codeAny_call_builtin (R := wants (fun r s₂ => r = .none ∧ ∃ h' tk L, s₂ = { s with heap := h', toks := tk } ∧ TxtSet P w h' s.heap.objs.size L ∧ GotS ks ks.length L ∧
          (∀ b o, s.heap.get? b = some o → h'.get? b = some o)) E) F.called_set.init.plain F.entry_set_init (check_set_init_1 hT ?_)) fun r₂ s₂ hr₂ => ?_
      · obtain ⟨ol, hol, hcl, nl, hdl⟩ := hl
        obtain ⟨ocls, odict, odata, oslots⟩ := ol
        simp only at hcl hdl
        subst hcl; subst hdl
        have hol' : (s.heap.push { cls := .type "set", dict := none, data := .set #[] 0 (.fresh 0 0 (!w.params.followText "set-order")) }).get? l = some { cls := .type "list", dict := odict, data := .seq items nl, slots := oslots } := Heap.get?_push_of_some _ hol
        have hsls := F.sub_list_set
        have hslf := F.sub_list_frozenset
        have hne : (Value.type "list" == Value.type "dict") = false := by decide
        have hl1 : (s.heap.push { cls := .type "set", dict := none, data := .set #[] 0 (.fresh 0 0 (!w.params.followText "set-order")) }).IsList l items := ⟨_, hol', rfl, nl, rfl⟩
        unfold Builtin.«set.__init__» noKeywords Builtin.Frozenset.updateFrom
        generalize hPI : pyIter = PI
        wp_walk
        subst hPI
        refine wpAny_pyIter_list hl1 ?_
        refine wpAny_bind (wpAny_runValue ?_)
        have hlS : l < s.heap.objs.size := Heap.lt_size hol
        have hh3 : A.in1.in1.in1.handled = none := by simp [hh]
        have hz1 : (s.heap.push { cls := .type "set", dict := none, data := .set #[] 0 (.fresh 0 0 (!w.params.followText "set-order")) }).objs.size = s.heap.objs.size + 1 := Heap.size_push ..
        have hneI : l ≠ (s.heap.push { cls := .type "set", dict := none, data := .set #[] 0 (.fresh 0 0 (!w.params.followText "set-order")) }).objs.size := by
          rw [Heap.size_push]; exact Nat.ne_of_lt (Nat.lt_succ_of_lt hlS)
        have hSf : s.heap.objs.size ∉ [(s.heap.push { cls := .type "set", dict := none, data := .set #[] 0 (.fresh 0 0 (!w.params.followText "set-order")) }).objs.size, l] := by
          rw [Heap.size_push]; simp only [List.mem_cons, List.mem_singleton, List.not_mem_nil, or_false, not_or]
          exact ⟨Nat.ne_of_lt (Nat.lt_succ_self _), Nat.ne_of_gt hlS⟩
        have none_of : ∀ b, s.heap.objs.size ≤ b → s.heap.get? b = none := fun b hb => by
          cases q : s.heap.get? b with
          | none => rfl
          | some o => exact absurd (Nat.lt_of_lt_of_le (Heap.lt_size q) hb) (Nat.lt_irrefl _)
        refine set_update_txts ((Walks.list hh3 _ l hneI items).toS) s.heap.objs.size
          hSf ks ns hisz hns hfew hit s.heap (none_of _ (Nat.le_refl _)) (fun b hb => none_of b (by
            rw [List.mem_singleton.mp hb, Heap.size_push]
            exact Nat.le_succ _)) (items.size - 0) 0 _ (by omega) (Nat.zero_le _)
          ⟨⟨_, Heap.get?_push_size _ rfl, rfl, rfl⟩, (hl1.push _)⟩ (fun b o e => Heap.get?_push_of_some _ (Heap.get?_push_of_some _ e)) ?hS0 ?hR
        case hS0 =>
          have hget : ((s.heap.push { cls := .type "set", dict := none, data := .set #[] 0 (.fresh 0 0 (!w.params.followText "set-order")) }).push { cls := .type "list_iterator", data := .fields #[.ref l, .int 0 0] }).get? s.heap.objs.size
              = some { cls := .type "set", dict := none, data := .set #[] 0 (.fresh 0 0 (!w.params.followText "set-order")) } := Heap.get?_push_of_some _ hS
          exact ⟨[], setT_fresh hget, GotS.zero ks⟩
        case hR =>
          intro s' L hm hS' g' hkp
          obtain ⟨h', g2, d', tk', os'⟩ := s'
          have eg : g2 = s.gens := hm.gens
          have ed : d' = s.drawn := hm.drawn
          have eo : os' = s.os := hm.os
          subst eg; subst ed; subst eo
          show wpAny _ _ _ _ _ _
          refine wpAny_pure ?_
          show wpAny _ _ (ret Value.none) _ _ _
          rw [hisz] at g'
          exact wpAny_pure ⟨rfl, h', tk', L, rfl, hS', g', hkp⟩
      · cases r₂ with
        | error e => exact hr₂
        | ok fl₂ =>
          cases fl₂ with
          | ret r =>
            obtain ⟨rfl, h', tk, L, rfl, hS', g', hk'⟩ := hr₂
            repeat (any_goals (first | assumption | wp_step))
            exact h _ _ _ hS' g' hk'
          | _ => exact hr₂.elim
    | _ => exact hr.elim
end
section
variable {X : Cx}
def rSetOfS (K : PySem.W.Frag) (P : Program) (w : World) : List V → Hp → VK → Prop := fun xs H Q => ∃ (l : Addr) (ks ns : List Str), xs = [V.ref l] ∧ SqL K H l (ks.map V.str) ∧ (∀ x ∈ ks, x ∈ ns) ∧ ns.length + 1 < scanBound ∧
  ∀ a L, H a = none → (∀ x ∈ L, x ∈ ks) → (∀ x ∈ ks, x ∈ L) → L.Nodup → Q (.ref a) (upd H a (SetT P w a L))
theorem cr_setOfS (hc : X.calm = true) : CallR X (.type "set") (rSetOfS X.K X.prog X.w) := by
  intro pins s σ H xs us Q I r h
  obtain ⟨l, ks, ns, rfl, hl, hns, hf, q⟩ := h
  rw [Vals.ref1 r]
  obtain ⟨its, rv, pl, hz⟩ := I.list hl
  have hn : H s.heap.objs.size = none := I.hok.fresh (Nat.le_refl _)
  have len : its.length = ks.length := by
    have := Paired.length rv
    rw [List.length_map] at this
    exact this.symm
  refine call_set_txts (P := X.prog) (w := X.w) ks ns (I.ok.hd hc) pl.isList (fun i v hv => ?_) (by rw [List.size_toArray]; exact len) hns hf fun h' tk L R g k => ?_
  · have hv' : its[i]? = some v := by
      rw [← hv, List.getElem?_toArray]
    obtain ⟨hi, _⟩ := List.getElem?_eq_some_iff.mp hv'
    have hk : i < ks.length := by omega
    obtain ⟨u, hu, ru⟩ := Vals.get rv (i := i) (x := V.str ks[i]) (by rw [List.getElem?_map, List.getElem?_eq_getElem hk]; rfl)
    rw [hv'] at hu
    cases hu
    obtain ⟨t, e⟩ := ru
    exact ⟨ks[i], t, List.getElem?_eq_getElem hk, e⟩
  · refine ⟨.ref s.heap.objs.size, upd H s.heap.objs.size (SetT X.prog X.w s.heap.objs.size L), I.laid (t' := tk) k (Nat.le_refl _) (setT_new R), rfl, q _ L hn (fun x hx => ?_) (fun x hx => ?_) g.nd⟩
    · exact List.mem_of_mem_take (g.sub x hx)
    · exact g.all x (by rw [List.take_length]; exact hx)
end
/-! ### sorted(d) of a dict whose keys are texts -/
def rSortDS : List V → Hp → VK → Prop := fun vs H Q => ∃ (a : Addr) (kvs : List (L2.Key × V)) (l : List Str), vs = [.ref a] ∧ H a = some (.dK kvs) ∧ kvs.map (·.1) = l.map Sum.inr ∧ l.Nodup ∧ l.length < 64 ∧
  ∀ (l' : List Str) (p : Addr), l'.Perm l → l'.Pairwise slt → H p = none → Q (.ref p) (upd H p (.lst (l'.map V.str)))
theorem cr_sortedDS {X : Cx} (hc : X.calm = true) : CallR X (.builtin "sorted") rSortDS := by
  intro pins s σ H xs us Q I r h
  obtain ⟨a, kvs, l, rfl, ha, ek, nl, h64, q⟩ := h
  obtain rfl := Vals.ref1 r
  obtain ⟨z, lo, vs, rk, hd⟩ := dk_of I.hok ha
  obtain ⟨ep, hat⟩ := hd.dictAt
  have hl : kvs.length = vs.length := Paired.length rk
  have hln : l.length = kvs.length := by
    have := congrArg List.length ek
    rw [List.length_map, List.length_map] at this
    exact this.symm
  refine Calls.call_function_entry kind_sorted plain_sorted entry_sorted (args_sorted1 _) ?_
  unfold Builtin.«sorted»
  refine wpAny_bind (m := checkCount "sorted" 1 1 _) (wpAny_pure ?_)
  refine wpAny_bind (PySem.W.kdu_collect (A := X.A.in1) (PySem.W.kdl_dict (knd := mixKind X.prog X.w) (kvs := vs) (ep := ep) lo) (I.ok.hd hc) hat (by rw [← hl]; exact z) fun h' tk acc hk hacc => ?_)
  have la : acc.toList.length = vs.length := by rw [Array.length_toList]; exact hacc.1
  have hvl : acc.toList.length = l.length := by omega
  have isv' : ∀ (j : Nat) (v : Value), acc.toList[j]? = some v → ∃ x t, v = Value.str x t ∧ l[j]? = some x := fun j v h1 => by
    obtain ⟨k, x, hky, hi⟩ := hacc.2 j v (by rw [← Array.getElem?_toList]; exact h1)
    have e1 : (kvs.map (·.1))[j]? = some k := by rw [KV.keys rk, List.getElem?_map, hky]; rfl
    obtain ⟨hj, _⟩ := List.getElem?_eq_some_iff.mp h1
    have hjl : j < l.length := by omega
    rw [ek, List.getElem?_map, List.getElem?_eq_getElem hjl] at e1
    have e2 : Sum.inr l[j] = k := Option.some.inj e1
    rw [← e2] at hi
    rcases keyIs_shape (k := (Sum.inr l[j] : L2.Key)) hi with ⟨_, _, y, _⟩ | ⟨x, t, e3, y⟩
    · cases y
    · cases e3
      exact ⟨l[j], t, y, List.getElem?_eq_getElem hjl⟩
  have isv : ∀ v ∈ acc.toList, ∃ x t, v = Value.str x t ∧ x ∈ l := fun v hv => by
    obtain ⟨j, hj, e⟩ := List.getElem_of_mem hv
    obtain ⟨x, t, e1, e2⟩ := isv' j v (by rw [List.getElem?_eq_getElem hj, e])
    exact ⟨x, t, e1, List.mem_of_getElem? e2⟩
  have hS := strs_all isv
  have pl0 : acc.toList.map strOf = l := by
    refine List.ext_getElem? fun j => ?_
    rw [List.getElem?_map]
    cases h1 : acc.toList[j]? with
    | none =>
      have z := List.getElem?_eq_none_iff.mp h1
      rw [List.getElem?_eq_none_iff.mpr (by omega)]
      rfl
    | some v =>
      obtain ⟨x, t, e1, e2⟩ := isv' j v h1
      rw [e1, e2]
      rfl
  have pl : (acc.toList.map strOf).Perm l := by rw [pl0]
  have hsz : acc.toList.length ≤ sizeLine := by rw [la, ← hl]; exact z
  refine wpAny_bind (wpAny_newList ?_ (by rw [hvl, sizeLine_eq]; omega))
  have hoL : (h'.push { cls := .type "list", data := .seq acc.toList.toArray }).get? h'.objs.size = some (seqObj "list" acc.toList.toArray 0) := Heap.get?_push_size _ rfl
  refine wpAny_bind (wpAny_holding (wpAny_call_entry PyProof.Rows.slot_list_sort ⟨_, hoL, rfl⟩ PyProof.Rows.entry_list_sort
    (SK.plain_sort (r := fun v => rankS l (strOf v)) hoL (by rw [hvl]; exact h64) (fun h2 Qk hQk => ?_) fun ps out o2 o3 o4 => ⟨.none, rfl, ?_⟩) (PyProof.Rows.args_list_sort _)))
  · have kk : keyKind' acc.toList.toArray = pure oneType' := by
      match acc.toList, hS, h2 with
      | v1 :: v2 :: rest, hS, _ => exact keyKind_strs hS
      | [], _, h => exact absurd h (by decide)
      | [v], _, h => exact absurd h (by simp)
    rw [kk]
    refine wpAny_pure (hQk _ ?_)
    intro p q hp hq Q' E' hQ
    rw [PyProof.Rows.pairsOf_toList] at hp hq
    obtain ⟨x, t, e1, m1⟩ := isv _ (mem_zip_self hp).2
    obtain ⟨y, u, e2, m2⟩ := isv _ (mem_zip_self hq).2
    rw [e1, e2] at hQ ⊢
    rw [keyLt'_oneType]
    refine oneLt_str ?_
    have := rankS_iff m1 m2
    show Q' (decide (slt x y)) _
    rw [this]
    exact hQ
  · have pv : out.toList.Perm acc.toList := by
      have z := o3.map Prod.snd
      rw [List.map_snd_zip (Nat.le_refl _)] at z
      rw [o2]
      exact z
    have pl' : (out.toList.map strOf).Perm l := (pv.map strOf).trans pl
    have up : (out.toList.map strOf).Pairwise slt := by
      have nd' := pl'.nodup_iff.mpr nl
      rw [o2, List.map_map] at nd' ⊢
      rw [List.nodup_iff_pairwise_ne, List.pairwise_map] at nd'
      rw [List.pairwise_map]
      refine List.Pairwise.imp_of_mem (fun {p q} hp hq h => ?_) (o4.and nd')
      obtain ⟨a1, b1⟩ := mem_zip_self (o3.mem_iff.mp hp)
      obtain ⟨a2, b2⟩ := mem_zip_self (o3.mem_iff.mp hq)
      obtain ⟨x, t, e1, m1⟩ := isv _ b1
      obtain ⟨y, u, e2, m2⟩ := isv _ b2
      have h1 : rankS l (strOf p.1) ≤ rankS l (strOf q.1) := h.1
      have h2 : strOf p.2 ≠ strOf q.2 := h.2
      show slt (strOf p.2) (strOf q.2)
      rw [← a1, ← a2, e1, e2] at h2 ⊢
      rw [e1, e2] at h1
      have h1' : rankS l x ≤ rankS l y := h1
      have h2' : x ≠ y := h2
      show slt x y
      by_cases c : slt x y
      · exact c
      · rcases slt_or c with g | g
        · have := rankS_lt m2 g
          omega
        · exact absurd g h2'
    have hI : StrsAre out.toList (out.toList.map strOf) := strsAre_map _ fun v hv => by
      obtain ⟨x, t, e, _⟩ := isv v (pv.mem_iff.mp hv)
      exact ⟨x, t, e⟩
    obtain ⟨eF, heF⟩ := PyProof.Rows.sortedHeap_at (vs := acc.toList) (out := out) hoL
    have hlen : ((out.toList.map strOf).map V.str).length ≤ sizeLine := by
      rw [List.length_map, pl'.length_eq, sizeLine_eq]
      omega
    have I' : Inv X pins σ H { s with heap := h', toks := tk } := I.kept (t' := tk) hk
    have kF : ∀ b o, h'.get? b = some o → (sortedHeap (h'.push { cls := .type "list", data := .seq acc.toList.toArray }) h'.objs.size acc.toList out).get? b = some o := fun b o e =>
      (PyProof.Rows.sortedHeap_old (Nat.ne_of_lt (Heap.lt_size e)) (Heap.lt_size (Heap.get?_push_of_some _ e))).trans (Heap.get?_push_of_some _ e)
    exact wpAny_pure ⟨_, rfl, .ref h'.objs.size, upd H h'.objs.size (.lst ((out.toList.map strOf).map V.str)), I'.laid (t' := tk) kF (Nat.le_refl _) ⟨hlen, out.toList, eF, vals_of_strs hI, heF⟩, rfl, q _ _ pl' up (I'.hok.fresh (Nat.le_refl _))⟩
/-! ### names_of -/
def insT (L : List Str) (x : Str) : List Str := if x ∈ L then L else L ++ [x]
def insA (L M : List Str) : List Str := M.foldl insT L
theorem insA_append (L M N : List Str) : insA L (M ++ N) = insA (insA L M) N := List.foldl_append ..
theorem insT_mem {L : List Str} {x y : Str} : y ∈ insT L x ↔ y ∈ L ∨ y = x := by
  unfold insT
  by_cases c : x ∈ L
  · rw [if_pos c]
    exact ⟨.inl, fun h => h.elim id fun z => by rw [z]; exact c⟩
  · rw [if_neg c, List.mem_append, List.mem_singleton]
theorem insT_nd {L : List Str} {x : Str} (h : L.Nodup) : (insT L x).Nodup := by
  unfold insT
  by_cases c : x ∈ L
  · rw [if_pos c]
    exact h
  · rw [if_neg c]
    exact List.nodup_append.mpr ⟨h, List.nodup_cons.mpr ⟨by simp, List.nodup_nil⟩, fun a ha b hb => by rw [List.mem_singleton.mp hb]; exact fun z => c (z ▸ ha)⟩
theorem insA_mem {y : Str} : ∀ {M L : List Str}, y ∈ insA L M ↔ y ∈ L ∨ y ∈ M
  | [], L => by simp [insA]
  | x :: M, L => by
    show y ∈ insA (insT L x) M ↔ _
    rw [insA_mem, insT_mem, List.mem_cons, or_assoc]
theorem insA_nd : ∀ {M L : List Str}, L.Nodup → (insA L M).Nodup
  | [], L, h => h
  | x :: M, L, h => insA_nd (M := M) (insT_nd (x := x) h)
def dT (L : List Str) : List (L2.Key × V) := L.map fun x => (.inr x, .bl true)
theorem dT_put (L : List Str) (x : Str) : putK (dT L) (Sum.inr x) (.bl true) = dT (insT L x) := by
  unfold putK insT dT
  have e : ((L.map fun x => ((Sum.inr x : L2.Key), V.bl true)).any fun kv => decide (kv.1 = (Sum.inr x : L2.Key))) = true ↔ x ∈ L := by
    rw [List.any_map, List.any_eq_true]
    constructor
    · rintro ⟨y, hy, z⟩
      have z : (Sum.inr y : L2.Key) = Sum.inr x := of_decide_eq_true z
      rw [← Sum.inr.inj z]
      exact hy
    · intro h
      exact ⟨x, h, decide_eq_true rfl⟩
  by_cases c : x ∈ L
  · rw [if_pos (e.mpr c), if_pos c, List.map_map]
    refine List.map_congr_left fun a _ => ?_
    show (if (Sum.inr a : L2.Key) = Sum.inr x then ((Sum.inr a : L2.Key), V.bl true) else (Sum.inr a, V.bl true)) = (Sum.inr a, V.bl true)
    by_cases z : (Sum.inr a : L2.Key) = Sum.inr x
    · rw [if_pos z]
    · rw [if_neg z]
  · rw [if_neg (fun z => c (e.mp z)), if_neg c, List.map_append]
    rfl
theorem dT_len (L : List Str) : (dT L).length = L.length := List.length_map ..
/-- names of ns, each once -/
structure Few (ns L : List Str) : Prop where
  nd : L.Nodup
  of : ∀ x ∈ L, x ∈ ns
theorem Few.len {ns L : List Str} (h : Few ns L) : L.length ≤ ns.length := nodup_len h.nd h.of
theorem Few.put {ns L : List Str} {x : Str} (h : Few ns L) (hx : x ∈ ns) : Few ns (insT L x) := ⟨insT_nd h.nd, fun y hy => (insT_mem.mp hy).elim (h.of y) fun z => by rw [z]; exact hx⟩
theorem Few.all {ns L M : List Str} (h : Few ns L) (hM : ∀ x ∈ M, x ∈ ns) : Few ns (insA L M) := ⟨insA_nd h.nd, fun y hy => (insA_mem.mp hy).elim (h.of y) (hM y)⟩
section
variable {P : Program} {w : World} {K : PySem.W.Frag} {mg : Str → Option Value} {base : Heap} {C : Addr}
def spFindE (K : PySem.W.Frag) : Nat → Sp
  | 0 => fun _ _ _ _ => False
  | k + 1 => fun vs H Q _ => ∃ (p d : Addr) (t : Ex) (ns L : List Str), vs = [.ref p, .ref d] ∧ ExAt K H p t ∧ ExOk ns k t ∧ H d = some (.dK (dT L)) ∧ Few ns L ∧ ns.length < 1000 ∧ ∀ H', H' d = some (.dK (dT (insA L (namesE t)))) → Else d H H' → Q .non H'
theorem ok_find_in_expression {f : Addr} {fd : FuncData} (T : Txt K mg C) (F : DefAt K mg "_find_in_expression" "_find_in_expression" s_find_in_expression ["expression", "found"] f fd) : ∀ k, FnOk P w K mg base CX0 k f fd ["expression", "found"] (spFindE K k)
  | 0 => ⟨fun _ _ _ _ h => False.elim h, fun _ _ _ _ _ _ _ _ _ _ _ _ _ h => False.elim h⟩
  | k + 1 => by
    have G_find_in_expression := ok_find_in_expression T F k
    have D_find_in_expression := F
    refine F.F.ok sc_find_in_expression (fun vs H Q E h => ?_) (fun cdv A outer s H vs Q E hr h => ?_)
    · obtain ⟨p, d, t, ns, L, rfl, _⟩ := h
      rfl
    · obtain ⟨p, d, t, ns, L, rfl, tr, ok, ed, fw, hns, q⟩ := h
      refine ⟨_, (pss_one (ps_if (pt_cmpR op_eq (pe_ix ix_tup (pv 0) pe_int (fun _ _ => rfl)) pe_str (nomark _)) (pss_one (ps_dput (room1 hr) (pv 1) (pe_ix ix_tup (pv 0) pe_int (fun _ _ => rfl)) pe_bl rfl)) (pss_one (ps_if (pt_cmpR op_ne (pe_ix ix_tup (pv 0) pe_int (fun _ _ => rfl)) pe_str (nomark _)) (pss_cons (ps_expr (pe_call G_find_in_expression (hr.mono (by omega)) (by rfl) D_find_in_expression.g D_find_in_expression.F.kp D_find_in_expression.b .nil pass0 (pa_cons (pe_ix ix_tup (pv 0) pe_int (fun _ _ => rfl)) (pa_cons (pv 1) pa_nil)))) (pss_one (ps_expr (pe_call G_find_in_expression (hr.mono (by omega)) (by rfl) D_find_in_expression.g D_find_in_expression.F.kp D_find_in_expression.b .nil pass0 (pa_cons (pe_ix ix_tup (pv 0) pe_int (fun _ _ => rfl)) (pa_cons (pv 1) pa_nil)))))) pss_nil)))), ?_⟩
      have lenL : (dT L).length < sizeLine := by
        rw [dT_len, sizeLine_eq]
        have := fw.len
        omega
      cases t with
      | num n =>
        refine ⟨_, rfl, p, _, _, _, rfl, rfl, tr, atI_nat (j := 0) rfl, rfl, _, rfl, ite2 (fun e => absurd e (by decide)) (fun e => ?_)⟩
        refine ⟨_, rfl, p, _, _, _, rfl, rfl, tr, atI_nat (j := 0) rfl, rfl, _, rfl, ite2 (fun e => absurd e (by decide)) (fun e => ?_)⟩
        exact q H ed (.refl d H)
      | name x =>
        refine ⟨_, rfl, p, _, _, _, rfl, rfl, tr, atI_nat (j := 0) rfl, rfl, _, rfl, ite2 (fun e => ?_) (fun e => absurd (by decide) e)⟩
        refine ⟨_, rfl, _, rfl, p, _, _, _, rfl, rfl, tr, atI_nat (j := 1) rfl, d, _, rfl, DPut.k (k := .inr x) ed lenL, ?_⟩
        rw [dT_put]
        exact q _ upd_same Else.upd
      | add a b =>
        cases k with
        | zero => exact False.elim ok
        | succ k =>
          obtain ⟨pa, pb, tp, ta, tb⟩ := tr
          obtain ⟨oa, ob⟩ := ok
          refine ⟨_, rfl, p, _, _, _, rfl, rfl, tp, atI_nat (j := 0) rfl, rfl, _, rfl, ite2 (fun e => absurd e (by decide)) (fun e => ?_)⟩
          refine ⟨_, rfl, p, _, _, _, rfl, rfl, tp, atI_nat (j := 0) rfl, rfl, _, rfl, ite2 (fun e => ?_) (fun e => absurd (by decide) e)⟩
          refine ⟨_, rfl, p, _, _, _, rfl, rfl, tp, atI_nat (j := 1) rfl, _, rfl, pa, d, a, ns, L, rfl, ta, oa, ed, fw, hns, fun H1 e1 s1 => ?_⟩
          have t1 := s1.tups ed True.intro
          refine ⟨_, rfl, p, _, _, _, rfl, rfl, SqT.keeps tp t1, atI_nat (j := 2) rfl, _, rfl, pb, d, b, ns, _, rfl, tb.stay t1, ob, e1, fw.all (namesE_in oa), hns, fun H2 e2 s2 => ?_⟩
          exact q H2 (by rw [show namesE (.add a b) = namesE a ++ namesE b from rfl, insA_append]; exact e2) (s1.trans s2)
      | mul a b =>
        cases k with
        | zero => exact False.elim ok
        | succ k =>
          obtain ⟨pa, pb, tp, ta, tb⟩ := tr
          obtain ⟨oa, ob⟩ := ok
          refine ⟨_, rfl, p, _, _, _, rfl, rfl, tp, atI_nat (j := 0) rfl, rfl, _, rfl, ite2 (fun e => absurd e (by decide)) (fun e => ?_)⟩
          refine ⟨_, rfl, p, _, _, _, rfl, rfl, tp, atI_nat (j := 0) rfl, rfl, _, rfl, ite2 (fun e => ?_) (fun e => absurd (by decide) e)⟩
          refine ⟨_, rfl, p, _, _, _, rfl, rfl, tp, atI_nat (j := 1) rfl, _, rfl, pa, d, a, ns, L, rfl, ta, oa, ed, fw, hns, fun H1 e1 s1 => ?_⟩
          have t1 := s1.tups ed True.intro
          refine ⟨_, rfl, p, _, _, _, rfl, rfl, SqT.keeps tp t1, atI_nat (j := 2) rfl, _, rfl, pb, d, b, ns, _, rfl, tb.stay t1, ob, e1, fw.all (namesE_in oa), hns, fun H2 e2 s2 => ?_⟩
          exact q H2 (by rw [show namesE (.mul a b) = namesE a ++ namesE b from rfl, insA_append]; exact e2) (s1.trans s2)
def spFindR (K : PySem.W.Frag) : Nat → Sp
  | 0 => fun _ _ _ _ => False
  | n + 1 => fun vs H Q _ => ∃ (p d : Addr) (r : Rw) (ns L : List Str), vs = [.ref p, .ref d] ∧ RwAt K H p r ∧ RwOk ns r n ∧ H d = some (.dK (dT L)) ∧ Few ns L ∧ ns.length < 1000 ∧ ∀ H', H' d = some (.dK (dT (insA L (namesR r)))) → Else d H H' → Q .non H'
set_option maxHeartbeats 4000000 in
theorem ok_find_in_row {f : Addr} {fd : FuncData} (T : Txt K mg C) (F : DefAt K mg "_find_in_row" "_find_in_row" s_find_in_row ["row", "found"] f fd) : ∀ n, FnOk P w K mg base CX0 (n + 6) f fd ["row", "found"] (spFindR K n)
  | 0 => ⟨fun _ _ _ _ h => False.elim h, fun _ _ _ _ _ _ _ _ _ _ _ _ _ h => False.elim h⟩
  | n + 1 => by
    have G_find_in_row := ok_find_in_row T F n
    have D_find_in_row := F
    obtain ⟨f1, fd1, D_find_in_expression⟩ := T.d_find_in_expression
    have G_find_in_expression : FnOk P w K mg base CX0 6 f1 fd1 ["expression", "found"] (spFindE K 6) := ok_find_in_expression T D_find_in_expression 6
    refine F.F.ok sc_find_in_row (fun vs H Q E h => ?_) (fun cdv A outer s H vs Q E hr h => ?_)
    · obtain ⟨p, d, r, ns, L, rfl, _⟩ := h
      rfl
    · obtain ⟨p, d, r, ns, L, rfl, rat, ok, ed, fw, hns, q⟩ := h
      refine ⟨_, (pss_one (ps_for PassesOwn.never rfl (pi_tup (pe_ix ix_tup (pv 0) pe_int (fun _ _ => rfl))) (pg_name (i := 2) sc_find_in_row.nd rfl (.inl rfl)) (pss_cons (ps_if (pt_cmpR op_eq (pe_ix ix_tup (pv 2) pe_int (fun _ _ => rfl)) pe_str (nomark _)) (pss_one (ps_expr (pe_call G_find_in_expression (hr.mono (by omega)) (by rfl) D_find_in_expression.g D_find_in_expression.F.kp D_find_in_expression.b .nil pass0 (pa_cons (pe_ix ix_tup (pv 2) pe_int (fun _ _ => rfl)) (pa_cons (pv 1) pa_nil))))) (pss_cons (ps_dput (room1 hr) (pv 1) (pe_ix ix_tup (pv 2) pe_int (fun _ _ => rfl)) pe_bl rfl) (pss_one (ps_expr (pe_call G_find_in_expression (hr.mono (by omega)) (by rfl) D_find_in_expression.g D_find_in_expression.F.kp D_find_in_expression.b .nil pass0 (pa_cons (pe_ix ix_tup (pv 2) pe_int (fun _ _ => rfl)) (pa_cons (pv 1) pa_nil))))))) (pss_one (ps_if (pt_cmpR op_eq (pe_ix ix_tup (pv 2) pe_int (fun _ _ => rfl)) pe_str (nomark _)) (pss_one (ps_expr (pe_call G_find_in_row (hr.mono (by omega)) (by rfl) D_find_in_row.g D_find_in_row.F.kp D_find_in_row.b .nil pass0 (pa_cons (pe_ix ix_tup (pv 2) pe_int (fun _ _ => rfl)) (pa_cons (pv 1) pa_nil))))) pss_nil))))), ?_⟩
      obtain ⟨pt, qs, a1, a2, a3⟩ := rat
      refine ⟨_, rfl, p, _, _, _, rfl, rfl, a1, atI_nat (j := 1) rfl, pt, rfl, ⟨_, a2⟩, for_tup (K := K) (a := pt) (xs := qs.map V.ref) (fun i σ H2 => ∃ (v2 : Option V) (L2 : List Str) (r2 : Rw), σ = [some (.ref p), some (.ref d), v2] ∧ H2 d = some (.dK (dT L2)) ∧ Few ns L2 ∧ Else d H H2 ∧ StsAt K H2 r2 (qs.drop i) ∧ RwOk ns r2 n ∧ insA L2 (namesR r2) = insA L (namesR r))
        ⟨none, L, r, rfl, ed, fw, .refl d H, a3, ok, rfl⟩ (fun i σ H2 _ h => ?_) ?_ ?_⟩
      · obtain ⟨_, _, _, _, _, _, s2, _⟩ := h
        exact SqT.keeps a2 (s2.tups ed True.intro)
      · rintro i x σ H2 hx ⟨v2, L2, r2, rfl, e2, fw2, s2, st, ok2, eq⟩
        rw [List.getElem?_map] at hx
        cases hy : qs[i]? with
        | none =>
          rw [hy] at hx
          cases hx
        | some q1 =>
          rw [hy] at hx
          cases hx
          obtain ⟨hi, hq⟩ := List.getElem?_eq_some_iff.mp hy
          rw [List.drop_eq_getElem_cons hi, hq] at st
          have len2 : (dT L2).length < sizeLine := by
            rw [dT_len, sizeLine_eq]
            have := fw2.len
            omega
          cases r2 with
          | nil => cases st
          | say e r3 =>
            obtain ⟨q2, t2, pe, e1, b1, b2, b3⟩ := st
            obtain ⟨z1, z2⟩ := List.cons.inj e1
            subst z1 z2
            obtain ⟨o2, o3⟩ := ok2
            refine ⟨_, rfl, q1, _, _, _, rfl, rfl, b1, atI_nat (j := 0) rfl, rfl, _, rfl, ite2 (fun c => ?_) (fun c => absurd (by decide) c)⟩
            refine ⟨_, rfl, q1, _, _, _, rfl, rfl, b1, atI_nat (j := 1) rfl, _, rfl, pe, d, e, ns, L2, rfl, b2, o2, e2, fw2, hns, fun H3 e3 s3 => ?_⟩
            have t3 := s3.tups e2 True.intro
            refine ⟨_, rfl, q1, _, _, _, rfl, rfl, SqT.keeps b1 t3, atI_nat (j := 0) rfl, rfl, _, rfl, ite2 (fun c => absurd c (by decide)) (fun c => ?_)⟩
            exact ⟨_, _, r3, rfl, e3, fw2.all (namesE_in o2), s2.trans s3, b3.stay t3, o3, by rw [← eq, show namesR (.say e r3) = namesE e ++ namesR r3 from rfl, insA_append]⟩
          | set x e r3 =>
            obtain ⟨q2, t2, pe, e1, b1, b2, b3⟩ := st
            obtain ⟨z1, z2⟩ := List.cons.inj e1
            subst z1 z2
            obtain ⟨o1, o2, o3⟩ := ok2
            refine ⟨_, rfl, q1, _, _, _, rfl, rfl, b1, atI_nat (j := 0) rfl, rfl, _, rfl, ite2 (fun c => absurd c (by decide)) (fun c => ?_)⟩
            refine ⟨_, rfl, _, rfl, q1, _, _, _, rfl, rfl, b1, atI_nat (j := 1) rfl, d, _, rfl, DPut.k (k := .inr x) e2 len2, ?_⟩
            rw [dT_put]
            have s4 : Else d H2 (upd H2 d (.dK (dT (insT L2 x)))) := .upd
            have t4 := s4.tups e2 True.intro
            have e4 : (upd H2 d (.dK (dT (insT L2 x)))) d = some (.dK (dT (insT L2 x))) := upd_same
            refine ⟨_, rfl, q1, _, _, _, rfl, rfl, SqT.keeps b1 t4, atI_nat (j := 2) rfl, _, rfl, pe, d, e, ns, insT L2 x, rfl, b2.stay t4, o2, e4, fw2.put o1, hns, fun H3 e3 s3 => ?_⟩
            have t3 := s3.tups e4 True.intro
            refine ⟨_, rfl, q1, _, _, _, rfl, rfl, SqT.keeps (SqT.keeps b1 t4) t3, atI_nat (j := 0) rfl, rfl, _, rfl, ite2 (fun c => absurd c (by decide)) (fun c => ?_)⟩
            exact ⟨_, _, r3, rfl, e3, (fw2.put o1).all (namesE_in o2), (s2.trans s4).trans s3, (b3.stay t4).stay t3, o3, by rw [← eq, ← insA_append]; rfl⟩
          | lap x m b r3 =>
            obtain ⟨q2, t2, pm, pb, pt2, qb, e1, b1, bm, c1, c2, bb, b3⟩ := st
            obtain ⟨z1, z2⟩ := List.cons.inj e1
            subst z1 z2
            obtain ⟨o1, o2, n1, _, o4, o3⟩ := ok2
            cases n with
            | zero => exact absurd n1 (by decide)
            | succ n =>
              refine ⟨_, rfl, q1, _, _, _, rfl, rfl, b1, atI_nat (j := 0) rfl, rfl, _, rfl, ite2 (fun c => absurd c (by decide)) (fun c => ?_)⟩
              refine ⟨_, rfl, _, rfl, q1, _, _, _, rfl, rfl, b1, atI_nat (j := 1) rfl, d, _, rfl, DPut.k (k := .inr x) e2 len2, ?_⟩
              rw [dT_put]
              have s4 : Else d H2 (upd H2 d (.dK (dT (insT L2 x)))) := .upd
              have t4 := s4.tups e2 True.intro
              have e4 : (upd H2 d (.dK (dT (insT L2 x)))) d = some (.dK (dT (insT L2 x))) := upd_same
              refine ⟨_, rfl, q1, _, _, _, rfl, rfl, SqT.keeps b1 t4, atI_nat (j := 2) rfl, _, rfl, pm, d, m, ns, insT L2 x, rfl, bm.stay t4, o2, e4, fw2.put o1, hns, fun H3 e3 s3 => ?_⟩
              have t3 := s3.tups e4 True.intro
              have t43 := t4.trans t3
              refine ⟨_, rfl, q1, _, _, _, rfl, rfl, SqT.keeps b1 t43, atI_nat (j := 0) rfl, rfl, _, rfl, ite2 (fun c => ?_) (fun c => absurd (by decide) c)⟩
              have fw3 := (fw2.put o1).all (namesE_in o2)
              refine ⟨_, rfl, q1, _, _, _, rfl, rfl, SqT.keeps b1 t43, atI_nat (j := 3) rfl, _, rfl, pb, d, b, ns, _, rfl, ⟨pt2, qb, SqT.keeps c1 t43, SqT.keeps c2 t43, bb.stay t43⟩, o4, e3, fw3, hns, fun H5 e5 s5 => ?_⟩
              have t5 := s5.tups e3 True.intro
              exact ⟨_, _, r3, rfl, e5, fw3.all (namesR_in o4), ((s2.trans s4).trans s3).trans s5, (b3.stay t43).stay t5, o3, by rw [← eq, ← insA_append, ← insA_append]; rfl⟩
      · rintro σ H2 ⟨v2, L2, r2, rfl, e2, fw2, s2, st, ok2, eq⟩
        rw [List.length_map, List.drop_length] at st
        have z : r2 = .nil := by
          cases r2 with
          | nil => rfl
          | set x e r => obtain ⟨_, _, _, z, _⟩ := st; cases z
          | say e r => obtain ⟨_, _, _, z, _⟩ := st; cases z
          | lap x m b r => obtain ⟨_, _, _, _, _, _, z, _⟩ := st; cases z
        rw [z] at eq
        exact q H2 (by rw [← eq]; exact e2) s2
def spNamesOf (K : PySem.W.Frag) : Sp := fun vs H Q _ => ∃ (p : Addr) (r : Rw) (ns : List Str), vs = [.ref p] ∧ RwAt K H p r ∧ RwOk ns r 3 ∧ ns.length < 64 ∧ ∀ (l : List Str) (q : Addr) (H' : Hp), l.Pairwise slt → (∀ x, x ∈ l ↔ x ∈ namesR r) → H' q = some (.lst (l.map V.str)) → Same H H' → H q = none → Q (.ref q) H'
theorem ok_names_of {f : Addr} {fd : FuncData} (T : Txt K mg C) (F : DefAt K mg "names_of" "names_of" s_names_of ["program"] f fd) : FnOk P w K mg base CX0 11 f fd ["program"] (spNamesOf K) := by
  obtain ⟨f1, fd1, D_find_in_row⟩ := T.d_find_in_row
  have G_find_in_row : FnOk P w K mg base CX0 10 f1 fd1 ["row", "found"] (spFindR K 4) := ok_find_in_row T D_find_in_row 4
  refine F.F.ok sc_names_of (fun vs H Q E h => ?_) (fun cdv A outer s H vs Q E hr h => ?_)
  · obtain ⟨p, r, ns, rfl, _⟩ := h
    rfl
  · obtain ⟨p, r, ns, rfl, rat, ok, hns, q⟩ := h
    refine ⟨_, (pss_cons (ps_set (i := 1) sc_names_of.nd rfl (.inl rfl) pe_dnewK)
      (pss_cons (ps_expr (pe_call G_find_in_row (hr.mono (by decide)) (by rfl) D_find_in_row.g D_find_in_row.F.kp D_find_in_row.b .nil pass0 (pa_cons (pv 0) (pa_cons (pv 1) pa_nil))))
      (pss_one (ps_ret (pe_callB (cr_sortedDS rfl) (by rfl) T.m_sorted (by decide +kernel) (pa_cons (pv 1) pa_nil)))))), ?_⟩
    intro d nd
    have s0 : Same H (upd H d (.dK [])) := same_upd nd
    have fw0 : Few ns [] := ⟨List.nodup_nil, (fun _ h => nomatch h)⟩
    refine ⟨_, rfl, _, rfl, p, d, r, ns, [], rfl, rat.stay (TupsStay.same s0), ok, upd_same, fw0, by omega, fun H1 e1 s1 => ?_⟩
    have fw1 := fw0.all (namesR_in ok)
    have lf := fw1.len
    refine ⟨_, rfl, d, dT (insA [] (namesR r)), insA [] (namesR r), rfl, e1, by rw [dT, List.map_map]; rfl, fw1.nd, by omega, fun l' p' pm so np => ?_⟩
    have s2 : Same H H1 := Else.fresh nd s0 s1
    refine q l' p' _ so (fun x => ?_) upd_same (s2.trans (same_upd np)) (s2.free np)
    rw [pm.mem_iff, insA_mem]
    simp
/-- two rising lists of the same texts are one -/
theorem rising_eq : ∀ {l m : List Str}, l.Pairwise slt → m.Pairwise slt → (∀ x, x ∈ l ↔ x ∈ m) → l = m
  | [], [], _, _, _ => rfl
  | [], y :: m, _, _, h => absurd ((h y).mpr (by simp)) (by simp)
  | x :: l, [], _, _, h => absurd ((h x).mp (by simp)) (by simp)
  | x :: l, y :: m, hl, hm, h => by
    obtain ⟨a1, a2⟩ := List.pairwise_cons.mp hl
    obtain ⟨b1, b2⟩ := List.pairwise_cons.mp hm
    have e : x = y := by
      rcases List.mem_cons.mp ((h x).mp (by simp)) with z | z
      · exact z
      · rcases List.mem_cons.mp ((h y).mpr (by simp)) with z2 | z2
        · exact z2.symm
        · exact absurd (slt_trans (a1 y z2) (b1 x z)) (slt_irrefl _)
    subst e
    rw [rising_eq a2 b2 fun z => ?_]
    constructor
    · intro hz
      rcases List.mem_cons.mp ((h z).mp (by simp [hz])) with k | k
      · exact absurd (k ▸ a1 z hz) (slt_irrefl _)
      · exact k
    · intro hz
      rcases List.mem_cons.mp ((h z).mpr (by simp [hz])) with k | k
      · exact absurd (k ▸ b1 z hz) (slt_irrefl _)
      · exact k
end
/-! ### what hangs on a blurred name -/
def isBl (x : Str) : Bool := Txt.startswith x "blurred "
section
variable {P : Program} {w : World} {K : PySem.W.Frag} {mg : Str → Option Value} {base : Heap} {C : Addr}
def spHangs (K : PySem.W.Frag) (w : World) (C : Addr) : Sp := fun vs H Q _ => ∃ (p : Addr) (M : Poly) (ns : List Str), vs = [.ref p] ∧ SumAt K w C H p M ∧ (∀ y ∈ M, Of ns y.1) ∧ ns.length < 32 ∧
  ∀ (b : Bool) (H' : Hp), (b = true ↔ ∃ y ∈ M, ∃ e ∈ y.1, isBl e.1 = true) → Same H H' → Q (.bl b) H'
theorem ok_hangs_on_blurred {f : Addr} {fd : FuncData} (T : Txt K mg C) (F : DefAt K mg "hangs_on_blurred" "hangs_on_blurred" s_hangs_on_blurred ["given"] f fd) : FnOk P w K mg base CX0 2 f fd ["given"] (spHangs K w C) := by
  obtain ⟨f1, fd1, D_names_in⟩ := T.d_names_in
  have G_names_in : FnOk P w K mg base CX0 1 f1 fd1 ["given"] (spNamesIn K w C) := ok_names_in T D_names_in
  obtain ⟨u, g_BLURRED, r_BLURRED⟩ := T.c_BLURRED
  refine F.F.ok sc_hangs_on_blurred (fun vs H Q E h => ?_) (fun cdv A outer z H vs Q E hr h => ?_)
  · obtain ⟨p, M, ns, rfl, _⟩ := h
    rfl
  · obtain ⟨p, M, ns, rfl, S, ho, hl, q⟩ := h
    refine ⟨_, (pss_one (ps_ret (pe_callB (cr_any rfl) (by rfl) T.m_any (by decide +kernel) (pa_cons (pe_lc (own := [("word", 1)]) (g := gName 1) (tt := tYes) rfl sc_hangs_on_blurred.nd (pi_list (pe_call G_names_in (hr.mono (by decide)) (by rfl) D_names_in.g D_names_in.F.kp D_names_in.b .nil pass0 (pa_cons (pv 0) pa_nil))) (blkOk_by (own := [("word", 1)]) (N := ["given", "word"]) (sc := defScope s_hangs_on_blurred) (by decide +kernel)) (fun _ _ _ _ _ => pg_name (i := 1) sc_hangs_on_blurred.nd rfl (.inl rfl)) (fun _ _ _ _ _ => pts_nil) (fun _ _ _ _ _ => (pe_m1 PySem.F.slot_str_startswith PySem.F.type_str_startswith mt_startswith (pv 1) (pe_glob (v := .str "blurred ") rfl g_BLURRED r_BLURRED)))) pa_nil)))), ?_⟩
    refine ⟨_, rfl, p, M, ns, rfl, S, ho, hl, fun l xs H1 el mem lx s1 nl => ?_⟩
    refine ⟨l, rfl, ⟨_, SqL.of el⟩, fun D nD => lc_list (K := K) (a := l) (xs := xs.map V.str) (fun i Hx => Hx D = some (.lst (((xs.take i).map isBl).map V.bl)) ∧ Same H1 Hx)
      ⟨by rw [List.take_zero]; exact upd_same, same_upd nD⟩ (fun i Hx _ ⟨_, u⟩ => SqL.of (u _ _ el)) (fun i x Hx hx ⟨e1, u⟩ => ?_) (fun Hx ⟨e1, u⟩ => ?_)⟩
    · obtain ⟨k, hk, rfl⟩ : ∃ k, xs[i]? = some k ∧ x = V.str k := by
        rw [List.getElem?_map] at hx
        cases e : xs[i]? with
        | none =>
          rw [e] at hx
          cases hx
        | some y =>
          rw [e] at hx
          exact ⟨y, rfl, (Option.some.inj hx).symm⟩
      refine ⟨rfl, _, rfl, ⟨k, rfl⟩, k, _, rfl, rfl, _, e1, by rw [List.length_map, List.length_map, List.length_take, sizeLine_eq]; omega, ?_, fun b o e => ?_⟩
      · rw [upd_same, List.take_add_one, hk, List.map_append, List.map_append]
        rfl
      · rw [upd_ne (ne_of_none e nD)]
        exact u _ _ e
    · rw [List.length_map, List.take_length] at e1
      refine ⟨D, _, rfl, SqL.of e1, q _ Hx ?_ (s1.trans u)⟩
      rw [List.any_eq_true]
      constructor
      · rintro ⟨b, hb, e⟩
        obtain ⟨x, hx, ex⟩ := List.mem_map.mp hb
        obtain ⟨y, hy, f', hf, ef⟩ := (mem x).mp hx
        refine ⟨y, hy, f', hf, ?_⟩
        rw [ef, ex]
        exact e
      · rintro ⟨y, hy, f', hf, e⟩
        exact ⟨_, List.mem_map.mpr ⟨f'.1, (mem _).mpr ⟨y, hy, f', hf, rfl⟩, rfl⟩, e⟩
/-- the Sum of a blurred name -/
def spBlurred (K : PySem.W.Frag) (w : World) (C : Addr) : Sp := fun vs H Q _ => ∃ x : Str, vs = [.str x] ∧ x.length < 100 ∧ ∀ p H', SumAt K w C H' p [([((Str.ofString "blurred ").append x, 1)], 1)] → H p = none → Same H H' → Q (.ref p) H'
end
/-! ### dicts of sums -/
def blur (x : Str) : Str := (Str.ofString "blurred ").append x
def nameM (x : Str) : Poly := [([(x, 1)], 1)]
def hangM (M : Poly) : Bool := M.any fun y => y.1.any fun e => isBl e.1
def keepM (x : Str) (M : Poly) : Poly := if hangM M = true then nameM (blur x) else M
theorem hangM_iff {M : Poly} : hangM M = true ↔ ∃ y ∈ M, ∃ e ∈ y.1, isBl e.1 = true := by
  unfold hangM
  rw [List.any_eq_true]
  constructor
  · rintro ⟨y, hy, h⟩
    exact ⟨y, hy, List.any_eq_true.mp h⟩
  · rintro ⟨y, hy, h⟩
    exact ⟨y, hy, List.any_eq_true.mpr h⟩
def onK (ks : List Str) (G : Str → Poly) : Str → Option Poly := fun x => if x ∈ ks then some (G x) else none
theorem onK_in {ks : List Str} {G : Str → Poly} {x : Str} (h : x ∈ ks) : onK ks G x = some (G x) := if_pos h
theorem onK_out {ks : List Str} {G : Str → Poly} {x : Str} (h : x ∉ ks) : onK ks G x = none := if_neg h
def setG (G : Str → Poly) (x : Str) (M : Poly) : Str → Poly := fun y => if y = x then M else G y
theorem SumAt.elseD {K : PySem.W.Frag} {w : World} {C : Addr} {H H' : Hp} {p d : Addr} {M : Poly} {kvs : List (L2.Key × V)} (h : SumAt K w C H p M) (e : Else d H H') (hd : H d = some (.dK kvs)) : SumAt K w C H' p M := h.elseU e hd True.intro (fun _ _ _ z => by cases z) (fun _ _ z => by cases z)
theorem keysD_put {fk : List (L2.Key × V)} {k : L2.Key} (v : V) (h : k ∈ fk.map (·.1)) : (putK fk k v).map (·.1) = fk.map (·.1) := by
  obtain ⟨y, hy, e⟩ := List.mem_map.mp h
  unfold putK
  rw [if_pos (List.any_eq_true.mpr ⟨y, hy, decide_eq_true e⟩), List.map_map]
  refine List.map_congr_left fun z _ => ?_
  show (if z.1 = k then (z.1, v) else z).1 = z.1
  split <;> rfl
structure DS (K : PySem.W.Frag) (w : World) (C : Addr) (H : Hp) (d : Addr) (ks : List Str) (G : Str → Poly) (fk : List (L2.Key × V)) : Prop where
  fill : FillAt K w C H d (onK ks G) fk
  keys : fk.map (·.1) = ks.map Sum.inr
theorem DS.same {K w C H H' d ks G fk} (h : DS K w C H d ks G fk) (s : Same H H') : DS K w C H' d ks G fk := ⟨h.fill.same s, h.keys⟩
theorem DS.len {K w C H d ks G fk} (h : DS K w C H d ks G fk) : fk.length = ks.length := by
  have := congrArg List.length h.keys
  rwa [List.length_map, List.length_map] at this
theorem DS.at_ {K w C H d ks G fk} (h : DS K w C H d ks G fk) {x : Str} (hx : x ∈ ks) : ∃ p, valV fk (.inr x) = some (.ref p) ∧ SumAt K w C H p (G x) := h.fill.yes x _ (onK_in hx)
theorem DS.put {K w C H d ks G fk} (h : DS K w C H d ks G fk) {x : Str} {p : Addr} {M : Poly} (hx : x ∈ ks) (S : SumAt K w C H p M) : DS K w C (upd H d (.dK (putK fk (.inr x) (.ref p)))) d ks (setG G x M) (putK fk (.inr x) (.ref p)) := by
  have e : Else d H (upd H d (.dK (putK fk (.inr x) (.ref p)))) := .upd
  refine ⟨⟨upd_same, fun y hy => ?_, fun y N hy => ?_⟩, ?_⟩
  · have hn : y ∉ ks := fun c => by
      rw [onK_in c] at hy
      cases hy
    rw [valV_put, if_neg (fun z => hn (by rw [Sum.inr.inj z]; exact hx))]
    exact h.fill.no y (onK_out hn)
  · by_cases c : y ∈ ks
    · rw [onK_in c] at hy
      obtain rfl := Option.some.inj hy
      rw [valV_put]
      by_cases z : y = x
      · subst z
        refine ⟨p, if_pos rfl, ?_⟩
        show SumAt K w C _ p (if y = y then M else G y)
        rw [if_pos rfl]
        exact S.elseD e h.fill.d
      · rw [if_neg fun q => z (Sum.inr.inj q)]
        obtain ⟨q, e1, e2⟩ := h.at_ c
        refine ⟨q, e1, ?_⟩
        show SumAt K w C _ q (if y = x then M else G y)
        rw [if_neg z]
        exact e2.elseD e h.fill.d
    · rw [onK_out c] at hy
      cases hy
  · rw [keysD_put, h.keys]
    rw [h.keys]
    exact List.mem_map.mpr ⟨x, hx, rfl⟩
section
variable {P : Program} {w : World} {K : PySem.W.Frag} {mg : Str → Option Value} {base : Heap} {C : Addr}
theorem ok_blurred {f : Addr} {fd : FuncData} (T : Txt K mg C) (F : DefAt K mg "_blurred" "_blurred" s_blurred ["name"] f fd) : FnOk P w K mg base CX0 4 f fd ["name"] (spBlurred K w C) := by
  obtain ⟨f1, fd1, D_sum_of_name⟩ := T.d_sum_of_name
  have G_sum_of_name : FnOk P w K mg base CX0 3 f1 fd1 ["x"] (spName K w C) := ok_sum_of_name T D_sum_of_name
  obtain ⟨u, g_BLURRED, r_BLURRED⟩ := T.c_BLURRED
  refine F.F.ok sc_blurred (fun vs H Q E h => ?_) (fun cdv A outer z H vs Q E hr h => ?_)
  · obtain ⟨x, rfl, _⟩ := h
    rfl
  · obtain ⟨x, rfl, hx, q⟩ := h
    refine ⟨_, (pss_one (ps_ret (pe_call G_sum_of_name (hr.mono (by decide)) (by rfl) D_sum_of_name.g D_sum_of_name.F.kp D_sum_of_name.b .nil pass0 (pa_cons (pe_op op_add_str (pe_glob (v := .str "blurred ") rfl g_BLURRED r_BLURRED) (pv 0)) pa_nil)))), ?_⟩
    refine ⟨_, rfl, _, _, rfl, rfl, ?_, _, rfl, fun p H' S s n => q p H' S n s⟩
    show (8 + x.length) ≤ 16777216
    omega
end
theorem take_str {ks : List Str} {i : Nat} {v : V} (h : (ks.map V.str)[i]? = some v) : ∃ x, ks[i]? = some x ∧ v = .str x := by
  rw [List.getElem?_map] at h
  cases e : ks[i]? with
  | none =>
    rw [e] at h
    cases h
  | some x =>
    rw [e] at h
    exact ⟨x, rfl, (Option.some.inj h).symm⟩
theorem take_one {α : Type} {l : List α} {i : Nat} {x : α} (h : l[i]? = some x) : l.take (i + 1) = l.take i ++ [x] := by
  rw [List.take_add_one, h]
  rfl
theorem not_before {α : Type} {l : List α} (n : l.Nodup) {i : Nat} {x : α} (h : l[i]? = some x) : x ∉ l.take i := fun c => by
  have e := take_one h
  have : (l.take i ++ [x]).Nodup := e ▸ n.sublist (List.take_sublist _ _)
  exact (List.nodup_append.mp this).2.2 _ c _ List.mem_cons_self rfl
/-- a name comes to the dict -/
theorem DS.new {K w C H d ks G fk} (h : DS K w C H d ks G fk) {x : Str} {p : Addr} (hx : x ∉ ks) (S : SumAt K w C H p (G x)) : DS K w C (upd H d (.dK (putK fk (.inr x) (.ref p)))) d (ks ++ [x]) G (putK fk (.inr x) (.ref p)) := by
  have e : Else d H (upd H d (.dK (putK fk (.inr x) (.ref p)))) := .upd
  refine ⟨⟨upd_same, fun y hy => ?_, fun y N hy => ?_⟩, ?_⟩
  · have hn : y ∉ ks ++ [x] := fun c => by
      rw [onK_in c] at hy
      cases hy
    rw [List.mem_append, not_or, List.mem_singleton] at hn
    rw [valV_put, if_neg fun z => hn.2 (Sum.inr.inj z)]
    exact h.fill.no y (onK_out hn.1)
  · by_cases c : y ∈ ks ++ [x]
    · rw [onK_in c] at hy
      obtain rfl := Option.some.inj hy
      rw [valV_put]
      by_cases z : y = x
      · subst z
        exact ⟨p, if_pos rfl, S.elseD e h.fill.d⟩
      · rw [if_neg fun q => z (Sum.inr.inj q)]
        rw [List.mem_append, List.mem_singleton] at c
        obtain ⟨q, e1, e2⟩ := h.at_ (c.resolve_right z)
        exact ⟨q, e1, e2.elseD e h.fill.d⟩
    · rw [onK_out c] at hy
      cases hy
  · rw [putK_new _ (h.fill.no x (onK_out hx)), List.map_append, List.map_append, h.keys]
    rfl
theorem DS.nil {K : PySem.W.Frag} {w : World} {C : Addr} {H : Hp} {d : Addr} {G : Str → Poly} : DS K w C (upd H d (.dK [])) d [] G [] := ⟨⟨upd_same, fun _ _ => rfl, fun x N e => by
  rw [onK_out (List.not_mem_nil)] at e
  cases e⟩, rfl⟩
section
variable {P : Program} {w : World} {K : PySem.W.Frag} {mg : Str → Option Value} {base : Heap} {C : Addr}
def spFirst (K : PySem.W.Frag) (w : World) (C : Addr) : Sp := fun vs H Q _ => ∃ (l : Addr) (ks : List Str), vs = [.ref l] ∧ H l = some (.lst (ks.map V.str)) ∧ ks.Nodup ∧ ks.length < 64 ∧ ∀ d fk H', DS K w C H' d ks nameM fk → Same H H' → H d = none → Q (.ref d) H'
theorem ok_at_first {f : Addr} {fd : FuncData} (T : Txt K mg C) (F : DefAt K mg "at_first" "at_first" s_at_first ["names"] f fd) : FnOk P w K mg base CX0 4 f fd ["names"] (spFirst K w C) := by
  obtain ⟨f1, fd1, D_sum_of_name⟩ := T.d_sum_of_name
  have G_sum_of_name : FnOk P w K mg base CX0 3 f1 fd1 ["x"] (spName K w C) := ok_sum_of_name T D_sum_of_name
  refine F.F.ok sc_at_first (fun vs H Q E h => ?_) (fun cdv A outer z H vs Q E hr h => ?_)
  · obtain ⟨l, ks, rfl, _⟩ := h
    rfl
  · obtain ⟨l, ks, rfl, el, nd, hk, q⟩ := h
    refine ⟨_, (pss_one (ps_ret (pe_dc (own := [("name", 1)]) (g := gName 1) (tt := tYes) rfl sc_at_first.nd (pi_list (pv 0)) (blkOk_by (own := [("name", 1)]) (N := ["names", "name"]) (sc := defScope s_at_first) (by decide +kernel)) (fun _ _ _ _ _ => (pg_name (i := 1) sc_at_first.nd rfl (.inl rfl))) (fun _ _ _ _ _ => pts_nil) (fun _ _ _ _ _ => (pv 1)) (fun _ _ _ _ _ => (pe_call G_sum_of_name (hr.mono (by decide)) (by rfl) D_sum_of_name.g D_sum_of_name.F.kp D_sum_of_name.b .nil pass0 (pa_cons (pv 1) pa_nil)))))), ?_⟩
    refine ⟨_, rfl, l, rfl, ⟨_, SqL.of el⟩, fun D nD => dc_lst (fun i H2 => ∃ fk, DS K w C H2 D (ks.take i) nameM fk ∧ Same H H2) ⟨[], by rw [List.take_zero]; exact .nil, same_upd nD⟩
      (fun i H2 _ ⟨_, _, s⟩ => SqL.of (s _ _ el)) (fun i v H2 hv ⟨fk, S, s⟩ => ?_) (fun H2 ⟨fk, S, s⟩ => ?_)⟩
    · obtain ⟨x, hx, rfl⟩ := take_str hv
      have hi : i < ks.length := (List.getElem?_eq_some_iff.mp hx).1
      refine ⟨rfl, ?_⟩
      unfold tYes
      simp only [↓reduceIte]
      refine ⟨_, rfl, _, rfl, x, rfl, fun p H4 Sp s4 n4 => ?_⟩
      have S4 := S.same s4
      refine ⟨fk, .inr x, rfl, S4.fill.d, by rw [S.len, List.length_take, sizeLine_eq]; omega, putK fk (.inr x) (.ref p), ?_, ?_⟩
      · rw [take_one hx]
        exact S4.new (not_before nd hx) Sp
      · exact Else.fresh nD (s.trans s4) .upd
    · rw [List.length_map, List.take_length] at S
      exact q D fk H2 S s nD
/-- the dict has a name's sum, or the word for it -/
def spKeep (K : PySem.W.Frag) (w : World) (C : Addr) : Sp := fun vs H Q _ => ∃ (d p : Addr) (x : Str) (ks ns : List Str) (G : Str → Poly) (fk : List (L2.Key × V)) (M : Poly), vs = [.ref d, .str x, .ref p] ∧ DS K w C H d ks G fk ∧ x ∈ ks ∧ x.length < 100 ∧ ks.length < 64 ∧ SumAt K w C H p M ∧
  (∀ y ∈ M, Of ns y.1) ∧ ns.length < 32 ∧ ∀ fk' H', DS K w C H' d ks (setG G x (keepM x M)) fk' → Else d H H' → Q .non H'
theorem ok_keep {f : Addr} {fd : FuncData} (T : Txt K mg C) (F : DefAt K mg "_keep" "_keep" s_keep ["sums", "name", "told"] f fd) : FnOk P w K mg base CX0 5 f fd ["sums", "name", "told"] (spKeep K w C) := by
  obtain ⟨f1, fd1, D_hangs_on_blurred⟩ := T.d_hangs_on_blurred
  have G_hangs_on_blurred : FnOk P w K mg base CX0 2 f1 fd1 ["given"] (spHangs K w C) := ok_hangs_on_blurred T D_hangs_on_blurred
  obtain ⟨f2, fd2, D_blurred⟩ := T.d_blurred
  have G_blurred : FnOk P w K mg base CX0 4 f2 fd2 ["name"] (spBlurred K w C) := ok_blurred T D_blurred
  refine F.F.ok sc_keep (fun vs H Q E h => ?_) (fun cdv A outer z H vs Q E hr h => ?_)
  · obtain ⟨d, p, x, ks, ns, G, fk, M, rfl, _⟩ := h
    rfl
  · obtain ⟨d, p, x, ks, ns, G, fk, M, rfl, S, hx, hl, hk, SM, ho, hn, q⟩ := h
    refine ⟨_, (pss_one (ps_if (pt_val (pe_call G_hangs_on_blurred (hr.mono (by decide)) (by rfl) D_hangs_on_blurred.g D_hangs_on_blurred.F.kp D_hangs_on_blurred.b .nil pass0 (pa_cons (pv 2) pa_nil))) (pss_one (ps_dput (room1 hr) (pv 0) (pv 1) (pe_call G_blurred (hr.mono (by decide)) (by rfl) D_blurred.g D_blurred.F.kp D_blurred.b .nil pass0 (pa_cons (pv 1) pa_nil)) rfl)) (pss_one (ps_dput (room1 hr) (pv 0) (pv 1) (pv 2) rfl)))), ?_⟩
    refine ⟨_, rfl, p, M, ns, rfl, SM, ho, hn, fun b H1 hb s1 => ⟨_, rfl, ite2 (fun e => ?_) (fun e => ?_)⟩⟩
    · have hb' : hangM M = true := hangM_iff.mpr (hb.mp e)
      refine ⟨_, rfl, x, rfl, hl, fun p2 H2 S2 n2 s2 => ?_⟩
      have S3 := (S.same s1).same s2
      have q1 : keepM x M = nameM (blur x) := if_pos hb'
      refine ⟨_, rfl, _, rfl, d, _, rfl, DPut.k (k := .inr x) S3.fill.d (by rw [S3.len, sizeLine_eq]; omega), q (putK fk (.inr x) (.ref p2)) _ ?_ ((Same.else (s1.trans s2)).trans .upd)⟩
      rw [q1]
      exact S3.put hx S2
    · have hb' : ¬ hangM M = true := fun c => by
        exact e (hb.mpr (hangM_iff.mp c))
      have S3 := S.same s1
      have q1 : keepM x M = M := if_neg hb'
      refine ⟨_, rfl, _, rfl, _, rfl, d, _, rfl, DPut.k (k := .inr x) S3.fill.d (by rw [S3.len, sizeLine_eq]; omega), q (putK fk (.inr x) (.ref p)) _ ?_ ((Same.else s1).trans .upd)⟩
      rw [q1]
      exact S3.put hx (SM.same s1)
def spDoSet (K : PySem.W.Frag) (w : World) (C : Addr) : Sp := fun vs H Q _ => ∃ (d q0 pe : Addr) (x : Str) (t : Ex) (ks ns ms : List Str) (G : Str → Poly) (fk : List (L2.Key × V)) (m D0 S0 n S top : Nat), vs = [.ref d, .ref q0] ∧ DS K w C H d ks G fk ∧ x ∈ ks ∧ x.length < 100 ∧ ks.length < 64 ∧
  SqT K H q0 [.str "set", .str x, .ref pe] ∧ ExAt K H pe t ∧ ExOk ns 5 t ∧ ns.length < 32 ∧ ms.length < 32 ∧ InFit ms (onK ks G) (polyE t) m D0 S0 n S top ∧
  ∀ fk' H', DS K w C H' d ks (setG G x (keepM x (putInM (onK ks G) (polyE t)))) fk' → Else d H H' → Q .non H'
theorem ok_do_set {f : Addr} {fd : FuncData} (T : Txt K mg C) (F : DefAt K mg "do_set" "do_set" s_do_set ["sums", "statement"] f fd) : FnOk P w K mg base CX0 13 f fd ["sums", "statement"] (spDoSet K w C) := by
  obtain ⟨f1, fd1, D_keep⟩ := T.d_keep
  have G_keep : FnOk P w K mg base CX0 5 f1 fd1 ["sums", "name", "told"] (spKeep K w C) := ok_keep T D_keep
  obtain ⟨f2, fd2, D_put_in⟩ := T.d_put_in
  have G_put_in : FnOk P w K mg base CX0 7 f2 fd2 ["given", "filling"] (spPutIn K w C) := ok_put_in T D_put_in
  obtain ⟨f3, fd3, D_sum_told⟩ := T.d_sum_told
  have G_sum_told : FnOk P w K mg base CX0 12 f3 fd3 ["expression"] (spTold K w C 6) := ok_sum_told T D_sum_told 6
  refine F.F.ok sc_do_set (fun vs H Q E h => ?_) (fun cdv A outer z H vs Q E hr h => ?_)
  · obtain ⟨d, q0, pe, x, t, ks, ns, ms, G, fk, m, D0, S0, n, S, top, rfl, _⟩ := h
    rfl
  · obtain ⟨d, q0, pe, x, t, ks, ns, ms, G, fk, m, D0, S0, n, S, top, rfl, DD, hx, hl, hk, tq, te, ok, hn, hm, ff, q⟩ := h
    refine ⟨_, (pss_one (ps_expr (pe_call G_keep (hr.mono (by decide)) (by rfl) D_keep.g D_keep.F.kp D_keep.b .nil pass0 (pa_cons (pv 0) (pa_cons (pe_ix ix_tup (pv 1) pe_int (fun _ _ => rfl)) (pa_cons (pe_call G_put_in (hr.mono (by decide)) (by rfl) D_put_in.g D_put_in.F.kp D_put_in.b .nil pass0 (pa_cons (pe_call G_sum_told (hr.mono (by decide)) (by rfl) D_sum_told.g D_sum_told.F.kp D_sum_told.b .nil pass0 (pa_cons (pe_ix ix_tup (pv 1) pe_int (fun _ _ => rfl)) pa_nil)) (pa_cons (pv 0) pa_nil))) pa_nil)))))), ?_⟩
    refine ⟨_, rfl, _, rfl, q0, _, _, _, rfl, rfl, tq, atI_nat (j := 1) rfl, _, rfl, q0, _, _, _, rfl, rfl, tq, atI_nat (j := 2) rfl, pe, t, ns, rfl, te, ok, Nat.le_refl _, hn, fun p1 H1 S1 s1 n1 => ?_⟩
    refine ⟨_, rfl, p1, d, _, _, fk, ms, m, D0, S0, n, S, top, rfl, S1, DD.fill.same s1, ff, fun p2 H2 S2 s2 n2 => ?_⟩
    have s12 := s1.trans s2
    refine ⟨d, p2, x, ks, ms, G, fk, _, rfl, DD.same s12, hx, hl, hk, S2, ff.res.good.pr, hm, fun fk' H' DD' e => ?_⟩
    exact q fk' H' DD' ((Same.else s12).trans e)
end
/-! ### what a row without laps does -/
def rowG (ks : List Str) : Rw → (Str → Poly) → Str → Poly
  | .nil, G => G
  | .set x e r, G => rowG ks r (setG G x (keepM x (putInM (onK ks G) (polyE e))))
  | .say _ r, G => rowG ks r G
  | .lap _ _ _ r, G => rowG ks r G
def RowFit (ns ms ks : List Str) : Rw → (Str → Poly) → Prop
  | .nil, _ => True
  | .set x e r, G => x ∈ ks ∧ x.length < 100 ∧ ExOk ns 5 e ∧ (∃ m D0 S0 n S top : Nat, InFit ms (onK ks G) (polyE e) m D0 S0 n S top) ∧ RowFit ns ms ks r (setG G x (keepM x (putInM (onK ks G) (polyE e))))
  | .say _ r, G => RowFit ns ms ks r G
  | .lap _ _ _ _, _ => False
section
variable {P : Program} {w : World} {K : PySem.W.Frag} {mg : Str → Option Value} {base : Heap} {C : Addr}
def spNever : Sp := fun _ _ _ _ => False
theorem ok_never {f : Addr} {fd : FuncData} {k : Nat} {ps : List Str} : FnOk P w K mg base CX0 k f fd ps spNever := ⟨fun _ _ _ _ h => False.elim h, fun _ _ _ _ _ _ _ _ _ _ _ _ _ h => False.elim h⟩
def spBehind0 (K : PySem.W.Frag) (w : World) (C : Addr) : Sp := fun vs H Q _ => ∃ (p l : Addr) (r : Rw) (ks ns ms : List Str), vs = [.ref p, .ref l] ∧ RwAt K H p r ∧ H l = some (.lst (ks.map V.str)) ∧ ks.Nodup ∧ ks.length < 64 ∧ ns.length < 32 ∧ ms.length < 32 ∧ RowFit ns ms ks r nameM ∧
  ∀ d fk H', DS K w C H' d ks (rowG ks r nameM) fk → Same H H' → H d = none → Q (.ref d) H'
theorem ok_behind0 {f : Addr} {fd : FuncData} (T : Txt K mg C) (F : DefAt K mg "_behind" "_behind" s_behind ["row", "names"] f fd) : FnOk P w K mg base CX0 14 f fd ["row", "names"] (spBehind0 K w C) := by
  obtain ⟨f1, fd1, D_at_first⟩ := T.d_at_first
  have G_at_first : FnOk P w K mg base CX0 4 f1 fd1 ["names"] (spFirst K w C) := ok_at_first T D_at_first
  obtain ⟨f2, fd2, D_do_set⟩ := T.d_do_set
  have G_do_set : FnOk P w K mg base CX0 13 f2 fd2 ["sums", "statement"] (spDoSet K w C) := ok_do_set T D_do_set
  obtain ⟨f3, fd3, D_do_lap⟩ := T.d_do_lap
  have G_do_lap : FnOk P w K mg base CX0 13 f3 fd3 ["sums", "lap", "turn"] spNever := ok_never
  obtain ⟨f4, fd4, D_behind_turn⟩ := T.d_behind_turn
  have G_behind_turn : FnOk P w K mg base CX0 13 f4 fd4 ["lap"] spNever := ok_never
  refine F.F.ok sc_behind (fun vs H Q E h => ?_) (fun cdv A outer z H vs Q E hr h => ?_)
  · obtain ⟨p, l, r, ks, ns, ms, rfl, _⟩ := h
    rfl
  · obtain ⟨p, l, r, ks, ns, ms, rfl, rat, el, nd, hk, hn, hm, ff, q⟩ := h
    refine ⟨_, (pss_cons (ps_set (i := 2) sc_behind.nd rfl (.inl rfl) (pe_call G_at_first (hr.mono (by decide)) (by rfl) D_at_first.g D_at_first.F.kp D_at_first.b .nil pass0 (pa_cons (pv 1) pa_nil)))
      (pss_cons (ps_for PassesOwn.never rfl (pi_tup (pe_ix ix_tup (pv 0) pe_int (fun _ _ => rfl))) (pg_name (i := 3) sc_behind.nd rfl (.inl rfl)) (pss_one (ps_if (pt_cmpR op_eq (pe_ix ix_tup (pv 3) pe_int (fun _ _ => rfl)) pe_str (nomark _)) (pss_one (ps_expr (pe_call G_do_set (hr.mono (by decide)) (by rfl) D_do_set.g D_do_set.F.kp D_do_set.b .nil pass0 (pa_cons (pv 2) (pa_cons (pv 3) pa_nil))))) (pss_one (ps_if (pt_cmpR op_eq (pe_ix ix_tup (pv 3) pe_int (fun _ _ => rfl)) pe_str (nomark _)) (pss_one (ps_expr (pe_call G_do_lap (hr.mono (by decide)) (by rfl) D_do_lap.g D_do_lap.F.kp D_do_lap.b .nil pass0 (pa_cons (pv 2) (pa_cons (pv 3) (pa_cons (pe_call G_behind_turn (hr.mono (by decide)) (by rfl) D_behind_turn.g D_behind_turn.F.kp D_behind_turn.b .nil pass0 (pa_cons (pv 3) pa_nil)) pa_nil)))))) pss_nil)))))
      (pss_one (ps_ret (pv 2))))), ?_⟩
    obtain ⟨pt, qs, a1, a2, a3⟩ := rat
    refine ⟨_, rfl, l, ks, rfl, el, nd, hk, fun d fk0 H1 D1 s1 n1 => ?_⟩
    have t1 := TupsStay.same s1
    refine ⟨_, rfl, p, _, _, _, rfl, rfl, SqT.keeps a1 t1, atI_nat (j := 1) rfl, pt, rfl, ⟨_, SqT.keeps a2 t1⟩, for_tup (K := K) (a := pt) (xs := qs.map V.ref) (fun i σ H2 => ∃ (v3 : Option V) (G : Str → Poly) (fk : List (L2.Key × V)) (r2 : Rw), σ = [some (.ref p), some (.ref l), some (.ref d), v3] ∧ DS K w C H2 d ks G fk ∧ Else d H1 H2 ∧ StsAt K H2 r2 (qs.drop i) ∧ RowFit ns ms ks r2 G ∧ rowG ks r2 G = rowG ks r nameM)
      ⟨none, nameM, fk0, r, rfl, D1, .refl d H1, a3.stay t1, ff, rfl⟩ (fun i σ H2 _ h => ?_) ?_ ?_⟩
    · obtain ⟨_, _, _, _, _, _, s2, _⟩ := h
      exact SqT.keeps a2 (t1.trans (s2.tups D1.fill.d True.intro))
    · rintro i x σ H2 hx ⟨v3, G, fk, r2, rfl, D2, s2, st, f2, eq⟩
      rw [List.getElem?_map] at hx
      cases hy : qs[i]? with
      | none =>
        rw [hy] at hx
        cases hx
      | some q1 =>
        rw [hy] at hx
        cases hx
        obtain ⟨hi, hq⟩ := List.getElem?_eq_some_iff.mp hy
        rw [List.drop_eq_getElem_cons hi, hq] at st
        cases r2 with
        | nil => cases st
        | say e r3 =>
          obtain ⟨q2, t2, pe, e1, b1, b2, b3⟩ := st
          obtain ⟨z1, z2⟩ := List.cons.inj e1
          subst z1 z2
          refine ⟨_, rfl, q1, _, _, _, rfl, rfl, b1, atI_nat (j := 0) rfl, rfl, _, rfl, ite2 (fun c => absurd c (by decide)) (fun c => ?_)⟩
          refine ⟨_, rfl, q1, _, _, _, rfl, rfl, b1, atI_nat (j := 0) rfl, rfl, _, rfl, ite2 (fun c => absurd c (by decide)) (fun c => ?_)⟩
          exact ⟨_, G, fk, r3, rfl, D2, s2, b3, f2, eq⟩
        | set x e r3 =>
          obtain ⟨q2, t2, pe, e1, b1, b2, b3⟩ := st
          obtain ⟨z1, z2⟩ := List.cons.inj e1
          subst z1 z2
          obtain ⟨o1, o2, o3, ⟨m, D0, S0, n, S, top, o4⟩, o5⟩ := f2
          refine ⟨_, rfl, q1, _, _, _, rfl, rfl, b1, atI_nat (j := 0) rfl, rfl, _, rfl, ite2 (fun c => ?_) (fun c => absurd (by decide) c)⟩
          refine ⟨_, rfl, _, rfl, d, q1, pe, x, e, ks, ns, ms, G, fk, m, D0, S0, n, S, top, rfl, D2, o1, o2, hk, b1, b2, o3, hn, hm, o4, fun fk' H3 D3 s3 => ?_⟩
          exact ⟨_, _, fk', r3, rfl, D3, s2.trans s3, b3.stay (s3.tups D2.fill.d True.intro), o5, eq⟩
        | lap x m b r3 => exact False.elim f2
    · rintro σ H2 ⟨v3, G, fk, r2, rfl, D2, s2, st, f2, eq⟩
      rw [List.length_map, List.drop_length] at st
      have z : r2 = .nil := by
        cases r2 with
        | nil => rfl
        | set x e r => obtain ⟨_, _, _, z, _⟩ := st; cases z
        | say e r => obtain ⟨_, _, _, z, _⟩ := st; cases z
        | lap x m b r => obtain ⟨_, _, _, _, _, _, z, _⟩ := st; cases z
      subst z
      have eq : G = rowG ks r nameM := eq
      subst eq
      exact ⟨_, rfl, q d fk H2 D2 (Else.fresh n1 s1 s2) n1⟩
end
/-! ### what a row may set -/
def setsR : Rw → List Str
  | .nil => []
  | .set x _ r => x :: setsR r
  | .say _ r => setsR r
  | .lap x _ b r => x :: (setsR b ++ setsR r)
theorem setsR_in {ns : List Str} : ∀ {r : Rw} {d : Nat}, RwOk ns r d → ∀ x ∈ setsR r, x ∈ ns
  | .nil, _, _, _, h => nomatch h
  | .set x _ r, _, ⟨a, _, c⟩, y, h => (List.mem_cons.mp h).elim (fun e => e ▸ a) (setsR_in c y)
  | .say _ r, _, ⟨_, c⟩, y, h => setsR_in c y h
  | .lap x _ b r, _, ⟨a, _, _, _, e, f⟩, y, h => (List.mem_cons.mp h).elim (fun z => z ▸ a) fun z => (List.mem_append.mp z).elim (setsR_in e y) (setsR_in f y)
section
variable {P : Program} {w : World} {K : PySem.W.Frag} {mg : Str → Option Value} {base : Heap} {C : Addr}
def spMaySet (K : PySem.W.Frag) : Nat → Sp
  | 0 => fun _ _ _ _ => False
  | n + 1 => fun vs H Q _ => ∃ (p : Addr) (r : Rw) (ns : List Str), vs = [.ref p] ∧ RwAt K H p r ∧ RwOk ns r n ∧ ns.length < 64 ∧ ∀ (l : List Str) (q : Addr) (H' : Hp), l.Pairwise slt → (∀ x, x ∈ l ↔ x ∈ setsR r) → H' q = some (.lst (l.map V.str)) → Same H H' → H q = none → Q (.ref q) H'
set_option maxHeartbeats 4000000 in
theorem ok_may_set {f : Addr} {fd : FuncData} (T : Txt K mg C) (F : DefAt K mg "_may_set" "_may_set" s_may_set ["row"] f fd) : ∀ n, FnOk P w K mg base CX0 (n + 2) f fd ["row"] (spMaySet K n)
  | 0 => ⟨fun _ _ _ _ h => False.elim h, fun _ _ _ _ _ _ _ _ _ _ _ _ _ h => False.elim h⟩
  | n + 1 => by
    have G_may_set := ok_may_set T F n
    have D_may_set := F
    refine F.F.ok sc_may_set (fun vs H Q E h => ?_) (fun cdv A outer s H vs Q E hr h => ?_)
    · obtain ⟨p, r, ns, rfl, _⟩ := h
      rfl
    · obtain ⟨p, r, ns, rfl, rat, ok, hns, q⟩ := h
      refine ⟨_, (pss_cons (ps_set (i := 1) sc_may_set.nd rfl (.inl rfl) pe_dnewK)
      (pss_cons (ps_for PassesOwn.never rfl (pi_tup (pe_ix ix_tup (pv 0) pe_int (fun _ _ => rfl))) (pg_name (i := 2) sc_may_set.nd rfl (.inl rfl)) (pss_cons (ps_if (pt_cmpR op_ne (pe_ix ix_tup (pv 2) pe_int (fun _ _ => rfl)) pe_str (nomark _)) (pss_one (ps_dput (room1 hr) (pv 1) (pe_ix ix_tup (pv 2) pe_int (fun _ _ => rfl)) pe_bl rfl)) pss_nil) (pss_one (ps_if (pt_cmpR op_eq (pe_ix ix_tup (pv 2) pe_int (fun _ _ => rfl)) pe_str (nomark _)) (pss_one (ps_for PassesOwn.never rfl (pi_list (pe_call G_may_set (hr.mono (by omega)) (by rfl) D_may_set.g D_may_set.F.kp D_may_set.b .nil pass0 (pa_cons (pe_ix ix_tup (pv 2) pe_int (fun _ _ => rfl)) pa_nil))) (pg_name (i := 3) sc_may_set.nd rfl (.inl rfl)) (pss_one (ps_dput (room1 hr) (pv 1) (pv 3) pe_bl rfl)))) pss_nil))))
      (pss_one (ps_ret (pe_callB (cr_sortedDS rfl) (by rfl) T.m_sorted (by decide +kernel) (pa_cons (pv 1) pa_nil)))))), ?_⟩
      intro d nd
      have s0 : Same H (upd H d (.dK [])) := same_upd nd
      have ed0 : (upd H d (.dK [])) d = some (.dK (dT [])) := upd_same
      generalize upd H d (.dK []) = H0 at s0 ed0
      have fw0 : Few ns [] := ⟨List.nodup_nil, (fun _ h => nomatch h)⟩
      obtain ⟨pt, qs, a1, a2, a3⟩ := rat.stay (TupsStay.same s0)
      refine ⟨_, rfl, p, _, _, _, rfl, rfl, a1, atI_nat (j := 1) rfl, pt, rfl, ⟨_, a2⟩, for_tup (K := K) (a := pt) (xs := qs.map V.ref) (fun i σ H2 => ∃ (v2 v3 : Option V) (L2 : List Str) (r2 : Rw), σ = [some (.ref p), some (.ref d), v2, v3] ∧ H2 d = some (.dK (dT L2)) ∧ Few ns L2 ∧ Else d H0 H2 ∧ StsAt K H2 r2 (qs.drop i) ∧ RwOk ns r2 n ∧ ∀ x, x ∈ setsR r ↔ x ∈ L2 ∨ x ∈ setsR r2)
        ⟨none, none, [], r, rfl, ed0, fw0, .refl d H0, a3, ok, fun x => by simp⟩ (fun i σ H2 _ h => ?_) ?_ ?_⟩
      · obtain ⟨_, _, _, _, _, _, _, s2, _⟩ := h
        exact SqT.keeps a2 (s2.tups ed0 True.intro)
      · rintro i x σ H2 hx ⟨v2, v3, L2, r2, rfl, e2, fw2, s2, st, ok2, eq⟩
        rw [List.getElem?_map] at hx
        cases hy : qs[i]? with
        | none =>
          rw [hy] at hx
          cases hx
        | some q1 =>
          rw [hy] at hx
          cases hx
          obtain ⟨hi, hq⟩ := List.getElem?_eq_some_iff.mp hy
          rw [List.drop_eq_getElem_cons hi, hq] at st
          have len2 : (dT L2).length < sizeLine := by
            rw [dT_len, sizeLine_eq]
            have := fw2.len
            omega
          cases r2 with
          | nil => cases st
          | say e r3 =>
            obtain ⟨q2, t2, pe, e1, b1, b2, b3⟩ := st
            obtain ⟨z1, z2⟩ := List.cons.inj e1
            subst z1 z2
            obtain ⟨o2, o3⟩ := ok2
            refine ⟨_, rfl, q1, _, _, _, rfl, rfl, b1, atI_nat (j := 0) rfl, rfl, _, rfl, ite2 (fun c => absurd c (by decide)) (fun c => ?_)⟩
            refine ⟨_, rfl, q1, _, _, _, rfl, rfl, b1, atI_nat (j := 0) rfl, rfl, _, rfl, ite2 (fun c => absurd c (by decide)) (fun c => ?_)⟩
            exact ⟨_, _, L2, r3, rfl, e2, fw2, s2, b3, o3, eq⟩
          | set x e r3 =>
            obtain ⟨q2, t2, pe, e1, b1, b2, b3⟩ := st
            obtain ⟨z1, z2⟩ := List.cons.inj e1
            subst z1 z2
            obtain ⟨o1, o2, o3⟩ := ok2
            refine ⟨_, rfl, q1, _, _, _, rfl, rfl, b1, atI_nat (j := 0) rfl, rfl, _, rfl, ite2 (fun c => ?_) (fun c => absurd (by decide) c)⟩
            refine ⟨_, rfl, _, rfl, q1, _, _, _, rfl, rfl, b1, atI_nat (j := 1) rfl, d, _, rfl, DPut.k (k := .inr x) e2 len2, ?_⟩
            rw [dT_put]
            have s4 : Else d H2 (upd H2 d (.dK (dT (insT L2 x)))) := .upd
            have t4 := s4.tups e2 True.intro
            refine ⟨_, rfl, q1, _, _, _, rfl, rfl, SqT.keeps b1 t4, atI_nat (j := 0) rfl, rfl, _, rfl, ite2 (fun c => absurd c (by decide)) (fun c => ?_)⟩
            refine ⟨_, _, insT L2 x, r3, rfl, upd_same, fw2.put o1, s2.trans s4, b3.stay t4, o3, fun y => ?_⟩
            rw [eq y, insT_mem]
            show _ ∨ y ∈ x :: setsR r3 ↔ _
            rw [List.mem_cons, or_assoc]
          | lap x m b r3 =>
            obtain ⟨q2, t2, pm, pb, pt2, qb, e1, b1, bm, c1, c2, bb, b3⟩ := st
            obtain ⟨z1, z2⟩ := List.cons.inj e1
            subst z1 z2
            obtain ⟨o1, o2, n1, _, o4, o3⟩ := ok2
            cases n with
            | zero => exact absurd n1 (by decide)
            | succ n =>
              refine ⟨_, rfl, q1, _, _, _, rfl, rfl, b1, atI_nat (j := 0) rfl, rfl, _, rfl, ite2 (fun c => ?_) (fun c => absurd (by decide) c)⟩
              refine ⟨_, rfl, _, rfl, q1, _, _, _, rfl, rfl, b1, atI_nat (j := 1) rfl, d, _, rfl, DPut.k (k := .inr x) e2 len2, ?_⟩
              rw [dT_put]
              have s4 : Else d H2 (upd H2 d (.dK (dT (insT L2 x)))) := .upd
              have t4 := s4.tups e2 True.intro
              have e4 : (upd H2 d (.dK (dT (insT L2 x)))) d = some (.dK (dT (insT L2 x))) := upd_same
              have fw4 := fw2.put o1
              refine ⟨_, rfl, q1, _, _, _, rfl, rfl, SqT.keeps b1 t4, atI_nat (j := 0) rfl, rfl, _, rfl, ite2 (fun c => ?_) (fun c => absurd (by decide) c)⟩
              generalize upd H2 d (.dK (dT (insT L2 x))) = H4 at s4 t4 e4
              refine ⟨_, rfl, q1, _, _, _, rfl, rfl, SqT.keeps b1 t4, atI_nat (j := 3) rfl, pb, b, ns, rfl, ⟨pt2, qb, SqT.keeps c1 t4, SqT.keeps c2 t4, bb.stay t4⟩, o4, hns, fun l ql H5 so mem e5 s5 n5 => ?_⟩
              have s25 := (s2.trans s4).same s5
              have dl : ql ≠ d := (ne_of_none e4 n5).symm
              refine ⟨ql, rfl, ⟨_, SqL.of e5⟩, for_list (K := K) (a := ql) (xs := l.map V.str) (fun i σ H6 => ∃ (v3 : Option V), σ = [some (.ref p), some (.ref d), some (.ref q1), v3] ∧ H6 d = some (.dK (dT (insA (insT L2 x) (l.take i)))) ∧ Else d H5 H6)
                ⟨v3, rfl, by rw [List.take_zero]; exact s5 _ _ e4, .refl d H5⟩ (fun i σ H6 _ ⟨_, _, _, z⟩ => SqL.of (z _ _ e5 dl)) (fun i v σ H6 hv ⟨v3, hs, e6, s6⟩ => ?_) (fun σ H6 ⟨v3, hs, e6, s6⟩ => ?_)⟩
              · subst hs
                obtain ⟨y, hy2, rfl⟩ := take_str hv
                have my : y ∈ ns := setsR_in o4 y ((mem y).mp (List.mem_of_getElem? hy2))
                have fw6 : Few ns (insA (insT L2 x) (l.take i)) := fw4.all fun z hz => setsR_in o4 z ((mem z).mp (List.mem_of_mem_take hz))
                have len6 : (dT (insA (insT L2 x) (l.take i))).length < sizeLine := by
                  rw [dT_len, sizeLine_eq]
                  have := fw6.len
                  omega
                refine ⟨_, rfl, _, rfl, d, _, rfl, DPut.k (k := .inr y) e6 len6, ?_⟩
                rw [dT_put]
                refine ⟨_, rfl, ?_, s6.trans .upd⟩
                rw [take_one hy2, insA_append]
                exact upd_same
              · subst hs
                rw [List.length_map, List.take_length] at e6
                have t6 := s6.tups (s5 _ _ e4) True.intro
                have t25 := (t4.trans (TupsStay.same s5)).trans t6
                refine ⟨_, _, insA (insT L2 x) l, r3, rfl, e6, fw4.all fun z hz => setsR_in o4 z ((mem z).mp hz), s25.trans s6, b3.stay t25, o3, fun y => ?_⟩
                rw [eq y, insA_mem, insT_mem, mem y]
                show _ ∨ y ∈ x :: (setsR b ++ setsR r3) ↔ _
                rw [List.mem_cons, List.mem_append]
                simp only [or_assoc]
      · rintro σ H2 ⟨v2, v3, L2, r2, rfl, e2, fw2, s2, st, ok2, eq⟩
        rw [List.length_map, List.drop_length] at st
        have z : r2 = .nil := by
          cases r2 with
          | nil => rfl
          | set x e r => obtain ⟨_, _, _, z, _⟩ := st; cases z
          | say e r => obtain ⟨_, _, _, z, _⟩ := st; cases z
          | lap x m b r => obtain ⟨_, _, _, _, _, _, z, _⟩ := st; cases z
        subst z
        have lf := fw2.len
        refine ⟨_, rfl, d, dT L2, L2, rfl, e2, by rw [dT, List.map_map]; rfl, fw2.nd, by omega, fun l' p' pm so np => ?_⟩
        have s02 : Same H H2 := Else.fresh nd s0 s2
        refine q l' p' _ so (fun x => ?_) upd_same (s02.trans (same_upd np)) (s02.free np)
        rw [pm.mem_iff, eq x]
        simp [setsR]
end
/-! ### a lap that isn't even: what it may set is blurred -/
section
variable {P : Program} {w : World} {K : PySem.W.Frag} {mg : Str → Option Value} {base : Heap} {C : Addr}
def spEven (K : PySem.W.Frag) (w : World) (C : Addr) : Sp := fun vs H Q _ => ∃ (d : Addr) (x : Str) (ks : List Str) (G : Str → Poly) (fk : List (L2.Key × V)), vs = [.str x, .ref d] ∧ DS K w C H d ks G fk ∧ x ∈ ks ∧ ∀ H', Same H H' → Q (.bl (eqM (G x) (nameM x))) H'
theorem ok_is_even {f : Addr} {fd : FuncData} (T : Txt K mg C) (F : DefAt K mg "is_even" "is_even" s_is_even ["guard", "turn"] f fd) : FnOk P w K mg base CX0 4 f fd ["guard", "turn"] (spEven K w C) := by
  obtain ⟨f1, fd1, D_sum_of_name⟩ := T.d_sum_of_name
  have G_sum_of_name : FnOk P w K mg base CX0 3 f1 fd1 ["x"] (spName K w C) := ok_sum_of_name T D_sum_of_name
  obtain ⟨f2, fd2, D_same⟩ := T.d_same
  have G_same : FnOk P w K mg base CX0 1 f2 fd2 ["one", "other"] (spSame K w C) := ok_same T D_same
  refine F.F.ok sc_is_even (fun vs H Q E h => ?_) (fun cdv A outer z H vs Q E hr h => ?_)
  · obtain ⟨d, x, ks, G, fk, rfl, _⟩ := h
    rfl
  · obtain ⟨d, x, ks, G, fk, rfl, D, hx, q⟩ := h
    refine ⟨_, (pss_one (ps_ret (pe_call G_same (hr.mono (by decide)) (by rfl) D_same.g D_same.F.kp D_same.b .nil pass0 (pa_cons (pe_dget (room1 hr) (pv 1) (pv 0) (fun _ _ => rfl)) (pa_cons (pe_call G_sum_of_name (hr.mono (by decide)) (by rfl) D_sum_of_name.g D_sum_of_name.F.kp D_sum_of_name.b .nil pass0 (pa_cons (pv 0) pa_nil)) pa_nil))))), ?_⟩
    obtain ⟨p, e1, S1⟩ := D.at_ hx
    have g1 : DGet H d (.str x) (some (.ref p)) := by
      rw [← e1]
      exact DGet.k (k := .inr x) D.fill.d
    refine ⟨_, rfl, _, rfl, d, _, rfl, g1, _, rfl, x, rfl, fun p2 H2 S2 s2 n2 => ?_⟩
    exact ⟨p, p2, _, _, rfl, S1.same s2, S2, q H2 s2⟩
/-- these names blurred -/
def blurG (l : List Str) (G : Str → Poly) : Str → Poly := fun y => if y ∈ l then nameM (blur y) else G y
theorem keep_blur (x : Str) : keepM x (nameM (blur x)) = nameM (blur x) := by
  unfold keepM
  split <;> rfl
theorem blurG_nil (G : Str → Poly) : blurG [] G = G := funext fun y => if_neg List.not_mem_nil
theorem blurG_snoc (l : List Str) (x : Str) (G : Str → Poly) : setG (blurG l G) x (nameM (blur x)) = blurG (l ++ [x]) G := funext fun y => by
  unfold setG blurG
  by_cases z : y = x
  · rw [if_pos z, if_pos (List.mem_append_right _ (by rw [z]; exact List.mem_singleton_self _)), z]
  · rw [if_neg z]
    by_cases c : y ∈ l
    · rw [if_pos c, if_pos (List.mem_append_left _ c)]
    · rw [if_neg c, if_neg fun q => (List.mem_append.mp q).elim c fun k => z (List.mem_singleton.mp k)]
def spDoLap0 (K : PySem.W.Frag) (w : World) (C : Addr) (n : Nat) : Sp := fun vs H Q _ => ∃ (d q0 dt pm pb : Addr) (g : Str) (me : Ex) (b : Rw) (ks ns kt : List Str) (G Gt : Str → Poly) (fk ft : List (L2.Key × V)), vs = [.ref d, .ref q0, .ref dt] ∧ DS K w C H d ks G fk ∧ DS K w C H dt kt Gt ft ∧ g ∈ ks ∧ g ∈ kt ∧ ks.length < 64 ∧
  SqT K H q0 [.str "lap", .str g, .ref pm, .ref pb] ∧ RwAt K H pb b ∧ RwOk ns b n ∧ ns.length < 64 ∧ (∀ x ∈ setsR b, x ∈ ks ∧ x.length < 90) ∧ eqM (Gt g) (nameM g) = false ∧
  ∀ l fk' H', (∀ x, x ∈ l ↔ x ∈ setsR b) → DS K w C H' d ks (setG (blurG l G) g (addM [] [] ((0 : Int) : Rat))) fk' → Else d H H' → Q .non H'
theorem ok_do_lap0 {f : Addr} {fd : FuncData} (T : Txt K mg C) (F : DefAt K mg "do_lap" "do_lap" s_do_lap ["sums", "lap", "turn"] f fd) (n : Nat) : FnOk P w K mg base CX0 (n + 8) f fd ["sums", "lap", "turn"] (spDoLap0 K w C n) := by
  obtain ⟨f1, fd1, D_is_even⟩ := T.d_is_even
  have G_is_even : FnOk P w K mg base CX0 4 f1 fd1 ["guard", "turn"] (spEven K w C) := ok_is_even T D_is_even
  obtain ⟨f2, fd2, D_ends_of_even⟩ := T.d_ends_of_even
  have G_ends_of_even : FnOk P w K mg base CX0 4 f2 fd2 ["guard", "turn", "ahead"] spNever := ok_never
  obtain ⟨f3, fd3, D_may_set⟩ := T.d_may_set
  have G_may_set : FnOk P w K mg base CX0 (n + 3) f3 fd3 ["row"] (spMaySet K (n + 1)) := ok_may_set T D_may_set (n + 1)
  obtain ⟨f4, fd4, D_keep⟩ := T.d_keep
  have G_keep : FnOk P w K mg base CX0 5 f4 fd4 ["sums", "name", "told"] (spKeep K w C) := ok_keep T D_keep
  obtain ⟨f5, fd5, D_blurred⟩ := T.d_blurred
  have G_blurred : FnOk P w K mg base CX0 4 f5 fd5 ["name"] (spBlurred K w C) := ok_blurred T D_blurred
  obtain ⟨f6, fd6, D_sum_of_number⟩ := T.d_sum_of_number
  have G_sum_of_number : FnOk P w K mg base CX0 4 f6 fd6 ["n"] (spNumber K w C) := ok_sum_of_number T D_sum_of_number
  refine F.F.ok sc_do_lap (fun vs H Q E h => ?_) (fun cdv A outer z H vs Q E hr h => ?_)
  · obtain ⟨d, q0, dt, pm, pb, g, me, b, ks, ns, kt, G, Gt, fk, ft, rfl, _⟩ := h
    rfl
  · obtain ⟨d, q0, dt, pm, pb, g, me, b, ks, ns, kt, G, Gt, fk, ft, rfl, D, Dt, hg, hgt, hk, tq, rb, ok, hns, hs, ne, q⟩ := h
    refine ⟨_, (pss_cons (ps_set (i := 3) sc_do_lap.nd rfl (.inl rfl) (pe_ix ix_tup (pv 1) pe_int (fun _ _ => rfl)))
      (pss_cons (ps_set (i := 4) sc_do_lap.nd rfl (.inl rfl) pe_dnewK)
      (pss_cons (ps_if (pt_val (pe_call G_is_even (hr.mono (by omega)) (by rfl) D_is_even.g D_is_even.F.kp D_is_even.b .nil pass0 (pa_cons (pv 3) (pa_cons (pv 2) pa_nil)))) (pss_one (ps_set (i := 4) sc_do_lap.nd rfl (.inl rfl) (pe_call G_ends_of_even (hr.mono (by omega)) (by rfl) D_ends_of_even.g D_ends_of_even.F.kp D_ends_of_even.b .nil pass0 (pa_cons (pv 3) (pa_cons (pv 2) (pa_cons (pv 0) pa_nil)))))) pss_nil)
      (pss_cons (ps_for PassesOwn.never rfl (pi_list (pe_call G_may_set (hr.mono (by omega)) (by rfl) D_may_set.g D_may_set.F.kp D_may_set.b .nil pass0 (pa_cons (pe_ix ix_tup (pv 1) pe_int (fun _ _ => rfl)) pa_nil))) (pg_name (i := 5) sc_do_lap.nd rfl (.inl rfl)) (pss_one (ps_expr (pe_call G_keep (hr.mono (by omega)) (by rfl) D_keep.g D_keep.F.kp D_keep.b .nil pass0 (pa_cons (pv 0) (pa_cons (pv 5) (pa_cons (pe_dget2 (room1 hr) (pv 4) (pv 5) (pe_call G_blurred (hr.mono (by omega)) (by rfl) D_blurred.g D_blurred.F.kp D_blurred.b .nil pass0 (pa_cons (pv 5) pa_nil)) ⟨rfl, rfl, rfl, rfl⟩) pa_nil)))))))
      (pss_one (ps_dput (room1 hr) (pv 0) (pv 3) (pe_call G_sum_of_number (hr.mono (by omega)) (by rfl) D_sum_of_number.g D_sum_of_number.F.kp D_sum_of_number.b .nil pass0 (pa_cons pe_int pa_nil)) rfl)))))), ?_⟩
    refine ⟨_, rfl, q0, _, _, _, rfl, rfl, tq, atI_nat (j := 1) rfl, fun de nde => ?_⟩
    have s1 : Same H (upd H de (.dK [])) := same_upd nde
    have ede : (upd H de (.dK [])) de = some (.dK []) := upd_same
    have dde : d ≠ de := ne_of_none D.fill.d nde
    generalize upd H de (.dK []) = H1 at s1 ede
    refine ⟨_, rfl, _, rfl, dt, g, kt, Gt, ft, rfl, Dt.same s1, hgt, fun H2 s2 => ?_⟩
    rw [ne]
    have s12 := s1.trans s2
    have t2 := TupsStay.same s12
    refine ⟨_, rfl, ite2 (fun c => absurd c (by decide)) (fun c => ?_)⟩
    refine ⟨_, rfl, q0, _, _, _, rfl, rfl, SqT.keeps tq t2, atI_nat (j := 3) rfl, pb, b, ns, rfl, rb.stay t2, ok, hns, fun l ql H3 so mem e3 s3 n3 => ?_⟩
    have s13 := s12.trans s3
    have D3 := D.same s13
    have ed3 := s3 _ _ (s2 _ _ ede)
    have qd : ql ≠ d := (ne_of_none ((D.same s12).fill.d) n3).symm
    refine ⟨ql, rfl, ⟨_, SqL.of e3⟩, for_list (K := K) (a := ql) (xs := l.map V.str) (fun i σ H4 => ∃ (v5 : Option V) (fk2 : List (L2.Key × V)), σ = [some (.ref d), some (.ref q0), some (.ref dt), some (.str g), some (.ref de), v5] ∧ DS K w C H4 d ks (blurG (l.take i) G) fk2 ∧ Else d H3 H4)
      ⟨none, fk, rfl, by rw [List.take_zero, blurG_nil]; exact D3, .refl d H3⟩ (fun i σ H4 _ ⟨_, _, _, _, z⟩ => SqL.of (z _ _ e3 qd)) (fun i v σ H4 hv ⟨v5, fk2, hσ, D4, s4⟩ => ?_) (fun σ H4 ⟨v5, fk2, hσ, D4, s4⟩ => ?_)⟩
    · subst hσ
      obtain ⟨y, hy, rfl⟩ := take_str hv
      have my := hs y ((mem y).mp (List.mem_of_getElem? hy))
      have ed4 := s4 _ _ ed3 dde.symm
      refine ⟨_, rfl, _, rfl, _, rfl, de, rfl, .inl ⟨_, .inl ed4⟩, _, rfl, _, rfl, y, rfl, by omega, fun p5 H5 S5 n5 s5 => ?_⟩
      refine ⟨none, DGet.k (k := .inr y) (s5 _ _ ed4), ?_⟩
      refine ⟨d, p5, y, ks, [blur y], _, fk2, nameM (blur y), rfl, D4.same s5, my.1, by omega, hk, S5, fun z hz => ?_, (show 1 < 32 by decide), fun fk' H6 D6 e6 => ?_⟩
      · rw [show z = ([(blur y, 1)], 1) by simpa [nameM] using hz]
        exact Of.one (List.mem_singleton_self _)
      · refine ⟨_, fk', rfl, ?_, s4.trans ((Same.else s5).trans e6)⟩
        rw [take_one hy, ← blurG_snoc]
        rw [keep_blur] at D6
        exact D6
    · subst hσ
      rw [List.length_map, List.take_length] at D4
      refine ⟨0, rfl, by decide +kernel, fun p5 H5 S5 s5 n5 => ?_⟩
      have D5 := D4.same s5
      refine ⟨_, rfl, _, rfl, d, _, rfl, DPut.k (k := .inr g) D5.fill.d (by rw [D5.len, sizeLine_eq]; omega), q l _ _ mem (D5.put hg S5) ?_⟩
      exact (((Same.else s13).trans s4).same s5).trans .upd
end
/-! ### a turn of a lap without laps within -/
section
variable {P : Program} {w : World} {K : PySem.W.Frag} {mg : Str → Option Value} {base : Heap} {C : Addr}
def spNamesLap (K : PySem.W.Frag) : Sp := fun vs H Q _ => ∃ (q0 : Addr) (x : Str) (me : Ex) (b : Rw) (ns : List Str), vs = [.ref q0] ∧ StsAt K H (.lap x me b .nil) [q0] ∧ RwOk ns (.lap x me b .nil) 3 ∧ ns.length < 64 ∧ ∀ (l : List Str) (q : Addr) (H' : Hp), l.Pairwise slt → (∀ y, y ∈ l ↔ y ∈ namesR (.lap x me b .nil)) → H' q = some (.lst (l.map V.str)) → Same H H' → H q = none → Q (.ref q) H'
theorem ok_names_of_lap {f : Addr} {fd : FuncData} (T : Txt K mg C) (F : DefAt K mg "names_of_lap" "names_of_lap" s_names_of_lap ["lap"] f fd) : FnOk P w K mg base CX0 12 f fd ["lap"] (spNamesLap K) := by
  obtain ⟨f1, fd1, D_names_of⟩ := T.d_names_of
  have G_names_of : FnOk P w K mg base CX0 11 f1 fd1 ["program"] (spNamesOf K) := ok_names_of T D_names_of
  refine F.F.ok sc_names_of_lap (fun vs H Q E h => ?_) (fun cdv A outer z H vs Q E hr h => ?_)
  · obtain ⟨q0, x, me, b, ns, rfl, _⟩ := h
    rfl
  · obtain ⟨q0, x, me, b, ns, rfl, st, ok, hns, q⟩ := h
    refine ⟨_, (pss_one (ps_ret (pe_call G_names_of (hr.mono (by decide)) (by rfl) D_names_of.g D_names_of.F.kp D_names_of.b .nil pass0 (pa_cons (pe_tup (pa_cons pe_str (pa_cons (pe_tup (pa_cons (pv 0) pa_nil)) pa_nil))) pa_nil)))), ?_⟩
    refine ⟨_, rfl, (by show 1 ≤ sizeLine; decide), fun t nt => ⟨(by show 2 ≤ sizeLine; decide), fun p np => ?_⟩⟩
    have u1 : Same H (upd H t (.tup [.ref q0])) := same_upd nt
    have u2 : Same (upd H t (.tup [.ref q0])) (upd (upd H t (.tup [.ref q0])) p (.tup [.str "row", .ref t])) := same_upd np
    have u12 := u1.trans u2
    exact ⟨p, _, ns, rfl, ⟨t, [q0], SqT.of upd_same, SqT.keeps (SqT.of upd_same) (TupsStay.same u2), st.stay (TupsStay.same u12)⟩, ok, hns, fun l ql H' so mem e s n => q l ql H' so mem e (u12.trans s) (u12.free n)⟩
def spTurn0 (K : PySem.W.Frag) (w : World) (C : Addr) : Sp := fun vs H Q _ => ∃ (q0 : Addr) (x : Str) (me : Ex) (b : Rw) (ns ms : List Str), vs = [.ref q0] ∧ StsAt K H (.lap x me b .nil) [q0] ∧ RwOk ns (.lap x me b .nil) 3 ∧ ns.length < 32 ∧ ms.length < 32 ∧
  (∀ ks : List Str, ks.Pairwise slt → (∀ y, y ∈ ks ↔ y ∈ namesR (.lap x me b .nil)) → RowFit ns ms ks b nameM) ∧
  ∀ ks d fk H', ks.Pairwise slt → (∀ y, y ∈ ks ↔ y ∈ namesR (.lap x me b .nil)) → DS K w C H' d ks (rowG ks b nameM) fk → Same H H' → H d = none → Q (.ref d) H'
theorem ok_behind_turn0 {f : Addr} {fd : FuncData} (T : Txt K mg C) (F : DefAt K mg "behind_turn" "behind_turn" s_behind_turn ["lap"] f fd) : FnOk P w K mg base CX0 15 f fd ["lap"] (spTurn0 K w C) := by
  obtain ⟨f1, fd1, D_behind⟩ := T.d_behind
  have G_behind : FnOk P w K mg base CX0 14 f1 fd1 ["row", "names"] (spBehind0 K w C) := ok_behind0 T D_behind
  obtain ⟨f2, fd2, D_names_of_lap⟩ := T.d_names_of_lap
  have G_names_of_lap : FnOk P w K mg base CX0 12 f2 fd2 ["lap"] (spNamesLap K) := ok_names_of_lap T D_names_of_lap
  refine F.F.ok sc_behind_turn (fun vs H Q E h => ?_) (fun cdv A outer z H vs Q E hr h => ?_)
  · obtain ⟨q0, x, me, b, ns, ms, rfl, _⟩ := h
    rfl
  · obtain ⟨q0, x, me, b, ns, ms, rfl, st, ok, hn, hm, ff, q⟩ := h
    refine ⟨_, (pss_one (ps_ret (pe_call G_behind (hr.mono (by decide)) (by rfl) D_behind.g D_behind.F.kp D_behind.b .nil pass0 (pa_cons (pe_ix ix_tup (pv 0) pe_int (fun _ _ => rfl)) (pa_cons (pe_call G_names_of_lap (hr.mono (by decide)) (by rfl) D_names_of_lap.g D_names_of_lap.F.kp D_names_of_lap.b .nil pass0 (pa_cons (pv 0) pa_nil)) pa_nil))))), ?_⟩
    obtain ⟨q1, t1, pm, pb, pt, qb, e0, c1, c2, c3, c4, c5, c6⟩ := id st
    obtain ⟨rfl, rfl⟩ : q0 = q1 ∧ [] = t1 := by cases e0; exact ⟨rfl, rfl⟩
    refine ⟨_, rfl, q0, _, _, _, rfl, rfl, c1, atI_nat (j := 3) rfl, _, rfl, q0, x, me, b, ns, rfl, st, ok, by omega, fun ks l H1 up mem el s1 n1 => ?_⟩
    have nd : ks.Nodup := up.imp fun {a b} h (e : a = b) => slt_irrefl a (by rw [← e] at h; exact h)
    have lk : ks.length < 64 := Nat.lt_of_le_of_lt (nodup_len nd fun y hy => namesR_in ok y ((mem y).mp hy)) (by omega)
    have t := TupsStay.same s1
    exact ⟨pb, l, b, ks, ns, ms, rfl, ⟨pt, qb, SqT.keeps c3 t, SqT.keeps c4 t, c5.stay t⟩, el, nd, lk, hn, hm, ff ks up mem, fun d fk H2 D2 s2 n2 => q ks d fk H2 up mem D2 (s1.trans s2) (s1.free n2)⟩
end
/-! ### all names told -/
section
variable {P : Program} {w : World} {K : PySem.W.Frag} {mg : Str → Option Value} {base : Heap} {C : Addr}
def spAllTold (K : PySem.W.Frag) (w : World) (C : Addr) : Sp := fun vs H Q _ => ∃ (p d : Addr) (M : Poly) (ns kt : List Str) (kvs : List (L2.Key × V)), vs = [.ref p, .ref d] ∧ SumAt K w C H p M ∧ (∀ y ∈ M, Of ns y.1) ∧ ns.length < 32 ∧ H d = some (.dK kvs) ∧ kvs.map (·.1) = kt.map Sum.inr ∧
  ∀ (b : Bool) (H' : Hp), (b = true ↔ ∀ y ∈ M, ∀ e ∈ y.1, e.1 ∈ kt) → Same H H' → Q (.bl b) H'
theorem ok_all_told {f : Addr} {fd : FuncData} (T : Txt K mg C) (F : DefAt K mg "all_told" "all_told" s_all_told ["given", "told"] f fd) : FnOk P w K mg base CX0 2 f fd ["given", "told"] (spAllTold K w C) := by
  obtain ⟨f1, fd1, D_names_in⟩ := T.d_names_in
  have G_names_in : FnOk P w K mg base CX0 1 f1 fd1 ["given"] (spNamesIn K w C) := ok_names_in T D_names_in
  refine F.F.ok sc_all_told (fun vs H Q E h => ?_) (fun cdv A outer z H vs Q E hr h => ?_)
  · obtain ⟨p, d, M, ns, kt, kvs, rfl, _⟩ := h
    rfl
  · obtain ⟨p, d, M, ns, kt, kvs, rfl, S, ho, hl, ed, ek, q⟩ := h
    refine ⟨_, (pss_one (ps_ret (pe_callB (cr_all rfl) (by rfl) T.m_all (by decide +kernel) (pa_cons (pe_lc (own := [("name", 2)]) (g := gName 2) (tt := tYes) rfl sc_all_told.nd (pi_list (pe_call G_names_in (hr.mono (by decide)) (by rfl) D_names_in.g D_names_in.F.kp D_names_in.b .nil pass0 (pa_cons (pv 0) pa_nil))) (blkOk_by (own := [("name", 2)]) (N := ["given", "told", "name"]) (sc := defScope s_all_told) (by decide +kernel)) (fun _ _ _ _ _ => pg_name (i := 2) sc_all_told.nd rfl (.inl rfl)) (fun _ _ _ _ _ => pts_nil) (fun _ _ _ _ _ => (pe_cmp (pc_din (room1 hr) (pv 2) (pv 1))))) pa_nil)))), ?_⟩
    refine ⟨_, rfl, p, M, ns, rfl, S, ho, hl, fun l xs H1 el mem lx s1 nl => ?_⟩
    let fb : Str → Bool := fun x => (valV kvs (.inr x)).isSome
    have hfb : ∀ x, fb x = true ↔ x ∈ kt := fun x => by
      show (valV kvs (.inr x)).isSome = true ↔ _
      have k1 : (Sum.inr x : L2.Key) ∈ kvs.map (·.1) ↔ x ∈ kt := by
        rw [ek, List.mem_map]
        constructor
        · rintro ⟨y, hy, e⟩
          exact (Sum.inr.inj e) ▸ hy
        · exact fun h => ⟨x, h, rfl⟩
      rw [← k1]
      constructor
      · intro h
        obtain ⟨v, e⟩ := Option.isSome_iff_exists.mp h
        exact valV_in e
      · intro h
        cases e : valV kvs (.inr x) with
        | none => exact absurd h (valV_not e)
        | some v => rfl
    refine ⟨l, rfl, ⟨_, SqL.of el⟩, fun D nD => lc_list (K := K) (a := l) (xs := xs.map V.str) (fun i Hx => Hx D = some (.lst (((xs.take i).map fb).map V.bl)) ∧ Same H1 Hx)
      ⟨by rw [List.take_zero]; exact upd_same, same_upd nD⟩ (fun i Hx _ ⟨_, u⟩ => SqL.of (u _ _ el)) (fun i x Hx hx ⟨e1, u⟩ => ?_) (fun Hx ⟨e1, u⟩ => ?_)⟩
    · obtain ⟨k, hk, rfl⟩ := take_str hx
      refine ⟨rfl, _, rfl, _, rfl, d, _, rfl, DGet.k (k := .inr k) (u _ _ (s1 _ _ ed)), _, e1, by rw [List.length_map, List.length_map, List.length_take, sizeLine_eq]; omega, ?_, fun b o e => ?_⟩
      · rw [upd_same, take_one hk, List.map_append, List.map_append]
        rfl
      · rw [upd_ne (ne_of_none e nD)]
        exact u _ _ e
    · rw [List.length_map, List.take_length] at e1
      refine ⟨D, _, rfl, SqL.of e1, q _ Hx ?_ (s1.trans u)⟩
      rw [List.all_eq_true]
      constructor
      · intro h y hy e he
        have m := (mem e.1).mpr ⟨y, hy, e, he, rfl⟩
        exact (hfb e.1).mp (h _ (List.mem_map.mpr ⟨e.1, m, rfl⟩))
      · intro h b hb
        obtain ⟨x, hx, ex⟩ := List.mem_map.mp hb
        obtain ⟨y, hy, e, he, ee⟩ := (mem x).mp hx
        rw [← ex]
        exact (hfb x).mpr (ee ▸ h y hy e he)
end
theorem fn_drop {P : Program} {w : World} {K : PySem.W.Frag} {mg : Str → Option Value} {base : Heap} {CX : CXT} {k : Nat} {f : Addr} {fd : FuncData} {ps : List Str} {sp : Sp} {A : Prop} (F : FnOk P w K mg base CX k f fd ps sp) : FnOk P w K mg base CX k f fd ps (fun vs H Q E => A ∧ sp vs H Q E) :=
  ⟨fun vs H Q E q => F.len vs H Q E q.2, fun A outer s H args us vs Q E hr he hb hv hs => F.run A outer s H args us vs Q E hr he hb hv hs.2⟩
/-! ### types compared by !=; not in a tuple of data -/
section
open PySem.TypeEq
theorem slot_type_ne : Slot "type" (cmpInfo .NotEq).2.1 "object.__ne__" :=
  .of (owner := "object") (n := "__ne__") (by rw [typeLookup_type, builtinLookup_eq_fast]; kernel_rfl) (by decide +kernel) (by decide +kernel) (by decide +kernel)
    (by first | exact .inl (by decide +kernel) | exact .inr (by decide +kernel)) (by rw [isSubtype_type]; kernel_rfl)
theorem slot_type_ne_refl : Slot "type" (cmpInfo .NotEq).2.2 "object.__ne__" :=
  .of (owner := "object") (n := "__ne__") (by rw [typeLookup_type, builtinLookup_eq_fast]; kernel_rfl) (by decide +kernel) (by decide +kernel) (by decide +kernel)
    (by first | exact .inl (by decide +kernel) | exact .inr (by decide +kernel)) (by rw [isSubtype_type]; kernel_rfl)
section
variable {prog : Program} {w : World} {A : Around} {E : Value → Shared → Prop} {s : Shared}
theorem objNe_type_same {X : String} (hX : ∀ s' : Shared, s'.TypeIs (.type X) "type") {Q : Fin → Shared → Prop} (hq : Q (.done (.ret (.bool false))) s) :
    wpAny (model prog w) A (Builtin.«object.__ne__» ⟨[.type X, .type X], []⟩) Q E s := by
  unfold Builtin.«object.__ne__»
  repeat (first
    | with_reducible refine wpAny_cRoomFor_or (.inl rfl) ?_
    | (refine wpAny_bind (m := callSpecialIfBound? (.type X) (Str.ofString "__eq__") [.type X]) (wpAny_callSpecialIfBound?_slot (hX _) slot_type_eq
        (call_gives slot_type_eq (hX _) F.entry_object_eq (F.args_object_eq_2 _ _) (object_eq_same rfl (by simp)) ?_)))
    | (refine wpAny_bind (m := truthy (.bool _)) (wpAny_truthy_bool ?_))
    | wp_step)
  exact hq
theorem objNe_type_other {X Y : String} (hX : ∀ s' : Shared, s'.TypeIs (.type X) "type") (hne : (Value.type X == Value.type Y) = false) {Q : Fin → Shared → Prop} (hq : Q (.done (.ret .notImplemented)) s) :
    wpAny (model prog w) A (Builtin.«object.__ne__» ⟨[.type X, .type Y], []⟩) Q E s := by
  unfold Builtin.«object.__ne__»
  repeat (first
    | with_reducible refine wpAny_cRoomFor_or (.inl rfl) ?_
    | (refine wpAny_bind (m := callSpecialIfBound? (.type X) (Str.ofString "__eq__") [.type Y]) (wpAny_callSpecialIfBound?_slot (hX _) slot_type_eq
        (call_gives slot_type_eq (hX _) F.entry_object_eq (F.args_object_eq_2 _ _) (object_eq_other rfl hne) ?_)))
    | wp_step)
  show wpAny (model prog w) A (ret Value.notImplemented) Q E s
  first | exact wpAny_pure hq | (wp_step; exact hq)
theorem ne_type_same {X : String} {Q : Value → Shared → Prop} (hX : ∀ s' : Shared, s'.TypeIs (.type X) "type") (h : Q (.bool false) s) : wpAny (model prog w) A (compareOp .NotEq (.type X) (.type X)) Q E s := by
  show wpAny _ A (richCompare .NotEq _ _) Q E s
  exact wpAny_richCompare_same (T := "type") (hX s) (hX s) slot_type_ne
    (wpAny_call_entry slot_type_ne (hX s) F.cmpEntry_ne (objNe_type_same hX ⟨_, rfl, fun z => (nomatch z), h⟩) (F.cmpArgs_ne _ _))
theorem ne_type_other {X Y : String} {Q : Value → Shared → Prop} (hX : ∀ s' : Shared, s'.TypeIs (.type X) "type") (hY : ∀ s' : Shared, s'.TypeIs (.type Y) "type") (hne : (Value.type X == Value.type Y) = false) (h : Q (.bool true) s) : wpAny (model prog w) A (compareOp .NotEq (.type X) (.type Y)) Q E s := by
  have hne' : (Value.type Y == Value.type X) = false := by
    rw [Bool.eq_false_iff] at hne ⊢
    intro e
    exact hne (by rw [beq_iff_eq] at e ⊢; exact e.symm)
  show wpAny _ A (richCompare .NotEq _ _) Q E s
  rcases hi : cmpInfo CmpOp.NotEq with ⟨sym, f, r⟩
  have h1 := slot_type_ne
  have h2 := slot_type_ne_refl
  rw [hi] at h1 h2
  simp only [richCompare, hi, (hX s).oneThing_none]
  try with_reducible refine wpAny_holding ?_
  refine wpAny_bind (wpAny_cRoomFor_or (.inl rfl) ?_)
  refine wpAny_bind (wpAny_typeOf (hX s) (wpAny_bind (wpAny_typeOf (hY s) ?_)))
  simp only [bne_self_eq_false, Bool.false_eq_true, if_false, pure_bind, Bool.not_false, if_true]
  refine wpAny_bind (m := tryCompare (.type X) _ (.type Y)) (wpAny_tryCompare_declines (hX s) h1 (wpAny_call_entry h1 (hX s) F.cmpEntry_ne (objNe_type_other hX hne ⟨_, rfl, rfl, ?_⟩) (F.cmpArgs_ne _ _)))
  refine wpAny_bind (m := tryCompare (.type Y) _ (.type X)) (wpAny_tryCompare_declines (hY s) h2 (wpAny_call_entry h2 (hY s) F.cmpEntry_ne (objNe_type_other hY hne' ⟨_, rfl, rfl, ?_⟩) (F.cmpArgs_ne _ _)))
  refine wpAny_bind (wpAny_rule (wpAny_bind (wpAny_of_eq (show isSame (.type X) (.type Y) = pure false by rw [isSame_plain rfl, hne]) (wpAny_pure ?_))))
  exact h
end
/-- the kinds that are compared here -/
def kindT (T : String) : Prop := T ∈ ["NoneType", "bool", "int", "str", "list", "tuple"]
theorem kind_type {T : String} (h : kindT T) (s' : Shared) : s'.TypeIs (.type T) "type" := by
  simp only [kindT, List.mem_cons, List.not_mem_nil, or_false] at h
  rcases h with z | z | z | z | z | z <;> subst z
  · exact meta_NoneType s'
  · exact meta_bool s'
  · exact meta_int s'
  · exact meta_str s'
  · exact meta_list s'
  · exact meta_tuple s'
theorem op_neTy {X : Cx} : OpR X (compareOp .NotEq) (fun x y H Q => ∃ S T, x = .ty S ∧ y = .ty T ∧ kindT S ∧ kindT T ∧ Q (.bl (!decide (S = T))) H) := by
  intro pins s σ H x y v u Q I rx ry h
  obtain ⟨S, T, rfl, rfl, kS, kT, q⟩ := h
  cases rx
  cases ry
  by_cases e : S = T
  · subst e
    rw [show decide (S = S) = true from decide_eq_true rfl] at q
    exact ne_type_same (kind_type kS) ⟨.bl _, H, I, rfl, q⟩
  · rw [show decide (S = T) = false from decide_eq_false e] at q
    exact ne_type_other (kind_type kS) (kind_type kT) (by rw [Bool.eq_false_iff]; intro z; rw [beq_iff_eq] at z; exact e (Value.type.inj z)) ⟨.bl _, H, I, rfl, q⟩
end
def rNotInT (K : PySem.W.Frag) : R2 := fun x y H Q => ∃ d ds, Dp K H x d ∧ Dp K H y (.tuple ds) ∧ SeqAt.shaped d = true ∧ SeqAt.shaped (.tuple ds) = true ∧ Q (.bl (!ds.any fun z => PyData.eqv z d)) H
theorem op_notInT {X : Cx} (hu : X.A.units + 65 < cLine) : OpR X (compareOp .NotIn) (rNotInT X.K) := by
  intro pins s σ H x y v u Q I rx ry h
  obtain ⟨d, ds, hd, he, sd, se, q⟩ := h
  obtain ⟨as, r1⟩ := Dp.reads I d x v hd rx
  obtain ⟨bs, r2⟩ := Dp.reads I (.tuple ds) y u he ry
  exact SeqAt.notIn_tuple_reads r2 r1 (SeqAt.canLay_of_shaped se) (SeqAt.canLay_of_shaped sd) (room_in_shaped sd hu) ⟨.bl _, H, I, rfl, q⟩
/-! ### what is a program, said of data -/
def atD (k : Nat) : PyData → PyData
  | .tuple l => l.getD k .none
  | _ => .none
def wordOf (fs : List (Str × Nat)) : PyData → Option Str
  | .tuple (.str w :: r) => if (w, r.length + 1) ∈ fs then some w else none
  | _ => none
def ROWSF : List (Str × Nat) := [("row", 2)]
def STMSF : List (Str × Nat) := [("set", 3), ("say", 2), ("lap", 4)]
def EXPRF : List (Str × Nat) := [("num", 2), ("name", 2), ("add", 3), ("times", 3)]
def frm (fs : List (Str × Nat)) : List PyData := fs.map fun f => .tuple [.str f.1, .int (f.2 : Nat)]
def numOk : PyData → Bool
  | .int n => decide (0 ≤ n) && decide (n ≤ 999)
  | _ => false
def nameOk : PyData → Bool
  | .str x => decide (1 ≤ x.length) && (decide (x.length ≤ 8) && !x.cps.toList.any fun c => decide (c < 97) || decide (122 < c))
  | _ => false
def exOk : Nat → PyData → Bool
  | 0, _ => false
  | d + 1, x => match wordOf EXPRF x with
    | none => false
    | some w => if w = "num" then numOk (atD 1 x) else if w = "name" then nameOk (atD 1 x) else exOk d (atD 1 x) && exOk d (atD 2 x)
def needSt (inner : Nat → PyData → Option Nat) (left : Nat) (s : PyData) : Option Nat :=
  match wordOf STMSF s with
  | none => none
  | some w => if w = "say" then (if exOk 5 (atD 1 s) = true then some left else none)
    else if nameOk (atD 1 s) = true ∧ exOk 5 (atD 2 s) = true then (if w = "set" then some left else inner left (atD 3 s)) else none
def needSts (inner : Nat → PyData → Option Nat) : Nat → List PyData → Option Nat
  | left, [] => some left
  | 0, _ :: _ => none
  | left + 1, s :: r => match needSt inner left s with | none => none | some l => needSts inner l r
def needRowB (inner : Nat → PyData → Option Nat) (left : Nat) (x : PyData) : Option Nat :=
  match wordOf ROWSF x with
  | none => none
  | some _ => match atD 1 x with | .tuple parts => needSts inner left parts | _ => none
def needRow : Nat → Nat → PyData → Option Nat
  | 0 => needRowB fun _ _ => none
  | l + 1 => needRowB (needRow l)
def isProg (x : PyData) : Bool := (needRow 3 40 x).isSome
theorem wordOf_some {fs : List (Str × Nat)} {x : PyData} {w : Str} (h : wordOf fs x = some w) : ∃ r, x = .tuple (.str w :: r) ∧ (w, r.length + 1) ∈ fs := by
  cases x with
  | tuple l =>
    cases l with
    | nil => cases h
    | cons e r =>
      cases e with
      | str v =>
        by_cases m : (v, r.length + 1) ∈ fs
        · have e : wordOf fs (.tuple (.str v :: r)) = some v := if_pos m
          rw [e] at h
          cases h
          exact ⟨r, rfl, m⟩
        · have e : wordOf fs (.tuple (.str v :: r)) = none := if_neg m
          rw [e] at h
          cases h
      | _ => cases h
  | _ => cases h
theorem any_frm (w : Str) (n : Nat) : ∀ fs : List (Str × Nat), ((frm fs).any fun z => PyData.eqv z (.tuple [.str w, .int (n : Nat)])) = decide ((w, n) ∈ fs)
  | [] => rfl
  | (v, m) :: r => by
    have ih := any_frm w n r
    have e : PyData.eqv (.tuple [.str v, .int (m : Nat)]) (.tuple [.str w, .int (n : Nat)]) = (v == w && (((m : Int) == (n : Int)) && true)) := by simp only [PyData.eqv, PyData.eqvAll]
    show (PyData.eqv (.tuple [.str v, .int (m : Nat)]) (.tuple [.str w, .int (n : Nat)]) || (frm r).any _) = _
    rw [ih, e, Bool.eq_iff_iff]
    simp only [Bool.or_eq_true, Bool.and_eq_true, beq_iff_eq, decide_eq_true_eq, and_true, List.mem_cons, Prod.mk.injEq, Int.ofNat_inj]
    constructor
    · rintro (⟨a, b⟩ | z)
      · exact .inl ⟨a.symm, b.symm⟩
      · exact .inr z
    · rintro (⟨a, b⟩ | z)
      · exact .inl ⟨a.symm, b.symm⟩
      · exact .inr z
theorem shaped_frm {fs : List (Str × Nat)} (h : ∀ f ∈ fs, PyData.strOk f.1 = true) : SeqAt.shaped (.tuple (frm fs)) = true := by
  have a : ∀ gs : List (Str × Nat), (∀ f ∈ gs, PyData.strOk f.1 = true) → PyData.canLayAll0 (frm gs) = true ∧ PyData.depthAll (frm gs) ≤ 2 := by
    intro gs
    induction gs with
    | nil => intro _; exact ⟨rfl, Nat.zero_le _⟩
    | cons f r ih =>
      intro h
      obtain ⟨a, b⟩ := ih fun g hg => h g (List.mem_cons_of_mem _ hg)
      refine ⟨?_, ?_⟩
      · simp [frm, PyData.canLayAll0, PyData.canLay0, h f List.mem_cons_self]
        exact a
      · show PyData.depthAll (.tuple [.str f.1, .int (f.2 : Nat)] :: frm r) ≤ 2
        simp only [PyData.depthAll, PyData.depth]
        omega
  obtain ⟨a, b⟩ := a fs h
  show (PyData.canLay0 _ && decide (PyData.depth _ ≤ 64)) = true
  rw [Bool.and_eq_true]
  exact ⟨by simp only [PyData.canLay0]; exact a, decide_eq_true (by simp only [PyData.depth]; omega)⟩
theorem shaped_pair {w : Str} {n : Nat} (h : PyData.strOk w = true) : SeqAt.shaped (.tuple [.str w, .int (n : Nat)]) = true := by
  show (PyData.canLay0 _ && decide (PyData.depth _ ≤ 64)) = true
  rw [Bool.and_eq_true]
  exact ⟨by simp [PyData.canLay0, PyData.canLayAll0, h], decide_eq_true (by simp [PyData.depth, PyData.depthAll])⟩
-- a value that is this datum; its lists stand apart from N
mutual
inductive Dq (K : PySem.W.Frag) (N : List Addr) (H : Hp) : V → PyData → Prop
  | non : Dq K N H .non .none
  | bl (b : Bool) : Dq K N H (.bl b) (.bool b)
  | int (i : Int) : Dq K N H (.int i) (.int i)
  | str {x : Str} (h : PyData.strOk x = true) (l : x.length ≤ 1000) : Dq K N H (.str x) (.str x)
  | lst {a : Addr} {xs : List V} {ds : List PyData} : H a = some (.lst xs) → a ∉ N → DqAll K N H xs ds → Dq K N H (.ref a) (.list ds)
  | tup {a : Addr} {xs : List V} {ds : List PyData} : SqT K H a xs → DqAll K N H xs ds → Dq K N H (.ref a) (.tuple ds)
inductive DqAll (K : PySem.W.Frag) (N : List Addr) (H : Hp) : List V → List PyData → Prop
  | nil : DqAll K N H [] []
  | cons {v : V} {vs : List V} {d : PyData} {ds : List PyData} : Dq K N H v d → DqAll K N H vs ds → DqAll K N H (v :: vs) (d :: ds)
end
/-- old things but N stay, tuples do -/
structure Sty (N : List Addr) (H H' : Hp) : Prop where
  but : ∀ a o, H a = some o → a ∉ N → H' a = some o
  tup : TupsStay H H'
theorem Sty.same {N : List Addr} {H H' : Hp} (s : Same H H') : Sty N H H' := ⟨fun a o e _ => s a o e, TupsStay.same s⟩
theorem Sty.refl (N : List Addr) (H : Hp) : Sty N H H := Sty.same fun _ _ e => e
mutual
theorem Dq.stay {K : PySem.W.Frag} {N : List Addr} {H H' : Hp} (s : Sty N H H') : ∀ {d : PyData} {v : V}, Dq K N H v d → Dq K N H' v d
  | .none, _, h => by cases h; exact .non
  | .bool _, _, h => by cases h; exact .bl _
  | .int _, _, h => by cases h; exact .int _
  | .str _, _, h => by cases h with | str q l => exact .str q l
  | .list _, _, h => by cases h with | lst a n q => exact .lst (s.but _ _ a n) n (DqAll.stay s q)
  | .tuple _, _, h => by cases h with | tup a q => exact .tup (SqT.keeps a s.tup) (DqAll.stay s q)
  | .dict _, _, h => by cases h
theorem DqAll.stay {K : PySem.W.Frag} {N : List Addr} {H H' : Hp} (s : Sty N H H') : ∀ {ds : List PyData} {vs : List V}, DqAll K N H vs ds → DqAll K N H' vs ds
  | [], _, h => by cases h; exact .nil
  | _ :: _, _, h => by cases h with | cons a b => exact .cons (Dq.stay s a) (DqAll.stay s b)
end
mutual
theorem Dq.dp {K : PySem.W.Frag} {N : List Addr} {H : Hp} : ∀ {d : PyData} {v : V}, Dq K N H v d → Dp K H v d
  | .none, _, h => by cases h; exact .non
  | .bool _, _, h => by cases h; exact .bl _
  | .int _, _, h => by cases h; exact .int _
  | .str _, _, h => by cases h; exact .str _
  | .list _, _, h => by cases h with | lst a n q => exact .lst (SqL.of a) (DqAll.dp q)
  | .tuple _, _, h => by cases h with | tup a q => exact .tup a (DqAll.dp q)
  | .dict _, _, h => by cases h
theorem DqAll.dp {K : PySem.W.Frag} {N : List Addr} {H : Hp} : ∀ {ds : List PyData} {vs : List V}, DqAll K N H vs ds → DpAll K H vs ds
  | [], _, h => by cases h; exact .nil
  | _ :: _, _, h => by cases h with | cons a b => exact .cons (Dq.dp a) (DqAll.dp b)
end
theorem DqAll.len {K : PySem.W.Frag} {N : List Addr} {H : Hp} : ∀ {ds : List PyData} {vs : List V}, DqAll K N H vs ds → vs.length = ds.length
  | [], _, h => by cases h; rfl
  | _ :: _, _, h => by cases h with | cons a b => rw [List.length_cons, List.length_cons, DqAll.len b]
theorem DqAll.app {K : PySem.W.Frag} {N : List Addr} {H : Hp} {es : List PyData} {us : List V} (g : DqAll K N H us es) : ∀ {ds : List PyData} {vs : List V}, DqAll K N H vs ds → DqAll K N H (vs ++ us) (ds ++ es)
  | [], _, h => by cases h; exact g
  | _ :: _, _, h => by cases h with | cons a b => exact .cons a (DqAll.app g b)
theorem DqAll.at_ {K : PySem.W.Frag} {N : List Addr} {H : Hp} : ∀ {ds : List PyData} {vs : List V} {i : Nat}, DqAll K N H vs ds → i < ds.length → ∃ v, vs[i]? = some v ∧ Dq K N H v (ds.getD i .none)
  | [], _, _, _, l => absurd l (Nat.not_lt_zero _)
  | _ :: _, _, 0, h, _ => by cases h with | cons a b => exact ⟨_, rfl, a⟩
  | _ :: _, _, i + 1, h, l => by cases h with | cons a b => exact DqAll.at_ (i := i) b (Nat.lt_of_succ_lt_succ l)
def kindD : PyData → String
  | .none => "NoneType"
  | .bool _ => "bool"
  | .int _ => "int"
  | .str _ => "str"
  | .list _ => "list"
  | .tuple _ => "tuple"
  | .dict _ => "list"
theorem kindD_ok (d : PyData) : kindT (kindD d) := by cases d <;> simp [kindD, kindT]
theorem Dq.ty {K : PySem.W.Frag} {N : List Addr} {H : Hp} {d : PyData} {v : V} (h : Dq K N H v d) : TyB K H v (kindD d) := by
  cases h with
  | non => exact .non
  | bl b => exact .bl b
  | int i => exact .int i
  | str q l => exact .str _
  | lst a n q => exact .lst (SqL.of a)
  | tup a q => exact .tup a
/-! ### what refuses what is no program -/
theorem room65 {A : Around} {k : Nat} (hr : Room k A) : A.units + 65 < cLine := by
  have := hr.un
  omega
theorem lc_str {x : Str} {g : TG} {tt : TT} {te : TE} {vs : List Nat} {σ : L2.St} {H1 : Hp} {D : Addr} {Qd : Hp → Prop} (Pv : Nat → Hp → Prop) (h0 : Pv 0 (upd H1 D (.lst [])))
    (hs : ∀ i c H, x.cps[i]? = some c → Pv i H → g (.str ⟨#[c]⟩) (wipe σ vs) H fun σ2 H2 => wipe σ2 vs = wipe σ vs ∧ tt σ2 H2 fun b H3 =>
      if b = true then te σ2 H3 fun y H4 => ∃ acc, H4 D = some (.lst acc) ∧ acc.length < sizeLine ∧ Pv (i + 1) (upd H4 D (.lst (acc ++ [y]))) else Pv (i + 1) H3) (hd : ∀ H, Pv x.cps.size H → Qd H) :
    ∃ W : Nat → Nat → Hp → Prop, (∃ m, W 0 m (upd H1 D (.lst []))) ∧ ∀ i m H, W i m H →
      ((Its x).stop i H ∧ Qd H) ∨ ((Its x).go i H ∧ ∃ Nx : Hp → Prop, (∀ H', Nx H' → ∃ m', m' < m ∧ W (i + 1) m' H') ∧ ∀ y H', (Its x).yld i H y H' → g y (wipe σ vs) H' fun σ2 H2 => wipe σ2 vs = wipe σ vs ∧ tt σ2 H2 fun b H3 =>
        if b = true then te σ2 H3 fun y H4 => ∃ acc, H4 D = some (.lst acc) ∧ acc.length < sizeLine ∧ Nx (upd H4 D (.lst (acc ++ [y]))) else Nx H3) := by
  refine ⟨fun i m H => m = x.cps.size - i ∧ i ≤ x.cps.size ∧ Pv i H, ⟨x.cps.size, by simp, Nat.zero_le _, h0⟩, ?_⟩
  rintro i m H ⟨rfl, hi, p⟩
  by_cases hlt : i < x.cps.size
  · refine .inr ⟨hlt, Pv (i + 1), fun H' p' => ⟨x.cps.size - (i + 1), by omega, rfl, hlt, p'⟩, fun y H' yy => ?_⟩
    obtain ⟨e, c, hc, ey⟩ := yy
    subst e
    subst ey
    exact hs i c _ hc p
  · have e : i = x.cps.size := by omega
    subst e
    exact .inl ⟨Nat.le_refl _, hd H p⟩
theorem lt_one (c d : Nat) : decide ((⟨#[c]⟩ : Str).cps.toList < (⟨#[d]⟩ : Str).cps.toList) = decide (c < d) := by
  rw [Bool.eq_iff_iff, decide_eq_true_eq, decide_eq_true_eq]
  show [c] < [d] ↔ c < d
  rw [List.cons_lt_cons_iff]
  simp
theorem Dq.kInt {K : PySem.W.Frag} {N : List Addr} {H : Hp} {d : PyData} {v : V} (h : Dq K N H v d) (e : kindD d = "int") : ∃ n, d = .int n ∧ v = .int n := by
  cases h with
  | int i => exact ⟨i, rfl, rfl⟩
  | _ => exact absurd e (by simp [kindD])
theorem Dq.kStr {K : PySem.W.Frag} {N : List Addr} {H : Hp} {d : PyData} {v : V} (h : Dq K N H v d) (e : kindD d = "str") : ∃ x, d = .str x ∧ v = .str x ∧ x.length ≤ 1000 := by
  cases h with
  | str q l => exact ⟨_, rfl, rfl, l⟩
  | _ => exact absurd e (by simp [kindD])
theorem Dq.kTup {K : PySem.W.Frag} {N : List Addr} {H : Hp} {d : PyData} {v : V} (h : Dq K N H v d) (e : kindD d = "tuple") : ∃ a xs ds, d = .tuple ds ∧ v = .ref a ∧ SqT K H a xs ∧ DqAll K N H xs ds := by
  cases h with
  | tup a q => exact ⟨_, _, _, rfl, rfl, a, q⟩
  | _ => exact absurd e (by simp [kindD])
def badC (c : Nat) : Bool := decide (c < 97) || decide (122 < c)
section
variable {P : Program} {w : World} {K : PySem.W.Frag} {mg : Str → Option Value} {base : Heap} {C : Addr}
def spNum (K : PySem.W.Frag) (B : Addr) : Sp := fun vs H Q E => ∃ (v : V) (N : List Addr) (d : PyData), vs = [v] ∧ Dq K N H v d ∧ (numOk d = true → Q .non H) ∧ (numOk d = false → E (.ref B) none H)
theorem ok_need_number {Lp B D N U : Addr} (X : ExTxt K mg Lp B D N U) {f : Addr} {fd : FuncData} (T : Txt K mg C) (F : DefAt K mg "_need_number" "_need_number" s_need_number ["n"] f fd) : FnOk P w K mg base (L2.CX P w) 1 f fd ["n"] (spNum K B) := by
  obtain ⟨u, gM, rM⟩ := T.c_HIGHEST_NUMBER
  refine F.F.okX sc_need_number (fun vs H Q E h => ?_) (fun cdv A outer z H vs Q E hr h => ?_)
  · obtain ⟨v, N, d, rfl, _⟩ := h
    rfl
  · obtain ⟨v, N, d, rfl, hd, q, qe⟩ := h
    refine ⟨_, (pss_one (ps_if (PW.pt (pw_or (pt_cmpR op_neTy (pe_callTy call_type1 (by rfl) T.m_type (by decide +kernel) (pa_cons (pv 0) pa_nil)) (pe_bltn (v := .ty "int") (by rfl) T.m_int (by decide +kernel) rfl) (nomark _)) (pw_or (pt_cmpR op_lt (pv 0) pe_int (nomark _)) (pw_or1 (pt_cmpR op_gt (pv 0) (pe_glob (v := .int 999) rfl gM rM) (nomark _)))))) (pss_one (ps_raise rfl (takes_of rfl rfl rfl rfl) (SkE.pmk_own1 PySem.F.excBase_ValueError X.xB X.gB X.kB (raises_own X.bB X.tB) rfl (pe_joined (.cons pe_str (.cons (pe_fmt (pe_glob (v := .int 999) rfl gM rM)) .nil)))))) pss_nil)), ?_⟩
    have raise : numOk d = false → tJs [fun σ H Q => Q (.str "a number is a whole number from 0 to ") H, tFmt (fun σ H Q => Q (.int 999) H)] Str.empty [some v] H (fun _ H1 => E (.ref B) none H1) := fun e => ⟨_, rfl, by decide +kernel, .inr ⟨999, rfl, by decide +kernel, _, rfl, by decide +kernel, qe e⟩⟩
    refine ⟨_, rfl, v, _, rfl, hd.ty, _, _, rfl, rfl, kindD_ok d, by simp [kindT], ?_⟩
    refine ⟨_, rfl, ite2 (fun c => raise (by cases d <;> first | rfl | exact absurd c (by simp [kindD]))) (fun c => ?_)⟩
    obtain ⟨n, rfl, rfl⟩ := hd.kInt (by cases h : decide (kindD d = "int") with | true => exact of_decide_eq_true h | false => rw [h] at c; exact absurd rfl c)
    refine ⟨_, rfl, n, 0, rfl, rfl, _, rfl, ite2 (fun c => raise ?_) (fun c => ⟨_, rfl, n, 999, rfl, rfl, _, rfl, ite2 (fun c2 => raise ?_) (fun c2 => q ?_)⟩)⟩
    · have c := of_decide_eq_true c
      show (decide (0 ≤ n) && decide (n ≤ 999)) = false
      rw [decide_eq_false (by omega : ¬ 0 ≤ n)]
      rfl
    · have c2 := of_decide_eq_true c2
      show (decide (0 ≤ n) && decide (n ≤ 999)) = false
      rw [decide_eq_false (by omega : ¬ n ≤ 999), Bool.and_false]
    · have c : ¬ n < 0 := fun z => c (decide_eq_true z)
      have c2 : ¬ 999 < n := fun z => c2 (decide_eq_true z)
      show (decide (0 ≤ n) && decide (n ≤ 999)) = true
      rw [decide_eq_true (by omega : 0 ≤ n), decide_eq_true (by omega : n ≤ 999)]
      rfl
def spNameOk (K : PySem.W.Frag) (B : Addr) : Sp := fun vs H Q E => ∃ (v : V) (N : List Addr) (d : PyData), vs = [v] ∧ Dq K N H v d ∧ (nameOk d = true → ∀ H', Same H H' → Q .non H') ∧ (nameOk d = false → ∀ H', Same H H' → E (.ref B) none H')
theorem ok_need_name {Lp B D N U : Addr} (X : ExTxt K mg Lp B D N U) {f : Addr} {fd : FuncData} (T : Txt K mg C) (F : DefAt K mg "_need_name" "_need_name" s_need_name ["x"] f fd) : FnOk P w K mg base (L2.CX P w) 1 f fd ["x"] (spNameOk K B) := by
  obtain ⟨u, gM, rM⟩ := T.c_MOST_LETTERS
  refine F.F.okX sc_need_name (fun vs H Q E h => ?_) (fun cdv A outer z H vs Q E hr h => ?_)
  · obtain ⟨v, N, d, rfl, _⟩ := h
    rfl
  · obtain ⟨v, N, d, rfl, hd, q, qe⟩ := h
    refine ⟨_, (pss_cons (ps_if (PW.pt (pw_or (pt_cmpR op_neTy (pe_callTy call_type1 (by rfl) T.m_type (by decide +kernel) (pa_cons (pv 0) pa_nil)) (pe_bltn (v := .ty "str") (by rfl) T.m_str (by decide +kernel) rfl) (nomark _)) (pw_or (pt_cmpR op_eq (pe_callB call_len_str (by rfl) T.m_len (by decide +kernel) (pa_cons (pv 0) pa_nil)) pe_int (nomark _)) (pw_or1 (pt_cmpR op_gt (pe_callB call_len_str (by rfl) T.m_len (by decide +kernel) (pa_cons (pv 0) pa_nil)) (pe_glob (v := .int 8) rfl gM rM) (nomark _)))))) (pss_one (ps_raise rfl (takes_of rfl rfl rfl rfl) (SkE.pmk_own1 PySem.F.excBase_ValueError X.xB X.gB X.kB (raises_own X.bB X.tB) rfl (pe_joined (.cons pe_str (.cons (pe_fmt (pe_glob (v := .int 8) rfl gM rM)) (.cons pe_str .nil))))))) pss_nil)
      (pss_one (ps_if (pt_val (pe_callB (cr_any rfl) (by rfl) T.m_any (by decide +kernel) (pa_cons (pe_lc (own := [("sign", 1)]) (g := gName 1) (tt := tYes) rfl sc_need_name.nd (pi_str (pv 0)) (blkOk_by (own := [("sign", 1)]) (N := ["x", "sign"]) (sc := defScope s_need_name) (by decide +kernel)) (fun _ _ _ _ _ => pg_name (i := 1) sc_need_name.nd rfl (.inl rfl)) (fun _ _ _ _ _ => pts_nil) (fun _ _ _ _ _ => (pe_or (pe_cmpR op_lt_str (pv 1) pe_str (nomark _)) (pe_one (pe_cmpR op_gt_str (pv 1) pe_str (nomark _)))))) pa_nil))) (pss_one (ps_raise rfl (takes_of rfl rfl rfl rfl) (pmk_own PySem.F.excBase_ValueError X.xB X.gB X.kB (raises_own X.bB X.tB) rfl))) pss_nil))), ?_⟩
    have raise : nameOk d = false → tJs [tC (.str "a name is a text of one to "), tFmt (tC (.int 8)), tC (.str " letters")] Str.empty [some v, none] H (fun _ H1 => E (.ref B) none H1) := fun e => ⟨_, rfl, by decide +kernel, .inr ⟨8, rfl, by decide +kernel, _, rfl, by decide +kernel, _, rfl, by decide +kernel, qe e _ (Same.refl _)⟩⟩
    refine ⟨_, rfl, v, _, rfl, hd.ty, _, _, rfl, rfl, kindD_ok d, by simp [kindT], ?_⟩
    refine ⟨_, rfl, ite2 (fun c => raise (by cases d <;> first | rfl | exact absurd c (by simp [kindD]))) (fun c => ?_)⟩
    obtain ⟨x, rfl, rfl, lx⟩ := hd.kStr (by cases h : decide (kindD d = "str") with | true => exact of_decide_eq_true h | false => rw [h] at c; exact absurd rfl c)
    have lx2 : x.length ≤ sizeLine := by rw [sizeLine_eq]; omega
    refine ⟨_, rfl, x, rfl, lx2, rfl, _, rfl, ite2 (fun c1 => raise ?_) (fun c1 => ⟨_, rfl, x, rfl, lx2, _, 8, rfl, rfl, _, rfl, ite2 (fun c2 => raise ?_) (fun c2 => ?_)⟩)⟩
    · have e : V.int (x.length : Nat) = V.int 0 := of_decide_eq_true c1
      have e : ((x.length : Nat) : Int) = 0 := by injection e
      show (decide (1 ≤ x.length) && _) = false
      rw [decide_eq_false (by omega : ¬ 1 ≤ x.length)]
      rfl
    · have c2 : (8 : Int) < (x.length : Nat) := of_decide_eq_true c2
      show (decide (1 ≤ x.length) && (decide (x.length ≤ 8) && _)) = false
      rw [decide_eq_false (by omega : ¬ x.length ≤ 8), Bool.false_and, Bool.and_false]
    · have l1 : 1 ≤ x.length := by
        by_cases z : x.length = 0
        · exact absurd (decide_eq_true (by rw [z]; rfl)) c1
        · omega
      have l8 : x.length ≤ 8 := by
        by_cases z : (8 : Int) < (x.length : Nat)
        · exact absurd (decide_eq_true z) c2
        · omega
      refine ⟨_, rfl, x, rfl, fun D nD => lc_str (fun i Hx => Hx D = some (.lst (((x.cps.toList.take i).map badC).map V.bl)) ∧ Same H Hx)
        ⟨by rw [List.take_zero]; exact upd_same, same_upd nD⟩ (fun i c Hx hc ⟨e1, u⟩ => ?_) (fun Hx ⟨e1, u⟩ => ?_)⟩
      · have close : ∀ b : Bool, b = badC c → ∃ acc, Hx D = some (HO.lst acc) ∧ acc.length < sizeLine ∧ upd Hx D (HO.lst (acc ++ [V.bl b])) D = some (HO.lst (((x.cps.toList.take (i + 1)).map badC).map V.bl)) ∧ Same H (upd Hx D (HO.lst (acc ++ [V.bl b]))) := fun b eb => by
          refine ⟨_, e1, by rw [List.length_map, List.length_map, List.length_take, sizeLine_eq, Array.length_toList]; show min i x.length < _; omega, ?_, fun b o e => ?_⟩
          · rw [upd_same, List.take_add_one, Array.getElem?_toList, hc, List.map_append, List.map_append, eb]
            rfl
          · rw [upd_ne (ne_of_none e nD)]
            exact u _ _ e
        refine ⟨rfl, _, rfl, _, _, rfl, rfl, _, rfl, ite2 (fun t1 => ?_) (fun t1 => ⟨_, rfl, _, _, rfl, rfl, ?_⟩)⟩
        · refine close true ?_
          rw [show (Str.ofString "a") = (⟨#[97]⟩ : Str) from by decide +kernel, lt_one] at t1
          show true = (decide (c < 97) || _)
          rw [t1, Bool.true_or]
        · refine close _ ?_
          rw [show (Str.ofString "a") = (⟨#[97]⟩ : Str) from by decide +kernel, lt_one] at t1
          rw [show (Str.ofString "z") = (⟨#[122]⟩ : Str) from by decide +kernel, lt_one]
          show _ = (decide (c < 97) || _)
          rw [Bool.eq_false_iff.mpr t1, Bool.false_or]
      · rw [List.take_of_length_le (by rw [Array.length_toList]; exact Nat.le_refl _)] at e1
        have en : nameOk (.str x) = !((x.cps.toList.map badC).any id) := by
          show (decide (1 ≤ x.length) && (decide (x.length ≤ 8) && !_)) = _
          rw [decide_eq_true l1, decide_eq_true l8, Bool.true_and, Bool.true_and, List.any_map]
          rfl
        refine ⟨D, _, rfl, SqL.of e1, _, rfl, ite2 (fun t => qe (by rw [en, t]; rfl) _ u) (fun t => q (by rw [en, Bool.eq_false_iff.mpr t]; rfl) _ u)⟩
def spWord (K : PySem.W.Frag) (B : Addr) : Sp := fun vs H Q E => ∃ (v : V) (a : Addr) (N : List Addr) (d : PyData) (fs : List (Str × Nat)), vs = [v, .ref a] ∧ Dq K N H v d ∧ (∀ H', Dp K H' (.ref a) (.tuple (frm fs))) ∧ (∀ f ∈ fs, PyData.strOk f.1 = true) ∧
  (∀ x, wordOf fs d = some x → ∀ H', Same H H' → Q (.str x) H') ∧ (wordOf fs d = none → ∀ H', Same H H' → E (.ref B) none H')
theorem ok_word_of {Lp B D N U : Addr} (X : ExTxt K mg Lp B D N U) {f : Addr} {fd : FuncData} (T : Txt K mg C) (F : DefAt K mg "_word_of" "_word_of" s_word_of ["thing", "forms"] f fd) : FnOk P w K mg base (L2.CX P w) 1 f fd ["thing", "forms"] (spWord K B) := by
  refine F.F.okX sc_word_of (fun vs H Q E h => ?_) (fun cdv A outer z H vs Q E hr h => ?_)
  · obtain ⟨v, a, N, d, fs, rfl, _⟩ := h
    rfl
  · obtain ⟨v, a, N, d, fs, rfl, hd, hf, sf, q, qe⟩ := h
    refine ⟨_, (pss_cons (ps_if (PW.pt (pw_or (pt_cmpR op_neTy (pe_callTy call_type1 (by rfl) T.m_type (by decide +kernel) (pa_cons (pv 0) pa_nil)) (pe_bltn (v := .ty "tuple") (by rfl) T.m_tuple (by decide +kernel) rfl) (nomark _)) (pw_or1 (pt_cmpR op_eq (pe_callB call_len_seq (by rfl) T.m_len (by decide +kernel) (pa_cons (pv 0) pa_nil)) pe_int (nomark _))))) (pss_one (ps_raise rfl (takes_of rfl rfl rfl rfl) (pmk_own PySem.F.excBase_ValueError X.xB X.gB X.kB (raises_own X.bB X.tB) rfl))) pss_nil)
      (pss_cons (ps_set (i := 2) sc_word_of.nd rfl (.inl rfl) (pe_ix ix_tup (pv 0) pe_int (fun _ _ => rfl)))
      (pss_cons (ps_if (PW.pt (pw_or (pt_cmpR op_neTy (pe_callTy call_type1 (by rfl) T.m_type (by decide +kernel) (pa_cons (pv 2) pa_nil)) (pe_bltn (v := .ty "str") (by rfl) T.m_str (by decide +kernel) rfl) (nomark _)) (pw_or1 (pt_cmpR (op_notInT (room65 hr)) (pe_tup (pa_cons (pv 2) (pa_cons (pe_callB call_len_seq (by rfl) T.m_len (by decide +kernel) (pa_cons (pv 0) pa_nil)) pa_nil))) (pv 1) (by rfl))))) (pss_one (ps_raise rfl (takes_of rfl rfl rfl rfl) (pmk_own PySem.F.excBase_ValueError X.xB X.gB X.kB (raises_own X.bB X.tB) rfl))) pss_nil)
      (pss_one (ps_ret (pv 2)))))), ?_⟩
    refine ⟨_, rfl, v, _, rfl, hd.ty, _, _, rfl, rfl, kindD_ok d, by simp [kindT], ?_⟩
    refine ⟨_, rfl, ite2 (fun c => qe (by cases d <;> first | rfl | exact absurd c (by simp [kindD])) _ (Same.refl _)) (fun c => ?_)⟩
    obtain ⟨p, xs, ds, rfl, rfl, st, ad⟩ := hd.kTup (by cases h : decide (kindD d = "tuple") with | true => exact of_decide_eq_true h | false => rw [h] at c; exact absurd rfl c)
    refine ⟨_, rfl, p, xs, rfl, .inr st, rfl, _, rfl, ite2 (fun c1 => qe ?_ _ (Same.refl _)) (fun c1 => ?_)⟩
    · have e : V.int (xs.length : Nat) = V.int 0 := of_decide_eq_true c1
      have e : ((xs.length : Nat) : Int) = 0 := by injection e
      have l := ad.len
      cases ds with
      | nil => rfl
      | cons _ _ => rw [l, List.length_cons] at e; omega
    · cases ad with
      | nil => exact absurd rfl c1
      | @cons v1 vs1 d1 ds1 h1 ad1 =>
        refine ⟨_, rfl, p, _, _, _, rfl, rfl, st, atI_nat (j := 0) rfl, ?_⟩
        refine ⟨_, rfl, v1, _, rfl, h1.ty, _, _, rfl, rfl, kindD_ok d1, by simp [kindT], ?_⟩
        refine ⟨_, rfl, ite2 (fun c => qe (by cases d1 <;> first | rfl | exact absurd c (by simp [kindD])) _ (Same.refl _)) (fun c => ?_)⟩
        obtain ⟨x, rfl, rfl, lx⟩ := h1.kStr (by cases h : decide (kindD d1 = "str") with | true => exact of_decide_eq_true h | false => rw [h] at c; exact absurd rfl c)
        have sx : PyData.strOk x = true := by cases h1 with | str q _ => exact q
        refine ⟨_, rfl, _, rfl, p, _, rfl, .inr st, (by show 2 ≤ sizeLine; decide), fun t nt => ?_⟩
        have u := same_upd (o := .tup [.str x, .int ((V.str x :: vs1).length : Nat)]) nt
        have el : (V.str x :: vs1).length = ds1.length + 1 := by rw [List.length_cons, ad1.len]
        refine ⟨_, rfl, .tuple [.str x, .int ((V.str x :: vs1).length : Nat)], frm fs, .tup (SqT.of upd_same) (.cons (.str _) (.cons (.int _) .nil)), hf _, shaped_pair sx, shaped_frm sf, ?_⟩
        rw [el] at u ⊢
        rw [any_frm]
        refine ⟨_, rfl, ite2 (fun c2 => qe (if_neg ?_) _ u) (fun c2 => ⟨_, rfl, q x (if_pos ?_) _ u⟩)⟩
        · intro m
          rw [decide_eq_true m] at c2
          exact absurd c2 (by decide)
        · by_cases m : (x, ds1.length + 1) ∈ fs
          · exact m
          · rw [decide_eq_false m] at c2
            exact absurd rfl c2
theorem at_dq {N : List Addr} {H : Hp} {xs : List V} {ds : List PyData} {k : Nat} (A : DqAll K N H xs ds) (l : k < ds.length) : ∃ u, atI xs ((k : Nat) : Int) = some u ∧ Dq K N H u (ds.getD k .none) := by
  obtain ⟨u, e, h⟩ := A.at_ l
  exact ⟨u, atI_nat e, h⟩
/-- what stands behind a word of the forms -/
theorem word_dq {N : List Addr} {H : Hp} {v : V} {d : PyData} {fs : List (Str × Nat)} {x : Str} (h : Dq K N H v d) (e : wordOf fs d = some x) :
    ∃ (p : Addr) (xs : List V) (n : Nat), v = .ref p ∧ SqT K H p xs ∧ (x, n) ∈ fs ∧ ∀ k, k < n → ∃ u, atI xs ((k : Nat) : Int) = some u ∧ Dq K N H u (atD k d) := by
  obtain ⟨r, rfl, m⟩ := wordOf_some e
  cases h with
  | tup st ad => exact ⟨_, _, _, rfl, st, m, fun k l => at_dq ad l⟩
def spEx (K : PySem.W.Frag) (B : Addr) (n : Nat) : Sp := fun vs H Q E => ∃ (v : V) (N : List Addr) (d : PyData), vs = [v, .int (n : Nat)] ∧ Dq K N H v d ∧ (exOk n d = true → ∀ H', Same H H' → Q .non H') ∧ (exOk n d = false → ∀ H', Same H H' → E (.ref B) none H')
theorem exOk_word {n : Nat} {d : PyData} {x : Str} (e : wordOf EXPRF d = some x) : exOk (n + 1) d = if x = "num" then numOk (atD 1 d) else if x = "name" then nameOk (atD 1 d) else exOk n (atD 1 d) && exOk n (atD 2 d) := by
  show (match wordOf EXPRF d with | none => false | some w => _) = _
  rw [e]
theorem exOk_none {n : Nat} {d : PyData} (e : wordOf EXPRF d = none) : exOk (n + 1) d = false := by
  show (match wordOf EXPRF d with | none => false | some w => _) = _
  rw [e]
theorem dec_strV {x y : Str} : decide (V.str x = V.str y) = decide (x = y) := by
  rw [Bool.eq_iff_iff, decide_eq_true_eq, decide_eq_true_eq]
  exact ⟨fun z => by injection z, fun z => by rw [z]⟩
theorem exprs_ok : ∀ f ∈ EXPRF, PyData.strOk f.1 = true := by decide +kernel
theorem stms_ok : ∀ f ∈ STMSF, PyData.strOk f.1 = true := by decide +kernel
theorem rows_ok : ∀ f ∈ ROWSF, PyData.strOk f.1 = true := by decide +kernel
theorem ok_need_expression {Lp B D N U : Addr} (X : ExTxt K mg Lp B D N U) {f : Addr} {fd : FuncData} (T : Txt K mg C) (F : DefAt K mg "_need_expression" "_need_expression" s_need_expression ["expression", "deep"] f fd) : ∀ n, FnOk P w K mg base (L2.CX P w) (n + 2) f fd ["expression", "deep"] (spEx K B n) := by
  obtain ⟨u, gM, rM⟩ := T.c_MOST_DEEP
  obtain ⟨ea, gE, fE⟩ := T.c_EXPRESSIONS
  obtain ⟨f1, fd1, D_word_of⟩ := T.d_word_of
  have G_word_of : FnOk P w K mg base (L2.CX P w) 1 f1 fd1 ["thing", "forms"] (spWord K B) := ok_word_of X T D_word_of
  obtain ⟨f2, fd2, D_need_number⟩ := T.d_need_number
  have G_need_number : FnOk P w K mg base (L2.CX P w) 1 f2 fd2 ["n"] (spNum K B) := ok_need_number X T D_need_number
  obtain ⟨f3, fd3, D_need_name⟩ := T.d_need_name
  have G_need_name : FnOk P w K mg base (L2.CX P w) 1 f3 fd3 ["x"] (spNameOk K B) := ok_need_name X T D_need_name
  intro n
  induction n with
  | zero =>
    have D_need_expression := F
    have G_need_expression : FnOk P w K mg base (L2.CX P w) 1 f fd ["expression", "deep"] (fun _ _ _ _ => False) := ⟨fun _ _ _ _ h => h.elim, fun _ _ _ _ _ _ _ _ _ _ _ _ _ h => h.elim⟩
    refine F.F.okX sc_need_expression (fun vs H Q E h => ?_) (fun cdv A outer z H vs Q E hr h => ?_)
    · obtain ⟨v, N, d, rfl, _⟩ := h
      rfl
    · obtain ⟨v, N, d, rfl, hd, q, qe⟩ := h
      refine ⟨_, (pss_cons (ps_if (pt_cmpR op_eq (pv 1) pe_int (nomark _)) (pss_one (ps_raise rfl (takes_of rfl rfl rfl rfl) (SkE.pmk_own1 PySem.F.excBase_ValueError X.xB X.gB X.kB (raises_own X.bB X.tB) rfl (pe_joined (.cons pe_str (.cons (pe_fmt (pe_glob (v := .int 5) rfl gM rM)) (.cons pe_str .nil))))))) pss_nil)
      (pss_cons (ps_set (i := 2) sc_need_expression.nd rfl (.inl rfl) (pe_callS G_word_of (hr.mono (by omega)) (by rfl) D_word_of.g D_word_of.F.kp D_word_of.b (fun σ => passAt (takes_of rfl rfl rfl rfl) σ) (pa_cons (pv 0) (pa_cons (pe_glob (v := .ref ea) rfl gE rfl) pa_nil))))
      (pss_one (ps_if (pt_cmpR op_eq (pv 2) pe_str (nomark _)) (pss_one (ps_expr (pe_callS G_need_number (hr.mono (by omega)) (by rfl) D_need_number.g D_need_number.F.kp D_need_number.b (fun σ => passAt (takes_of rfl rfl rfl rfl) σ) (pa_cons (pe_ix ix_tup (pv 0) pe_int (fun _ _ => rfl)) pa_nil)))) (pss_one (ps_if (pt_cmpR op_eq (pv 2) pe_str (nomark _)) (pss_one (ps_expr (pe_callS G_need_name (hr.mono (by omega)) (by rfl) D_need_name.g D_need_name.F.kp D_need_name.b (fun σ => passAt (takes_of rfl rfl rfl rfl) σ) (pa_cons (pe_ix ix_tup (pv 0) pe_int (fun _ _ => rfl)) pa_nil)))) (pss_cons (ps_expr (pe_callS G_need_expression (hr.mono (by omega)) (by rfl) D_need_expression.g D_need_expression.F.kp D_need_expression.b (fun σ => passAt (takes_of rfl rfl rfl rfl) σ) (pa_cons (pe_ix ix_tup (pv 0) pe_int (fun _ _ => rfl)) (pa_cons (pe_op op_sub (pv 1) pe_int) pa_nil)))) (pss_one (ps_expr (pe_callS G_need_expression (hr.mono (by omega)) (by rfl) D_need_expression.g D_need_expression.F.kp D_need_expression.b (fun σ => passAt (takes_of rfl rfl rfl rfl) σ) (pa_cons (pe_ix ix_tup (pv 0) pe_int (fun _ _ => rfl)) (pa_cons (pe_op op_sub (pv 1) pe_int) pa_nil)))))))))))), ?_⟩
      exact ⟨_, rfl, rfl, _, rfl, ite2 (fun _ => ⟨_, rfl, by decide +kernel, .inr ⟨5, rfl, by decide +kernel, _, rfl, by decide +kernel, _, rfl, by decide +kernel, qe rfl _ (Same.refl _)⟩⟩) (fun c => absurd rfl c)⟩
  | succ n ih =>
    have D_need_expression := F
    have G_need_expression := ih
    refine F.F.okX sc_need_expression (fun vs H Q E h => ?_) (fun cdv A outer z H vs Q E hr h => ?_)
    · obtain ⟨v, N, d, rfl, _⟩ := h
      rfl
    · obtain ⟨v, N, d, rfl, hd, q, qe⟩ := h
      refine ⟨_, (pss_cons (ps_if (pt_cmpR op_eq (pv 1) pe_int (nomark _)) (pss_one (ps_raise rfl (takes_of rfl rfl rfl rfl) (SkE.pmk_own1 PySem.F.excBase_ValueError X.xB X.gB X.kB (raises_own X.bB X.tB) rfl (pe_joined (.cons pe_str (.cons (pe_fmt (pe_glob (v := .int 5) rfl gM rM)) (.cons pe_str .nil))))))) pss_nil)
      (pss_cons (ps_set (i := 2) sc_need_expression.nd rfl (.inl rfl) (pe_callS G_word_of (hr.mono (by omega)) (by rfl) D_word_of.g D_word_of.F.kp D_word_of.b (fun σ => passAt (takes_of rfl rfl rfl rfl) σ) (pa_cons (pv 0) (pa_cons (pe_glob (v := .ref ea) rfl gE rfl) pa_nil))))
      (pss_one (ps_if (pt_cmpR op_eq (pv 2) pe_str (nomark _)) (pss_one (ps_expr (pe_callS G_need_number (hr.mono (by omega)) (by rfl) D_need_number.g D_need_number.F.kp D_need_number.b (fun σ => passAt (takes_of rfl rfl rfl rfl) σ) (pa_cons (pe_ix ix_tup (pv 0) pe_int (fun _ _ => rfl)) pa_nil)))) (pss_one (ps_if (pt_cmpR op_eq (pv 2) pe_str (nomark _)) (pss_one (ps_expr (pe_callS G_need_name (hr.mono (by omega)) (by rfl) D_need_name.g D_need_name.F.kp D_need_name.b (fun σ => passAt (takes_of rfl rfl rfl rfl) σ) (pa_cons (pe_ix ix_tup (pv 0) pe_int (fun _ _ => rfl)) pa_nil)))) (pss_cons (ps_expr (pe_callS G_need_expression (hr.mono (by omega)) (by rfl) D_need_expression.g D_need_expression.F.kp D_need_expression.b (fun σ => passAt (takes_of rfl rfl rfl rfl) σ) (pa_cons (pe_ix ix_tup (pv 0) pe_int (fun _ _ => rfl)) (pa_cons (pe_op op_sub (pv 1) pe_int) pa_nil)))) (pss_one (ps_expr (pe_callS G_need_expression (hr.mono (by omega)) (by rfl) D_need_expression.g D_need_expression.F.kp D_need_expression.b (fun σ => passAt (takes_of rfl rfl rfl rfl) σ) (pa_cons (pe_ix ix_tup (pv 0) pe_int (fun _ _ => rfl)) (pa_cons (pe_op op_sub (pv 1) pe_int) pa_nil)))))))))))), ?_⟩
      refine ⟨_, rfl, rfl, _, rfl, ite2 (fun c => ?_) (fun _ => ?_)⟩
      · have e : V.int ((n + 1 : Nat) : Int) = V.int 0 := of_decide_eq_true c
        have e : ((n + 1 : Nat) : Int) = 0 := by injection e
        omega
      refine ⟨_, rfl, v, ea, N, d, EXPRF, rfl, hd, fE, exprs_ok, fun x ex H1 s1 => ?_, fun ex H1 s1 => qe (exOk_none ex) H1 s1⟩
      rw [exOk_word ex] at q qe
      obtain ⟨p, xs, m, rfl, st, mm, at_⟩ := word_dq (hd.stay (Sty.same s1)) ex
      have hm : 2 ≤ m := by
        simp only [EXPRF, List.mem_cons, Prod.mk.injEq, List.not_mem_nil, or_false] at mm
        omega
      obtain ⟨v1, a1, d1⟩ := at_ 1 hm
      refine ⟨_, rfl, rfl, _, rfl, ite2 (fun c => ?_) (fun c => ⟨_, rfl, rfl, _, rfl, ite2 (fun c2 => ?_) (fun c2 => ?_)⟩)⟩
      · have c : x = "num" := by injection of_decide_eq_true c
        rw [if_pos c] at q qe
        exact ⟨_, rfl, p, xs, _, _, rfl, rfl, st, a1, v1, _, _, rfl, d1, fun e => q e _ s1, fun e => qe e _ s1⟩
      · have c : ¬ x = "num" := fun z => c (decide_eq_true (by rw [z]))
        have c2 : x = "name" := by injection of_decide_eq_true c2
        rw [if_neg c, if_pos c2] at q qe
        exact ⟨_, rfl, p, xs, _, _, rfl, rfl, st, a1, v1, _, _, rfl, d1, fun e H2 s2 => q e _ (s1.trans s2), fun e H2 s2 => qe e _ (s1.trans s2)⟩
      · have c : ¬ x = "num" := fun z => c (decide_eq_true (by rw [z]))
        have c2 : ¬ x = "name" := fun z => c2 (decide_eq_true (by rw [z]))
        rw [if_neg c, if_neg c2] at q qe
        have hm : 3 ≤ m := by
          simp only [EXPRF, List.mem_cons, Prod.mk.injEq, List.not_mem_nil, or_false] at mm
          rcases mm with z | z | z | z
          · exact absurd z.1 c
          · exact absurd z.1 c2
          · omega
          · omega
        obtain ⟨v2, a2, d2⟩ := at_ 2 hm
        refine ⟨_, rfl, p, xs, _, _, rfl, rfl, st, a1, _, rfl, _, 1, rfl, rfl, v1, _, _, congrArg (fun i => [v1, V.int i]) (by omega), d1, fun e H2 s2 => ?_, fun e H2 s2 => qe (by rw [e]; rfl) _ (s1.trans s2)⟩
        refine ⟨_, rfl, p, xs, _, _, rfl, rfl, SqT.keeps st (TupsStay.same s2), a2, _, rfl, _, 1, rfl, rfl, v2, _, _, congrArg (fun i => [v2, V.int i]) (by omega), d2.stay (Sty.same s2), fun e2 H3 s3 => q (by rw [e, e2]; rfl) _ ((s1.trans s2).trans s3), fun e2 H3 s3 => qe (by rw [e, e2]; rfl) _ ((s1.trans s2).trans s3)⟩
def innerF : Nat → Nat → PyData → Option Nat
  | 0 => fun _ _ => none
  | l + 1 => needRow l
theorem needRow_eq : ∀ l, needRow l = needRowB (innerF l)
  | 0 => rfl
  | _ + 1 => rfl
def spNeedRow (K : PySem.W.Frag) (B : Addr) (l : Nat) : Sp := fun vs H Q E => ∃ (v : V) (N : List Addr) (d : PyData) (left : Nat), vs = [v, .int (left : Nat), .int (l : Nat)] ∧ Dq K N H v d ∧ (∀ m, needRow l left d = some m → ∀ H', Same H H' → Q (.int (m : Nat)) H') ∧ (needRow l left d = none → ∀ H', Same H H' → E (.ref B) none H')
def spNeedSt (K : PySem.W.Frag) (B : Addr) (l : Nat) : Sp := fun vs H Q E => ∃ (v : V) (N : List Addr) (d : PyData) (left : Nat), vs = [v, .int (left : Nat), .int (l : Nat)] ∧ Dq K N H v d ∧ (∀ m, needSt (innerF l) left d = some m → ∀ H', Same H H' → Q (.int (m : Nat)) H') ∧ (needSt (innerF l) left d = none → ∀ H', Same H H' → E (.ref B) none H')
theorem needSt_word {inner : Nat → PyData → Option Nat} {left : Nat} {s : PyData} {x : Str} (e : wordOf STMSF s = some x) : needSt inner left s = if x = "say" then (if exOk 5 (atD 1 s) = true then some left else none)
    else if nameOk (atD 1 s) = true ∧ exOk 5 (atD 2 s) = true then (if x = "set" then some left else inner left (atD 3 s)) else none := by
  unfold needSt
  rw [e]
theorem needSt_none {inner : Nat → PyData → Option Nat} {left : Nat} {s : PyData} (e : wordOf STMSF s = none) : needSt inner left s = none := by
  unfold needSt
  rw [e]
theorem ok_need_statement {Lp B D N U : Addr} (X : ExTxt K mg Lp B D N U) {f f0 : Addr} {fd fd0 : FuncData} (T : Txt K mg C) (F : DefAt K mg "_need_statement" "_need_statement" s_need_statement ["statement", "statements", "laps"] f fd)
    (D_need_row : DefAt K mg "_need_row" "_need_row" s_need_row ["row", "statements", "laps"] f0 fd0) {l k : Nat} (hk : 7 ≤ k) (G_need_row : FnOk P w K mg base (L2.CX P w) k f0 fd0 ["row", "statements", "laps"] (fun vs H Q E => 1 ≤ l ∧ spNeedRow K B (l - 1) vs H Q E)) :
    FnOk P w K mg base (L2.CX P w) (k + 1) f fd ["statement", "statements", "laps"] (spNeedSt K B l) := by
  obtain ⟨u, gM, rM⟩ := T.c_MOST_DEEP
  obtain ⟨u2, gL, rL⟩ := T.c_MOST_LAPS
  obtain ⟨ea, gE, fE⟩ := T.c_STATEMENTS
  obtain ⟨f1, fd1, D_word_of⟩ := T.d_word_of
  have G_word_of : FnOk P w K mg base (L2.CX P w) 1 f1 fd1 ["thing", "forms"] (spWord K B) := ok_word_of X T D_word_of
  obtain ⟨f2, fd2, D_need_expression⟩ := T.d_need_expression
  have G_need_expression : FnOk P w K mg base (L2.CX P w) 7 f2 fd2 ["expression", "deep"] (spEx K B 5) := ok_need_expression X T D_need_expression 5
  obtain ⟨f3, fd3, D_need_name⟩ := T.d_need_name
  have G_need_name : FnOk P w K mg base (L2.CX P w) 1 f3 fd3 ["x"] (spNameOk K B) := ok_need_name X T D_need_name
  refine F.F.okX sc_need_statement (fun vs H Q E h => ?_) (fun cdv A outer z H vs Q E hr h => ?_)
  · obtain ⟨v, N, d, left, rfl, _⟩ := h
    rfl
  · obtain ⟨v, N, d, left, rfl, hd, q, qe⟩ := h
    refine ⟨_, (pss_cons (ps_set (i := 3) sc_need_statement.nd rfl (.inl rfl) (pe_callS G_word_of (hr.mono (by omega)) (by rfl) D_word_of.g D_word_of.F.kp D_word_of.b (fun σ => passAt (takes_of rfl rfl rfl rfl) σ) (pa_cons (pv 0) (pa_cons (pe_glob (v := .ref ea) rfl gE rfl) pa_nil))))
      (pss_cons (ps_if (pt_cmpR op_eq (pv 3) pe_str (nomark _)) (pss_cons (ps_expr (pe_callS G_need_expression (hr.mono (by omega)) (by rfl) D_need_expression.g D_need_expression.F.kp D_need_expression.b (fun σ => passAt (takes_of rfl rfl rfl rfl) σ) (pa_cons (pe_ix ix_tup (pv 0) pe_int (fun _ _ => rfl)) (pa_cons (pe_glob (v := .int 5) rfl gM rM) pa_nil)))) (pss_one (ps_ret (pv 1)))) pss_nil)
      (pss_cons (ps_expr (pe_callS G_need_name (hr.mono (by omega)) (by rfl) D_need_name.g D_need_name.F.kp D_need_name.b (fun σ => passAt (takes_of rfl rfl rfl rfl) σ) (pa_cons (pe_ix ix_tup (pv 0) pe_int (fun _ _ => rfl)) pa_nil)))
      (pss_cons (ps_expr (pe_callS G_need_expression (hr.mono (by omega)) (by rfl) D_need_expression.g D_need_expression.F.kp D_need_expression.b (fun σ => passAt (takes_of rfl rfl rfl rfl) σ) (pa_cons (pe_ix ix_tup (pv 0) pe_int (fun _ _ => rfl)) (pa_cons (pe_glob (v := .int 5) rfl gM rM) pa_nil))))
      (pss_cons (ps_if (pt_cmpR op_eq (pv 3) pe_str (nomark _)) (pss_one (ps_ret (pv 1))) pss_nil)
      (pss_cons (ps_if (pt_cmpR op_eq (pv 2) pe_int (nomark _)) (pss_one (ps_raise rfl (takes_of rfl rfl rfl rfl) (SkE.pmk_own1 PySem.F.excBase_ValueError X.xB X.gB X.kB (raises_own X.bB X.tB) rfl (pe_joined (.cons pe_str (.cons (pe_fmt (pe_glob (v := .int 3) rfl gL rL)) (.cons pe_str .nil))))))) pss_nil)
      (pss_one (ps_ret (pe_callS G_need_row (hr.mono (by omega)) (by rfl) D_need_row.g D_need_row.F.kp D_need_row.b (fun σ => passAt (takes_of rfl rfl rfl rfl) σ) (pa_cons (pe_ix ix_tup (pv 0) pe_int (fun _ _ => rfl)) (pa_cons (pv 1) (pa_cons (pe_op op_sub (pv 2) pe_int) pa_nil)))))))))))), ?_⟩
    refine ⟨_, rfl, v, ea, N, d, STMSF, rfl, hd, fE, stms_ok, fun x ex H1 s1 => ?_, fun ex H1 s1 => qe (needSt_none ex) H1 s1⟩
    rw [needSt_word ex] at q qe
    obtain ⟨p, xs, m, rfl, st, mm, at_⟩ := word_dq (hd.stay (Sty.same s1)) ex
    have hm : 2 ≤ m := by
      simp only [STMSF, List.mem_cons, Prod.mk.injEq, List.not_mem_nil, or_false] at mm
      omega
    obtain ⟨v1, a1, d1⟩ := at_ 1 hm
    refine ⟨_, rfl, rfl, _, rfl, ite2 (fun c => ?_) (fun c => ?_)⟩
    · have c : x = "say" := by injection of_decide_eq_true c
      rw [if_pos c] at q qe
      refine ⟨_, rfl, p, xs, _, _, rfl, rfl, st, a1, v1, _, _, rfl, d1, fun e H2 s2 => ?_, fun e H2 s2 => qe (by rw [if_neg (by rw [e]; decide)]) _ (s1.trans s2)⟩
      exact ⟨_, rfl, q _ (if_pos e) _ (s1.trans s2)⟩
    · have c : ¬ x = "say" := fun z => c (decide_eq_true (by rw [z]))
      rw [if_neg c] at q qe
      have hm : 3 ≤ m := by
        simp only [STMSF, List.mem_cons, Prod.mk.injEq, List.not_mem_nil, or_false] at mm
        rcases mm with z | z | z
        · omega
        · exact absurd z.1 c
        · omega
      obtain ⟨v2, a2, d2⟩ := at_ 2 hm
      refine ⟨_, rfl, p, xs, _, _, rfl, rfl, st, a1, v1, _, _, rfl, d1, fun e H2 s2 => ?_, fun e H2 s2 => qe (if_neg fun z => by rw [e] at z; exact absurd z.1 (by decide)) _ (s1.trans s2)⟩
      have st := SqT.keeps st (TupsStay.same s2)
      refine ⟨_, rfl, p, xs, _, _, rfl, rfl, st, a2, v2, _, _, rfl, d2.stay (Sty.same s2), fun e2 H3 s3 => ?_, fun e2 H3 s3 => qe (if_neg fun z => by rw [e2] at z; exact absurd z.2 (by decide)) _ ((s1.trans s2).trans s3)⟩
      rw [if_pos ⟨e, e2⟩] at q qe
      have st := SqT.keeps st (TupsStay.same s3)
      have s13 := (s1.trans s2).trans s3
      refine ⟨_, rfl, rfl, _, rfl, ite2 (fun c3 => ?_) (fun c3 => ?_)⟩
      · have c3 : x = "set" := by injection of_decide_eq_true c3
        rw [if_pos c3] at q
        exact ⟨_, rfl, q _ rfl _ s13⟩
      · have c3 : ¬ x = "set" := fun z => c3 (decide_eq_true (by rw [z]))
        rw [if_neg c3] at q qe
        have hm : 4 ≤ m := by
          simp only [STMSF, List.mem_cons, Prod.mk.injEq, List.not_mem_nil, or_false] at mm
          rcases mm with z | z | z
          · exact absurd z.1 c3
          · exact absurd z.1 c
          · omega
        obtain ⟨v3, a3, d3⟩ := at_ 3 hm
        refine ⟨_, rfl, rfl, _, rfl, ite2 (fun c4 => ?_) (fun c4 => ?_)⟩
        · have e4 : V.int ((l : Nat) : Int) = V.int 0 := of_decide_eq_true c4
          have e4 : ((l : Nat) : Int) = 0 := by injection e4
          have e4 : l = 0 := by omega
          subst e4
          exact ⟨_, rfl, by decide +kernel, .inr ⟨3, rfl, by decide +kernel, _, rfl, by decide +kernel, _, rfl, by decide +kernel, qe rfl _ s13⟩⟩
        · have l1 : 1 ≤ l := by
            by_cases z : l = 0
            · subst z
              exact absurd rfl c4
            · omega
          obtain ⟨l, rfl⟩ : ∃ j, l = j + 1 := ⟨l - 1, by omega⟩
          refine ⟨_, rfl, p, xs, _, _, rfl, rfl, st, a3, _, rfl, _, rfl, _, 1, rfl, rfl, l1, v3, _, _, left, congrArg (fun i => [v3, V.int (left : Nat), V.int i]) (by omega), d3.stay (Sty.same (s2.trans s3)), fun m e5 H4 s4 => q m e5 _ (s13.trans s4), fun e5 H4 s4 => qe e5 _ (s13.trans s4)⟩
end
section
variable {P : Program} {w : World} {K : PySem.W.Frag} {mg : Str → Option Value} {base : Heap} {C : Addr}
theorem needRow_none {l left : Nat} {d : PyData} (e : wordOf ROWSF d = none) : needRow l left d = none := by
  rw [needRow_eq]
  show (match wordOf ROWSF d with | none => none | some _ => _) = _
  rw [e]
theorem needRow_tup {l left : Nat} {d : PyData} {x : Str} {ps : List PyData} (e : wordOf ROWSF d = some x) (e2 : atD 1 d = .tuple ps) : needRow l left d = needSts (innerF l) left ps := by
  rw [needRow_eq]
  show (match wordOf ROWSF d with | none => none | some _ => match atD 1 d with | .tuple parts => needSts (innerF l) left parts | _ => none) = _
  rw [e, e2]
theorem needRow_not {l left : Nat} {d : PyData} (e2 : ¬ kindD (atD 1 d) = "tuple") : needRow l left d = none := by
  rw [needRow_eq]
  show (match wordOf ROWSF d with | none => none | some _ => match atD 1 d with | .tuple parts => needSts (innerF l) left parts | _ => none) = _
  cases wordOf ROWSF d with
  | none => rfl
  | some _ => 
    cases h : atD 1 d with
    | tuple ps => rw [h] at e2; exact absurd rfl e2
    | _ => rfl
theorem ok_need_row {Lp B D N U : Addr} (X : ExTxt K mg Lp B D N U) {f f0 : Addr} {fd fd0 : FuncData} (T : Txt K mg C) (F : DefAt K mg "_need_row" "_need_row" s_need_row ["row", "statements", "laps"] f fd)
    (D_need_statement : DefAt K mg "_need_statement" "_need_statement" s_need_statement ["statement", "statements", "laps"] f0 fd0) {l k : Nat} (hk : 1 ≤ k) (G_need_statement : FnOk P w K mg base (L2.CX P w) k f0 fd0 ["statement", "statements", "laps"] (spNeedSt K B l)) :
    FnOk P w K mg base (L2.CX P w) (k + 1) f fd ["row", "statements", "laps"] (spNeedRow K B l) := by
  obtain ⟨u, gM, rM⟩ := T.c_MOST_STATEMENTS
  obtain ⟨ea, gE, fE⟩ := T.c_ROWS
  obtain ⟨f1, fd1, D_word_of⟩ := T.d_word_of
  have G_word_of : FnOk P w K mg base (L2.CX P w) 1 f1 fd1 ["thing", "forms"] (spWord K B) := ok_word_of X T D_word_of
  refine F.F.okX sc_need_row (fun vs H Q E h => ?_) (fun cdv A outer z H vs Q E hr h => ?_)
  · obtain ⟨v, N, d, left, rfl, _⟩ := h
    rfl
  · obtain ⟨v, N, d, left, rfl, hd, q, qe⟩ := h
    refine ⟨_, (pss_cons (ps_expr (pe_callS G_word_of (hr.mono (by omega)) (by rfl) D_word_of.g D_word_of.F.kp D_word_of.b (fun σ => passAt (takes_of rfl rfl rfl rfl) σ) (pa_cons (pv 0) (pa_cons (pe_glob (v := .ref ea) rfl gE rfl) pa_nil))))
      (pss_cons (ps_set (i := 3) sc_need_row.nd rfl (.inl rfl) (pe_ix ix_tup (pv 0) pe_int (fun _ _ => rfl)))
      (pss_cons (ps_if (pt_cmpR op_neTy (pe_callTy call_type1 (by rfl) T.m_type (by decide +kernel) (pa_cons (pv 3) pa_nil)) (pe_bltn (v := .ty "tuple") (by rfl) T.m_tuple (by decide +kernel) rfl) (nomark _)) (pss_one (ps_raise rfl (takes_of rfl rfl rfl rfl) (pmk_own PySem.F.excBase_ValueError X.xB X.gB X.kB (raises_own X.bB X.tB) rfl))) pss_nil)
      (pss_cons (ps_set (i := 4) sc_need_row.nd rfl (.inl rfl) (pv 1))
      (pss_cons (ps_for (passes_of rfl) rfl (pi_tup (pv 3)) (pg_name (i := 5) sc_need_row.nd rfl (.inl rfl)) (pss_cons (ps_if (pt_cmpR op_eq (pv 4) pe_int (nomark _)) (pss_one (ps_raise rfl (takes_of rfl rfl rfl rfl) (SkE.pmk_own1 PySem.F.excBase_ValueError X.xB X.gB X.kB (raises_own X.bB X.tB) rfl (pe_joined (.cons pe_str (.cons (pe_fmt (pe_glob (v := .int 40) rfl gM rM)) (.cons pe_str .nil))))))) pss_nil) (pss_one (ps_set (i := 4) sc_need_row.nd rfl (.inl rfl) (pe_callS G_need_statement (hr.mono (by omega)) (by rfl) D_need_statement.g D_need_statement.F.kp D_need_statement.b (fun σ => passAt (takes_of rfl rfl rfl rfl) σ) (pa_cons (pv 5) (pa_cons (pe_op op_sub (pv 4) pe_int) (pa_cons (pv 2) pa_nil))))))))
      (pss_one (ps_ret (pv 4)))))))), ?_⟩
    refine ⟨_, rfl, v, ea, N, d, ROWSF, rfl, hd, fE, rows_ok, fun x ex H1 s1 => ?_, fun ex H1 s1 => qe (needRow_none ex) H1 s1⟩
    obtain ⟨p, xs, m, rfl, st, mm, at_⟩ := word_dq (hd.stay (Sty.same s1)) ex
    have hm : 2 ≤ m := by
      simp only [ROWSF, List.mem_cons, Prod.mk.injEq, List.not_mem_nil, or_false] at mm
      omega
    obtain ⟨v1, a1, d1⟩ := at_ 1 hm
    refine ⟨_, rfl, p, xs, _, _, rfl, rfl, st, a1, _, rfl, v1, _, rfl, d1.ty, _, _, rfl, rfl, kindD_ok _, by simp [kindT], _, rfl, ite2 (fun c => qe (needRow_not fun z => by rw [decide_eq_true z] at c; exact absurd c (by decide)) _ s1) (fun c => ?_)⟩
    obtain ⟨pt, ys, ds, ed, rfl, st1, ad⟩ := d1.kTup (by cases h : decide (kindD (atD 1 d) = "tuple") with | true => exact of_decide_eq_true h | false => rw [h] at c; exact absurd rfl c)
    rw [needRow_tup ex ed] at q qe
    have len := ad.len
    refine ⟨_, rfl, _, rfl, pt, rfl, ⟨_, st1⟩, for_tup (K := K) (a := pt) (xs := ys) (fun i σ H2 => ∃ (v5 : Option V) (lf : Nat), σ = [some (.ref p), some (.int (left : Nat)), some (.int (l : Nat)), some (.ref pt), some (.int (lf : Nat)), v5] ∧ Same H1 H2 ∧ needSts (innerF l) lf (ds.drop i) = needSts (innerF l) left ds)
      ⟨none, left, rfl, Same.refl _, rfl⟩ (fun i σ H2 _ ⟨_, _, _, u2, _⟩ => SqT.keeps st1 (TupsStay.same u2)) (fun i y σ H2 hy h2 => ?_) (fun σ H2 h2 => ?_)⟩
    · obtain ⟨v5, lf, rfl, u2, eq2⟩ := h2
      have hi : i < ds.length := by
        rw [← len]
        exact (List.getElem?_eq_some_iff.mp hy).1
      obtain ⟨y', hy', dy⟩ := ad.at_ hi
      obtain rfl : y = y' := Option.some.inj (hy.symm.trans hy')
      rw [List.drop_eq_getElem_cons hi] at eq2
      have ey : ds.getD i .none = ds[i] := by rw [List.getD_eq_getElem?_getD, List.getElem?_eq_getElem hi]; rfl
      rw [ey] at dy
      refine ⟨_, rfl, rfl, _, rfl, ite2 (fun c => ?_) (fun c => ?_)⟩
      · have e4 : V.int ((lf : Nat) : Int) = V.int 0 := of_decide_eq_true c
        have e4 : ((lf : Nat) : Int) = 0 := by injection e4
        have e4 : lf = 0 := by omega
        subst e4
        exact ⟨_, rfl, by decide +kernel, .inr ⟨40, rfl, by decide +kernel, _, rfl, by decide +kernel, _, rfl, by decide +kernel, qe eq2.symm _ (s1.trans u2)⟩⟩
      · obtain ⟨lf, rfl⟩ : ∃ j, lf = j + 1 := by
          cases lf with
          | zero => exact absurd rfl c
          | succ j => exact ⟨j, rfl⟩
        have eq3 : (match needSt (innerF l) lf ds[i] with | none => none | some l' => needSts (innerF l) l' (ds.drop (i + 1))) = needSts (innerF l) left ds := eq2
        refine ⟨_, rfl, _, rfl, _, 1, rfl, rfl, _, rfl, y, _, _, lf, congrArg (fun j => [y, V.int j, V.int (l : Nat)]) (by omega), dy.stay (Sty.same u2), fun m e5 H4 s4 => ?_, fun e5 H4 s4 => ?_⟩
        · rw [e5] at eq3
          exact ⟨_, _, rfl, u2.trans s4, eq3⟩
        · rw [e5] at eq3
          exact qe eq3.symm _ ((s1.trans u2).trans s4)
    · obtain ⟨v5, lf, rfl, u2, eq2⟩ := h2
      rw [len, List.drop_length] at eq2
      exact ⟨_, rfl, q _ eq2.symm _ (s1.trans u2)⟩
theorem needs_all {Lp B D N U : Addr} (X : ExTxt K mg Lp B D N U) {f f0 : Addr} {fd fd0 : FuncData} (T : Txt K mg C) (D_need_row : DefAt K mg "_need_row" "_need_row" s_need_row ["row", "statements", "laps"] f fd)
    (D_need_statement : DefAt K mg "_need_statement" "_need_statement" s_need_statement ["statement", "statements", "laps"] f0 fd0) : ∀ l, FnOk P w K mg base (L2.CX P w) (2 * l + 9) f fd ["row", "statements", "laps"] (spNeedRow K B l)
  | 0 => ok_need_row X T D_need_row D_need_statement (by omega) (ok_need_statement X T D_need_statement D_need_row (k := 7) (by omega) ⟨fun _ _ _ _ h => absurd h.1 (by decide), fun _ _ _ _ _ _ _ _ _ _ _ _ _ h => absurd h.1 (by decide)⟩)
  | l + 1 => ok_need_row X T D_need_row D_need_statement (by omega) (ok_need_statement X T D_need_statement D_need_row (l := l + 1) (k := 2 * l + 9) (by omega) (fn_drop (needs_all X T D_need_row D_need_statement l)))
def spProgram (K : PySem.W.Frag) (B : Addr) : Sp := fun vs H Q E => ∃ (v : V) (N : List Addr) (d : PyData), vs = [v] ∧ Dq K N H v d ∧ (isProg d = true → ∀ H', Same H H' → Q .non H') ∧ (isProg d = false → ∀ H', Same H H' → E (.ref B) none H')
theorem ok_need_program {Lp B D N U : Addr} (X : ExTxt K mg Lp B D N U) {f : Addr} {fd : FuncData} (T : Txt K mg C) (F : DefAt K mg "need_program" "need_program" s_need_program ["program"] f fd) : FnOk P w K mg base (L2.CX P w) 16 f fd ["program"] (spProgram K B) := by
  obtain ⟨u, gM, rM⟩ := T.c_MOST_STATEMENTS
  obtain ⟨u2, gL, rL⟩ := T.c_MOST_LAPS
  obtain ⟨f1, fd1, D_need_row⟩ := T.d_need_row
  obtain ⟨f2, fd2, D_need_statement⟩ := T.d_need_statement
  have G_need_row : FnOk P w K mg base (L2.CX P w) 15 f1 fd1 ["row", "statements", "laps"] (spNeedRow K B 3) := needs_all X T D_need_row D_need_statement 3
  refine F.F.okX sc_need_program (fun vs H Q E h => ?_) (fun cdv A outer z H vs Q E hr h => ?_)
  · obtain ⟨v, N, d, rfl, _⟩ := h
    rfl
  · obtain ⟨v, N, d, rfl, hd, q, qe⟩ := h
    refine ⟨_, (pss_one (ps_expr (pe_callS G_need_row (hr.mono (by decide)) (by rfl) D_need_row.g D_need_row.F.kp D_need_row.b (fun σ => passAt (takes_of rfl rfl rfl rfl) σ) (pa_cons (pv 0) (pa_cons (pe_glob (v := .int 40) rfl gM rM) (pa_cons (pe_glob (v := .int 3) rfl gL rL) pa_nil)))))), ?_⟩
    exact ⟨_, rfl, v, N, d, 40, rfl, hd, fun m e H1 s1 => q (by show (needRow 3 40 d).isSome = true; rw [e]; rfl) _ s1, fun e H1 s1 => qe (by show (needRow 3 40 d).isSome = false; rw [e]; rfl) _ s1⟩
end
/-! ### tame expressions and rows: how numbers grow -/
def BndE (gs os : List Str) (bd : Int → Int → Int) (e : Ex) : Prop := ∀ (v : Str → Int) (G M : Int), 1 ≤ G → 0 ≤ M → (∀ x ∈ gs, 0 ≤ v x ∧ v x ≤ G) → (∀ x ∈ os, 0 ≤ v x ∧ v x ≤ M) → 0 ≤ valE v e ∧ valE v e ≤ bd G M
theorem BndE.sub {gs os gs' os' : List Str} {bd : Int → Int → Int} {e : Ex} (h : BndE gs os bd e) (a : ∀ x ∈ gs, x ∈ gs') (b : ∀ x ∈ os, x ∈ os') : BndE gs' os' bd e := fun v G M g m hg ho => h v G M g m (fun x hx => hg x (a x hx)) (fun x hx => ho x (b x hx))
theorem BndE.mono {gs os : List Str} {bd bd' : Int → Int → Int} {e : Ex} (h : BndE gs os bd e) (k : ∀ G M, 1 ≤ G → 0 ≤ M → bd G M ≤ bd' G M) : BndE gs os bd' e := fun v G M g m hg ho => ⟨(h v G M g m hg ho).1, Int.le_trans (h v G M g m hg ho).2 (k G M g m)⟩
def OneE (gs : List Str) (e : Ex) : Prop := BndE gs [] (fun G _ => G * G + 7) e
def OthE (os : List Str) (e : Ex) : Prop := BndE [] os (fun _ M => 3 * M + 1000) e
def GrowE (gs os : List Str) (e : Ex) : Prop := BndE gs os (fun G M => G * G + 3 * M + 1010) e
theorem sq_ge {G : Int} (h : 1 ≤ G) : G ≤ G * G := by
  have := Int.mul_le_mul_of_nonneg_left h (by omega : 0 ≤ G)
  omega
theorem one_num {gs : List Str} {r : Int} (h : 0 ≤ r ∧ r < 7) : OneE gs (.num r) := fun v G M g m hg ho => by
  have := sq_ge g
  exact ⟨h.1, by show r ≤ G * G + 7; omega⟩
theorem one_name {gs : List Str} {x : Str} (h : x ∈ gs) : OneE gs (.name x) := fun v G M g m hg ho => by
  have := sq_ge g
  have := hg x h
  exact ⟨this.1, by show v x ≤ G * G + 7; omega⟩
theorem one_mul {gs : List Str} {x y : Str} (h : x ∈ gs) (k : y ∈ gs) : OneE gs (.mul (.name x) (.name y)) := fun v G M g m hg ho => by
  have a := hg x h
  have b := hg y k
  refine ⟨Int.mul_nonneg a.1 b.1, ?_⟩
  show v x * v y ≤ G * G + 7
  have := Int.mul_le_mul a.2 b.2 b.1 (by omega : 0 ≤ G)
  omega
theorem oth_num {os : List Str} {r : Int} (h : 0 ≤ r ∧ r < 1000) : OthE os (.num r) := fun v G M g m hg ho => ⟨h.1, by show r ≤ 3 * M + 1000; omega⟩
theorem oth_name {os : List Str} {x : Str} (h : x ∈ os) : OthE os (.name x) := fun v G M g m hg ho => by
  have := ho x h
  exact ⟨this.1, by show v x ≤ 3 * M + 1000; omega⟩
theorem oth_mul {os : List Str} {r : Int} {x : Str} (h : 0 ≤ r ∧ r < 4) (k : x ∈ os) : OthE os (.mul (.num r) (.name x)) := fun v G M g m hg ho => by
  have b := ho x k
  refine ⟨Int.mul_nonneg h.1 b.1, ?_⟩
  show r * v x ≤ 3 * M + 1000
  have := Int.mul_le_mul (show r ≤ 3 by omega) b.2 b.1 (by omega : (0 : Int) ≤ 3)
  omega
theorem OneE.grow {gs os : List Str} {a b : Ex} (h : OneE gs a) (k : OthE os b) : GrowE gs os (.add a b) := fun v G M g m hg ho => by
  have x := h v G M g m hg (fun _ h => nomatch h)
  have y := k v G M g m (fun _ h => nomatch h) ho
  have x2 : valE v a ≤ G * G + 7 := x.2
  have y2 : valE v b ≤ 3 * M + 1000 := y.2
  exact ⟨Int.add_nonneg x.1 y.1, by show valE v a + valE v b ≤ G * G + 3 * M + 1010; omega⟩
theorem GrowE.sub {gs os gs' os' : List Str} {e : Ex} (h : GrowE gs os e) (a : ∀ x ∈ gs, x ∈ gs') (b : ∀ x ∈ os, x ∈ os') : GrowE gs' os' e := BndE.sub h a b
theorem GrowE.more {gs os : List Str} {e : Ex} (h : GrowE gs os e) {y : Str} (hy : y ∈ os) : BndE gs os (fun G M => G * G + 4 * M + 1010) (.add (.name y) e) := fun v G M g m hg ho => by
  have x := h v G M g m hg ho
  have b := ho y hy
  have x2 : valE v e ≤ G * G + 3 * M + 1010 := x.2
  exact ⟨Int.add_nonneg b.1 x.1, by show v y + valE v e ≤ G * G + 4 * M + 1010; omega⟩
theorem GrowE.big {gs os : List Str} {e : Ex} (h : GrowE gs os e) : BndE gs os (fun G M => G * G + 4 * M + 1010) e := BndE.mono h fun G M g m => by
  show G * G + 3 * M + 1010 ≤ G * G + 4 * M + 1010
  omega
theorem grd_num {gs os : List Str} {r : Int} (h : 0 ≤ r ∧ r < 1000) : BndE gs os (fun G _ => 2 * G + 1010) (.num r) := fun v G M g m hg ho => ⟨h.1, by show r ≤ 2 * G + 1010; omega⟩
theorem grd_two {gs os : List Str} {x y : Str} (h : x ∈ gs) (k : y ∈ gs) : BndE gs os (fun G _ => 2 * G + 1010) (.add (.name x) (.name y)) := fun v G M g m hg ho => by
  have a := hg x h
  have b := hg y k
  exact ⟨Int.add_nonneg a.1 b.1, by show v x + v y ≤ 2 * G + 1010; omega⟩
theorem grd_more {gs os : List Str} {x : Str} {r : Int} (h : x ∈ gs) (k : 0 ≤ r ∧ r < 1000) : BndE gs os (fun G _ => 2 * G + 1010) (.add (.name x) (.num r)) := fun v G M g m hg ho => by
  have a := hg x h
  exact ⟨Int.add_nonneg a.1 k.1, by show v x + r ≤ 2 * G + 1010; omega⟩
/-- the guards' names and the last one; the others -/
def gsOf (ns : List Str) : List Str := ns.take 3 ++ ns.drop 6
def osOf (ns : List Str) : List Str := (ns.drop 3).take 3
def ExS (ns : List Str) (e : Ex) : Prop := ExOk ns 2 e ∨ ∃ y t, e = .add (.name y) t ∧ y ∈ ns ∧ ExOk ns 2 t
def RwT (ns : List Str) : Rw → Prop
  | .nil => True
  | .set x e r => ((x ∈ gsOf ns ∧ BndE (gsOf ns) (osOf ns) (fun G _ => 2 * G + 1010) e) ∨ (x ∈ osOf ns ∧ BndE (gsOf ns) (osOf ns) (fun G M => G * G + 4 * M + 1010) e)) ∧ ExS ns e ∧ RwT ns r
  | .say e r => ExOk ns 2 e ∧ RwT ns r
  | .lap x m b r => x ∈ gsOf ns ∧ ExOk ns 2 m ∧ RwT ns b ∧ RwT ns r
theorem RwT.app {ns : List Str} {s : Rw} (hs : RwT ns s) : ∀ {r : Rw}, RwT ns r → RwT ns (appR r s)
  | .nil, _ => hs
  | .set _ _ _, ⟨a, b, c⟩ => ⟨a, b, RwT.app hs c⟩
  | .say _ _, ⟨a, b⟩ => ⟨a, RwT.app hs b⟩
  | .lap _ _ _ _, ⟨a, b, e, c⟩ => ⟨a, b, e, RwT.app hs c⟩
theorem at_guard {ns : List Str} (h7 : ns.length = 7) {i : Int} (h : (0 ≤ i ∧ i < 3) ∨ i = 6) : ∃ x, x ∈ ns ∧ x ∈ gsOf ns ∧ atI (ns.map V.str) i = some (.str x) := by
  have hx : i.toNat < ns.length := by omega
  refine ⟨ns[i.toNat], List.getElem_mem hx, ?_, at_of (j := i.toNat) (by omega) (by rw [List.getElem?_map, List.getElem?_eq_getElem hx]; rfl)⟩
  match ns, h7 with
  | [a, b, c, d, e, f, g], _ =>
    have : i = 0 ∨ i = 1 ∨ i = 2 ∨ i = 6 := by omega
    rcases this with z | z | z | z <;> subst z <;> simp [gsOf]
theorem at_other {ns : List Str} (h7 : ns.length = 7) {i : Int} (h0 : 3 ≤ i) (h1 : i < 6) : ∃ x, x ∈ ns ∧ x ∈ osOf ns ∧ atI (ns.map V.str) i = some (.str x) := by
  have hx : i.toNat < ns.length := by omega
  refine ⟨ns[i.toNat], List.getElem_mem hx, ?_, at_of (j := i.toNat) (by omega) (by rw [List.getElem?_map, List.getElem?_eq_getElem hx]; rfl)⟩
  match ns, h7 with
  | [a, b, c, d, e, f, g], _ =>
    have : i = 3 ∨ i = 4 ∨ i = 5 := by omega
    rcases this with z | z | z <;> subst z <;> simp [osOf]
theorem strs_inj {ys zs : List Str} (h : ys.map V.str = zs.map V.str) : ys = zs := by
  induction ys generalizing zs with
  | nil => cases zs with
    | nil => rfl
    | cons _ _ => cases h
  | cons y r ih => cases zs with
    | nil => cases h
    | cons z t =>
      injection h with h1 h2
      injection h1 with h3
      rw [h3, ih h2]
theorem cut_guard {ns ys : List Str} {d : Nat} (hd : d ≤ 3) (e : cutV (ns.map V.str) none (some (d : Int)) = ys.map V.str) : ∀ x ∈ ys, x ∈ gsOf ns := fun x hx => by
  unfold cutV at e
  rw [HT.sIx_none, HT.sIx_nat, List.drop_zero, ← List.map_take] at e
  have e2 := strs_inj e
  rw [← e2] at hx
  refine List.mem_append_left _ ?_
  have : min d (ns.map V.str).length - 0 ≤ 3 := by omega
  exact (List.take_sublist_take_left (l := ns) this).subset hx
theorem cut_other {ns zs : List Str} {a : Int} (h0 : 0 ≤ a) (h3 : a < 3) (e : cutV (ns.map V.str) (some 3) (some (3 + a)) = zs.map V.str) : ∀ x ∈ zs, x ∈ osOf ns := fun x hx => by
  have e3 : (3 : Int) + a = ((3 + a.toNat : Nat) : Int) := by omega
  unfold cutV at e
  rw [e3, show (3 : Int) = ((3 : Nat) : Int) from rfl, HT.sIx_nat, HT.sIx_nat, ← List.map_drop, ← List.map_take] at e
  have e2 := strs_inj e
  rw [← e2] at hx
  by_cases l : 3 ≤ ns.length
  · have m3 : min 3 (ns.map V.str).length = 3 := by rw [List.length_map]; omega
    rw [m3] at hx
    have : min (3 + a.toNat) (ns.map V.str).length - 3 ≤ 3 := by omega
    exact (List.take_sublist_take_left (l := ns.drop 3) this).subset hx
  · have m3 : min 3 (ns.map V.str).length = ns.length := by rw [List.length_map]; omega
    rw [m3, List.drop_length] at hx
    simp at hx
/-! ### bits of values -/
def bE (B : Nat) : Ex → Nat
  | .num _ => B
  | .name _ => B
  | .add a b => max (bE B a) (bE B b) + 1
  | .mul a b => bE B a + bE B b
def MulB (B : Nat) : Ex → Prop
  | .num _ => True
  | .name _ => True
  | .add a b => MulB B a ∧ MulB B b
  | .mul a b => MulB B a ∧ MulB B b ∧ bE B a + bE B b ≤ 1000000
theorem bE_pos {B : Nat} (h : 10 ≤ B) : ∀ t : Ex, 10 ≤ bE B t
  | .num _ => h
  | .name _ => h
  | .add a b => by
    have := bE_pos h a
    show 10 ≤ max (bE B a) (bE B b) + 1
    omega
  | .mul a b => by
    have := bE_pos h a
    show 10 ≤ bE B a + bE B b
    omega
theorem add_bits {x y : Int} {a b : Nat} (hx : x.natAbs < 2 ^ a) (hy : y.natAbs < 2 ^ b) : (x + y).natAbs < 2 ^ (max a b + 1) := by
  have h1 : 2 ^ a ≤ 2 ^ max a b := Nat.pow_le_pow_right (by decide) (by omega)
  have h2 : 2 ^ b ≤ 2 ^ max a b := Nat.pow_le_pow_right (by decide) (by omega)
  rw [Nat.pow_succ]
  omega
theorem val_bits {ns : List Str} {v : Str → Int} {B : Nat} (hB : 10 ≤ B) (hv : ∀ x ∈ ns, (v x).natAbs < 2 ^ B) : ∀ {t : Ex} {d : Nat}, ExOk ns d t → (valE v t).natAbs < 2 ^ bE B t
  | .num n, d, h => by
    have hn := h.of_num
    have : 2 ^ 10 ≤ 2 ^ B := Nat.pow_le_pow_right (by decide) hB
    show n.natAbs < 2 ^ B
    omega
  | .name x, d, h => hv x h.of_name
  | .add a b, 0, h => False.elim h
  | .mul a b, 0, h => False.elim h
  | .add a b, d + 1, ⟨ha, hb⟩ => add_bits (val_bits hB hv ha) (val_bits hB hv hb)
  | .mul a b, d + 1, ⟨ha, hb⟩ => wide_lt (val_bits hB hv ha) (val_bits hB hv hb)
theorem bE_zero {ns : List Str} {B : Nat} : ∀ {t : Ex}, ExOk ns 0 t → bE B t = B
  | .num _, _ => rfl
  | .name _, _ => rfl
  | .add _ _, h => False.elim h
  | .mul _ _, h => False.elim h
theorem bE_one {ns : List Str} {B : Nat} (hB : 1 ≤ B) : ∀ {t : Ex}, ExOk ns 1 t → bE B t ≤ 2 * B
  | .num _, _ => by show B ≤ _; omega
  | .name _, _ => by show B ≤ _; omega
  | .add a b, ⟨ha, hb⟩ => by
    show max (bE B a) (bE B b) + 1 ≤ _
    rw [bE_zero ha, bE_zero hb]
    omega
  | .mul a b, ⟨ha, hb⟩ => by
    show bE B a + bE B b ≤ _
    rw [bE_zero ha, bE_zero hb]
    omega
theorem mulB_zero {ns : List Str} {B : Nat} : ∀ {t : Ex}, ExOk ns 0 t → MulB B t
  | .num _, _ => True.intro
  | .name _, _ => True.intro
  | .add _ _, h => False.elim h
  | .mul _ _, h => False.elim h
theorem mulB_one {ns : List Str} {B : Nat} (hB : 4 * B ≤ 1000000) : ∀ {t : Ex}, ExOk ns 1 t → MulB B t
  | .num _, _ => True.intro
  | .name _, _ => True.intro
  | .add a b, ⟨ha, hb⟩ => ⟨mulB_zero ha, mulB_zero hb⟩
  | .mul a b, ⟨ha, hb⟩ => ⟨mulB_zero ha, mulB_zero hb, by rw [bE_zero ha, bE_zero hb]; omega⟩
theorem mulB_two {ns : List Str} {B : Nat} (h1 : 1 ≤ B) (hB : 4 * B ≤ 1000000) : ∀ {t : Ex}, ExOk ns 2 t → MulB B t
  | .num _, _ => True.intro
  | .name _, _ => True.intro
  | .add a b, ⟨ha, hb⟩ => ⟨mulB_one hB ha, mulB_one hB hb⟩
  | .mul a b, ⟨ha, hb⟩ => ⟨mulB_one hB ha, mulB_one hB hb, by
    have := bE_one h1 ha
    have := bE_one h1 hb
    omega⟩
theorem mulB_set {ns : List Str} {B : Nat} (h1 : 1 ≤ B) (hB : 4 * B ≤ 1000000) {t : Ex} (h : ExS ns t) : MulB B t := by
  rcases h with h | ⟨y, u, rfl, hy, h⟩
  · exact mulB_two h1 hB h
  · exact ⟨True.intro, mulB_two h1 hB h⟩
theorem okSet {ns : List Str} {t : Ex} (h : ExS ns t) : ExOk ns 3 t := by
  rcases h with h | ⟨y, u, rfl, hy, h⟩
  · exact h.up
  · exact ⟨ExOk.name hy _, h⟩
/-! ### runs, told as a function -/
structure Rs where
  v : Str → Int
  told : List Int
  turns : Nat
  ents : List (List Nat × Int × Nat)
def setV (v : Str → Int) (x : Str) (n : Int) : Str → Int := fun y => if y = x then n else v y
def turnsR (body : Rs → Option Rs) (most : Nat) (x : Str) : Nat → Nat → Rs → Option (Rs × Nat)
  | 0, _, _ => none
  | f + 1, c, s => if s.v x = 0 then some (s, c) else if most ≤ s.turns then none else
    match body { s with turns := s.turns + 1, v := setV s.v x (s.v x - 1) } with
    | none => none
    | some s' => turnsR body most x f (c + 1) s'
def doR (most : Nat) : Rw → List Nat → Nat → Rs → Option Rs
  | .nil, _, _, s => some s
  | .set x e r, pl, i, s => doR most r pl (i + 1) { s with v := setV s.v x (valE s.v e) }
  | .say e r, pl, i, s => doR most r pl (i + 1) { s with told := s.told ++ [valE s.v e] }
  | .lap x m b r, pl, i, s =>
    match turnsR (doR most b (pl ++ [i]) 0) most x (most + 1) 0 s with
    | none => none
    | some (s', c) => doR most r pl (i + 1) { s' with ents := s'.ents ++ [(pl ++ [i], valE s.v m, c)] }
/-! ### how great the numbers may be behind so many statements -/
structure Bd (ns : List Str) (n : Nat) (v : Str → Int) : Prop where
  g : ∀ x ∈ gsOf ns, 0 ≤ v x ∧ v x ≤ 2 ^ (2 * n + 22)
  o : ∀ x ∈ osOf ns, 0 ≤ v x ∧ v x ≤ 2 ^ (4 * n + 50)
theorem pow_upZ {a b : Nat} (h : a ≤ b) : (2 : Int) ^ a ≤ 2 ^ b := by
  have : (2 : Nat) ^ a ≤ 2 ^ b := Nat.pow_le_pow_right (by decide) h
  exact_mod_cast this
theorem Bd.up {ns : List Str} {n m : Nat} {v : Str → Int} (h : Bd ns n v) (l : n ≤ m) : Bd ns m v :=
  ⟨fun x hx => ⟨(h.g x hx).1, Int.le_trans (h.g x hx).2 (pow_upZ (by omega))⟩, fun x hx => ⟨(h.o x hx).1, Int.le_trans (h.o x hx).2 (pow_upZ (by omega))⟩⟩
theorem pow_pos1 (a : Nat) : (1 : Int) ≤ 2 ^ a := by
  have : 1 ≤ (2 : Nat) ^ a := Nat.one_le_two_pow
  exact_mod_cast this
theorem ns_cases {ns : List Str} (h7 : ns.length = 7) {x : Str} (hx : x ∈ ns) : x ∈ gsOf ns ∨ x ∈ osOf ns := by
  match ns, h7 with
  | [a, b, c, d, e, f, g], _ =>
    simp [gsOf, osOf] at hx ⊢
    grind
theorem Bd.bits {ns : List Str} {n : Nat} {v : Str → Int} (h : Bd ns n v) (h7 : ns.length = 7) : ∀ x ∈ ns, (v x).natAbs < 2 ^ (4 * n + 51) := fun x hx => by
  have k : ∀ {a : Nat}, a ≤ 4 * n + 50 → 0 ≤ v x → v x ≤ 2 ^ a → (v x).natAbs < 2 ^ (4 * n + 51) := fun {a} l h0 h1 => by
    have h2 : v x ≤ 2 ^ (4 * n + 50) := Int.le_trans h1 (pow_upZ l)
    have h3 : ((v x).natAbs : Int) ≤ ((2 ^ (4 * n + 50) : Nat) : Int) := by
      rw [Int.natAbs_of_nonneg h0]
      exact_mod_cast h2
    have h4 : (v x).natAbs ≤ 2 ^ (4 * n + 50) := by exact_mod_cast h3
    have h5 : 2 ^ (4 * n + 51) = 2 ^ (4 * n + 50) * 2 := Nat.pow_succ ..
    have h6 : 1 ≤ 2 ^ (4 * n + 50) := Nat.one_le_two_pow
    omega
  rcases ns_cases h7 hx with z | z
  · exact k (by omega) (h.g x z).1 (h.g x z).2
  · exact k (Nat.le_refl _) (h.o x z).1 (h.o x z).2
theorem Bd.set {ns : List Str} {n : Nat} {v : Str → Int} (h : Bd ns n v) {x : Str} {e : Ex} (t : (x ∈ gsOf ns ∧ BndE (gsOf ns) (osOf ns) (fun G _ => 2 * G + 1010) e) ∨ (x ∈ osOf ns ∧ BndE (gsOf ns) (osOf ns) (fun G M => G * G + 4 * M + 1010) e)) (dj : ∀ y, y ∈ gsOf ns → y ∈ osOf ns → False) : Bd ns (n + 1) (setV v x (valE v e)) := by
  have e1 : (2 : Int) ^ (2 * (n + 1) + 22) = 2 ^ (2 * n + 22) * 4 := by
    rw [show 2 * (n + 1) + 22 = (2 * n + 22) + 2 by omega, Int.pow_add]
    rfl
  have e2 : (2 : Int) ^ (4 * (n + 1) + 50) = 2 ^ (4 * n + 50) * 16 := by
    rw [show 4 * (n + 1) + 50 = (4 * n + 50) + 4 by omega, Int.pow_add]
    rfl
  have e3 : (2 : Int) ^ (2 * n + 22) * 2 ^ (2 * n + 22) ≤ 2 ^ (4 * n + 50) := by
    rw [← Int.pow_add]
    exact pow_upZ (by omega)
  have e4 : (1010 : Int) ≤ 2 ^ (2 * n + 22) := Int.le_trans (show (1010 : Int) ≤ 2 ^ 22 by decide) (pow_upZ (by omega))
  have e5 : (1010 : Int) ≤ 2 ^ (4 * n + 50) := Int.le_trans (show (1010 : Int) ≤ 2 ^ 50 by decide) (pow_upZ (by omega))
  refine ⟨fun y hy => ?_, fun y hy => ?_⟩
  · unfold setV
    by_cases z : y = x
    · rw [if_pos z]
      rcases t with ⟨_, b⟩ | ⟨hx, _⟩
      · have q := b v _ _ (pow_pos1 (2 * n + 22)) (Int.le_trans (by decide) (pow_pos1 (4 * n + 50))) h.g h.o
        refine ⟨q.1, Int.le_trans q.2 ?_⟩
        show 2 * (2 : Int) ^ (2 * n + 22) + 1010 ≤ _
        rw [e1]
        omega
      · exact absurd (z ▸ hx) fun k => dj y hy k
    · rw [if_neg z]
      refine ⟨(h.g y hy).1, Int.le_trans (h.g y hy).2 (pow_upZ (by omega))⟩
  · unfold setV
    by_cases z : y = x
    · rw [if_pos z]
      rcases t with ⟨hx, _⟩ | ⟨_, b⟩
      · exact absurd (z ▸ hx) fun k => dj y k hy
      · have q := b v _ _ (pow_pos1 (2 * n + 22)) (Int.le_trans (by decide) (pow_pos1 (4 * n + 50))) h.g h.o
        refine ⟨q.1, Int.le_trans q.2 ?_⟩
        show (2 : Int) ^ (2 * n + 22) * 2 ^ (2 * n + 22) + 4 * 2 ^ (4 * n + 50) + 1010 ≤ _
        rw [e2]
        omega
    · rw [if_neg z]
      refine ⟨(h.o y hy).1, Int.le_trans (h.o y hy).2 (pow_upZ (by omega))⟩
theorem Bd.less {ns : List Str} {n : Nat} {v : Str → Int} (h : Bd ns n v) {x : Str} (hx : x ∈ gsOf ns) (nz : v x ≠ 0) (dj : ∀ y, y ∈ gsOf ns → y ∈ osOf ns → False) : Bd ns n (setV v x (v x - 1)) := by
  have hg := h.g x hx
  refine ⟨fun y hy => ?_, fun y hy => ?_⟩
  · unfold setV
    by_cases z : y = x
    · rw [if_pos z]
      omega
    · rw [if_neg z]
      exact h.g y hy
  · unfold setV
    by_cases z : y = x
    · exact absurd (z ▸ hx) fun k => dj y k hy
    · rw [if_neg z]
      exact h.o y hy
theorem gs_os {ns : List Str} (h : ns.Nodup) (h7 : ns.length = 7) : ∀ y, y ∈ gsOf ns → y ∈ osOf ns → False := fun y => by
  match ns, h7 with
  | [a, b, c, d, e, f, g], _ =>
    simp [gsOf, osOf] at h ⊢
    grind
/-! ### enumerate of a tuple -/
section
variable {P : Program} {w : World} {A : Around} {E : Value → Shared → Prop} {s : Shared}
set_option maxHeartbeats 1000000 in
theorem enum_one {v : Value} {o : Obj} {G : Heap → Prop} (B : Begins v o G) :
    Meets (Builtin.«enumerate.__new__» ⟨[.type "enumerate", v], []⟩) (fun _ R s => G s.heap ∧
      R (.ok (.ret (.ref (s.heap.push o).objs.size))) { s with heap := (s.heap.push o).push { cls := .type "enumerate", data := .fields #[.none, .bool false, .ref s.heap.objs.size, rawInt 0, .none, .none] } }) :=
  .of_wp fun prog w A R s h => by
    obtain ⟨hp, g, d, tk, os⟩ := s
    obtain ⟨h1, h⟩ := h
    have sub := sub_enumerate
    have q1 : ∀ {A' : Around} {E : Value → Shared → Prop} {Q : Value → Shared → Prop}, Q (.ref hp.objs.size) ⟨hp.push o, g, d, tk, os⟩ → wpAny (model prog w) A' (pyIter v) Q E ⟨hp, g, d, tk, os⟩ :=
      fun q => B.iter prog w _ _ ⟨hp, g, d, tk, os⟩ _ h1 q
    wp_walk using q1
    refine wpAny_stack_any fun st => wpAny_pure ?_
    split
    · rename_i c _ _ _ _ _
      cases (c == Value.type "enumerate") <;> (wp_walk using q1; exact ⟨_, rfl, h⟩)
    · wp_walk using q1
      exact ⟨_, rfl, h⟩
theorem enum_one_call {v : Value} {o : Obj} {G : Heap → Prop} {Q : Value → Shared → Prop} (B : Begins v o G) (h1 : G s.heap)
    (h : ∀ h', IsEnum h' (s.heap.objs.size + 1) s.heap.objs.size 0 .none → h'.get? s.heap.objs.size = some o →
      (∀ b o, s.heap.get? b = some o → h'.get? b = some o) → Q (.ref (s.heap.objs.size + 1)) { s with heap := h' }) :
    wpAny (model P w) A (call (.type "enumerate") [v]) Q E s := by
  refine callType_new F.called_enumerate (by decide) (F.typeCall_enumerate_1 _) (F.newCall_enumerate_1 _) (fun obj => F.args_object_init_2 obj _) F.entry_enumerate_new (enum_one B) ⟨h1, ?_⟩
  have hz : (s.heap.push o).objs.size = s.heap.objs.size + 1 := Heap.size_push ..
  rw [hz]
  have he := Heap.get?_push_size (s.heap.push o) (o := { cls := .type "enumerate", data := .fields #[.none, .bool false, .ref s.heap.objs.size, rawInt 0, .none, .none] }) rfl
  rw [hz] at he
  exact ⟨⟨_, he, rfl⟩, h _ he (Heap.get?_push_of_some _ (Heap.get?_push_size _ B.free)) fun b o x => Heap.get?_push_of_some _ (Heap.get?_push_of_some _ x)⟩
end
/-- the tuple at a, each item in a new pair -/
def Itet (K : PySem.W.Frag) (a : Addr) : It :=
  ⟨fun i H => ∃ (xs : List V) (x : V), SqT K H a xs ∧ xs[i]? = some x, fun i H v H' => ∃ T x, v = .ref T ∧ H T = none ∧ H' = upd H T (.tup [.int (i : Nat), x]) ∧ ∀ xs, SqT K H a xs → xs[i]? = some x, fun i H => ∃ xs : List V, SqT K H a xs ∧ xs.length ≤ i⟩
theorem turn_enumT {P : Program} {w : World} {K : PySem.W.Frag} {elts : List Expr} {kk : Nat} {tpos : Pos} (a e it : Addr) :
    Turn P w K (.Tuple elts kk tpos) (Itet K a) [e, it] e (fun i h => (∃ old, IsEnum h e it ((i : Nat) : Int) old) ∧ h.IsTupleIter it a i ∧ e ≠ it) where
  mem := by simp
  obj := fun i h st b hb => by
    obtain ⟨⟨old, he⟩, ⟨o, ho, hc, hd⟩, _⟩ := st
    have e' : b = e ∨ b = it := by simpa using hb
    rcases e' with z | z <;> rw [z]
    · exact ⟨_, he, fun v q => nomatch q⟩
    · exact ⟨o, ho, fun v q => by rw [hd] at q; cases q⟩
  keep := fun i h h' st k => let ⟨⟨old, he⟩, hi, hne⟩ := st; ⟨⟨old, k e (by simp) _ he⟩, hi.at fun o q => k it (by simp) o q, hne⟩
  item := by
    intro X hP hw hK hc i pins s σ H E I hf st hg
    subst hP hw hK
    obtain ⟨⟨old, he⟩, hit, hne⟩ := st
    obtain ⟨xs, x, hq, hx⟩ := hg
    obtain ⟨its, rv, p, hz⟩ := I.tuple hq
    obtain ⟨u, hu, ru⟩ := rv.get hx
    have pa : s.heap.IsTuple a its.toArray := p
    have hel : e < s.heap.objs.size := Heap.lt_size he
    have hil : it < s.heap.objs.size := by obtain ⟨_, q, _⟩ := hit; exact Heap.lt_size q
    have lt : i < its.toArray.size := by
      rw [List.size_toArray]
      exact (List.getElem?_eq_some_iff.mp hu).1
    have ne_a : a ≠ it := fun z => by
      obtain ⟨o1, h1, c1, _⟩ := pa
      obtain ⟨o2, h2, c2, _⟩ := hit
      rw [z, h2] at h1
      have e1 : o2 = o1 := Option.some.inj h1
      rw [← e1, c2] at c1
      exact absurd c1 (by decide)
    have ne_e : e ≠ a := fun z => by
      obtain ⟨o1, h1, c1, _⟩ := pa
      rw [← z, show s.heap.get? e = _ from he] at h1
      have e1 := Option.some.inj h1
      rw [← e1] at c1
      have c2 : Value.type "enumerate" = Value.type "tuple" := c1
      injection c2 with c3
      exact absurd c3 (by decide)
    refine wpAny_pyNext_enum_itemD (Draws.tuple (A := X.A.in1) (I.ok.hd hc) it a ne_a its.toArray) he ⟨hit, pa⟩ lt hne (by simp [hne, ne_e]) fun y h' tk hy ho hst hT hsz hk => ?_
    have ey : y = u := by
      have z : its.toArray[i]? = some u := by simpa using hu
      rw [z] at hy
      exact (Option.some.inj hy).symm
    subst ey
    refine ⟨_, rfl, wpAny_letOwnedTupleGo_enum (s := { s with heap := h', toks := tk + 1 }) ho fun h'' he' sb => ?_⟩
    have hT2 : h''.get? s.heap.objs.size = some { cls := .type "tuple", data := .seq #[.int i tk, y] } := (sb.2 _ (Nat.ne_of_gt hel)).trans hT
    have new : ObjOk X.prog X.w (upd H s.heap.objs.size (.tup [.int (i : Nat), x])) h'' s.heap.objs.size (.tup [.int (i : Nat), x]) :=
      ⟨by show 2 ≤ sizeLine; decide, [.int i tk, y], .cons ⟨_, rfl⟩ (.cons ru .nil), ⟨_, hT2, rfl, _, rfl⟩⟩
    have I1 : Inv X pins σ (upd H s.heap.objs.size (.tup [.int (i : Nat), x])) { s with heap := h'', toks := tk + 1 } :=
      I.turnedNew (ch := [e, it]) (fun b ob hb q => (sb.2 b (fun z => hb (by simp [z]))).trans (hk b ob (fun z => hb (by simp [z])) (fun z => hb (by simp [z])) q)) hf (Nat.le_refl _) new
    refine ⟨.ref s.heap.objs.size, _, I1, rfl, ⟨_, x, rfl, I.hok.fresh (Nat.le_refl _), rfl, fun ys hy => by rw [I.tuple_inj hy hq]; exact hx⟩, ⟨⟨y, ?_⟩, hst.1.at fun o q => (sb.2 it (Ne.symm hne)).trans q, hne⟩, fun b hb => ?_⟩
    · have e1 : ((i + 1 : Nat) : Int) = (i : Int) + 1 := by omega
      rw [e1]; exact he'
    · have hb' : b < s.heap.objs.size := by
        have e' : b = e ∨ b = it := by simpa using hb
        rcases e' with z | z <;> rw [z]
        · exact hel
        · exact hil
      rw [upd_ne (Nat.ne_of_lt hb')]
      exact (hf b hb).1
  done := by
    intro X hP hw hK hc i pins s σ H E I hf st hg
    subst hP hw hK
    obtain ⟨⟨old, he⟩, hit, hne⟩ := st
    obtain ⟨xs, hq, hx⟩ := hg
    obtain ⟨its, rv, p, hz⟩ := I.tuple hq
    obtain ⟨f0, f1, f2, f3, f4, f5⟩ := hf it (by simp)
    have hl := rv.length
    have pa : s.heap.IsTuple a its.toArray := p
    have ne_a : a ≠ it := fun z => by
      obtain ⟨o1, h1, c1, _⟩ := pa
      obtain ⟨o2, h2, c2, _⟩ := hit
      rw [z, h2] at h1
      have e1 : o2 = o1 := Option.some.inj h1
      rw [← e1, c2] at c1
      exact absurd c1 (by decide)
    have D0 : Draws X.prog X.w X.A.in1 it [it, a] 0 (fun _ _ => False) (fun _ h => h.IsTupleIter it a i ∧ h.IsTuple a its.toArray) :=
      ⟨fun _ _ st => let ⟨o, ho, _⟩ := st.1; ⟨o, ho⟩, fun _ _ _ st hk => ⟨st.1.at fun o e => hk it (by simp) o e, st.2.at fun o e => hk a (by simp) o e⟩,
        fun i _ _ _ hi _ _ => absurd hi (Nat.not_lt_zero i), fun s Q E st hE => wpAny_nextOf_tuple_end (I.ok.hd hc) st.1 st.2 (by simp; omega) hE⟩
    exact wpAny_pyNext_enum_endD D0 he ⟨hit, pa⟩ fun h' eb => ⟨rfl, I.turned (t' := s.toks) (fun b o hb q => eb b o hb q) f0 f1 f3 f4 f5⟩
  self := fun A i s Q E st h => let ⟨⟨_, he⟩, _⟩ := st; wpAny_pyIter_enum he h
def iEnumT (K : PySem.W.Frag) (ta : TA) : TI := fun σ H R => ta σ H fun vs H1 => ∃ a xs, vs = [.ref a] ∧ SqT K H1 a xs ∧ R (Itet K a) H1
theorem pi_enumT {X : Cx} {e : Expr} {ta : TA} {p pos tpos : Pos} {elts : List Expr} {kk : Nat} (hg : Gl X "enumerate") (hm : X.mg "enumerate" = none) (ha : PA X [e] ta) (hs : starEach [e] X.env = [(false, eval e X.env)] := by rfl) :
    PI X (.Tuple elts kk tpos) (.Call (.Name "enumerate" p) [e] [] pos) (iEnumT X.K ta) := by
  refine ⟨fun pins s σ H R I h => ?_⟩
  refine Call_ (ld_blt I hg hm boot_enumerate (PyProof.Rows.callWith_type1 (thn (ha.run pos pins s σ H _ I h) fun us s1 ⟨vs, H1, I1, r1, q1⟩ => ?_) hs rfl))
  obtain ⟨a, xs, ex, hq, q⟩ := q1
  subst ex
  cases r1 with
  | cons r rr =>
    cases rr
    cases r
    obtain ⟨its, rv, p', hz⟩ := I1.tuple hq
    refine enum_one_call (begins_tuple a its.toArray) p' fun h' he hit hk => wpAny_pyIter_enum he ?_
    have I2 : Inv X pins σ H1 { s1 with heap := h' } := I1.kept (t' := s1.toks) hk
    refine ⟨s1.heap.objs.size + 1, [s1.heap.objs.size + 1, s1.heap.objs.size], _, _, H1, rfl, I2, turn_enumT a (s1.heap.objs.size + 1) s1.heap.objs.size, ⟨⟨.none, he⟩, ⟨_, hit, rfl, rfl⟩, Nat.succ_ne_self _⟩, fun b hb => ?_, q⟩
    have e' : b = s1.heap.objs.size + 1 ∨ b = s1.heap.objs.size := by simpa using hb
    have hle : s1.heap.objs.size ≤ b := by
      rcases e' with z | z <;> rw [z]
      · exact Nat.le_add_right _ _
      · exact Nat.le_refl _
    exact I1.fpOk hle (I1.hok.fresh hle)
theorem for_enumT {K : PySem.W.Frag} {a : Addr} {xs : List V} {g : TG} {tb : TS} {D : Ends} {σ : L2.St} {H : Hp} (Pv : Nat → L2.St → Hp → Prop) (h0 : Pv 0 σ H) (hl : ∀ i σ H, i ≤ xs.length → Pv i σ H → SqT K H a xs)
    (hs : ∀ i x σ H T, xs[i]? = some x → Pv i σ H → H T = none → g (.ref T) σ (upd H T (.tup [.int (i : Nat), x])) fun σ2 H2 => tb { D with nx := Pv (i + 1), ct := Pv (i + 1), bk := D.nx } σ2 H2) (hd : ∀ σ H, Pv xs.length σ H → D.nx σ H) :
    ∃ W : Nat → Nat → L2.St → Hp → Prop, (∃ m, W 0 m σ H) ∧ ∀ i m σ H, W i m σ H →
      ((Itet K a).stop i H ∧ D.nx σ H) ∨ ((Itet K a).go i H ∧ ∃ N : L2.St → Hp → Prop, (∀ σ' H', N σ' H' → ∃ m', m' < m ∧ W (i + 1) m' σ' H') ∧ ∀ x H', (Itet K a).yld i H x H' → g x σ H' fun σ2 H2 => tb { D with nx := N, ct := N, bk := D.nx } σ2 H2) := by
  refine ⟨fun i m σ H => m = xs.length - i ∧ i ≤ xs.length ∧ Pv i σ H, ⟨xs.length, by simp, Nat.zero_le _, h0⟩, ?_⟩
  rintro i m σ H ⟨rfl, hi, p⟩
  have q := hl i σ H hi p
  by_cases hlt : i < xs.length
  · refine .inr ⟨⟨xs, xs[i], q, by simp [hlt]⟩, Pv (i + 1), fun σ' H' p' => ⟨xs.length - (i + 1), by omega, rfl, hlt, p'⟩, fun x H' y => ?_⟩
    obtain ⟨T, z, e, hT, eH, y⟩ := y
    subst e eH
    exact hs i z σ H T (y xs q) p hT
  · have e : i = xs.length := by omega
    subst e
    exact .inl ⟨⟨xs, q, Nat.le_refl _⟩, hd σ H p⟩
theorem mulOkW {i j : Int} {a b : Nat} (ha : i.natAbs < 2 ^ a) (hb : j.natAbs < 2 ^ b) (h0 : 0 < a) (h1 : 0 < b) (h : a + b ≤ 1000000) : CMulW i j := wide_mul ha hb h0 h1 h
/-! ### expressions reckoned, by the program and here -/
theorem valV_some {L : Pr} (hn : (L.map (·.1)).Nodup) {x : Str} (hx : x ∈ L.map (·.1)) : valV (dSI L) (Sum.inr x) = some (.int (expo L x)) := by
  have a := valV_dSI hn x
  cases e : valV (dSI L) (Sum.inr x) with
  | none =>
    exfalso
    clear a hn
    induction L with
    | nil => cases hx
    | cons f r ih =>
      have e2 : valV ((Sum.inr f.1, V.int f.2) :: dSI r) (Sum.inr x) = none := e
      by_cases z : (Sum.inr f.1 : L2.Key) = Sum.inr x
      · rw [valV_pos z] at e2
        cases e2
      · rw [valV_neg z] at e2
        rcases List.mem_cons.mp hx with y | y
        · exact z (by rw [y])
        · exact ih y e2
  | some v =>
    rw [e] at a
    exact congrArg some a
section
variable {P : Program} {w : World} {K : PySem.W.Frag} {mg : Str → Option Value} {base : Heap} {C : Addr}
def spReck (K : PySem.W.Frag) : Nat → Sp
  | 0 => fun _ _ _ _ => False
  | d + 1 => fun vs H Q _ => ∃ (p pd : Addr) (t : Ex) (ns : List Str) (L : Pr) (B : Nat), vs = [.ref p, .ref pd] ∧ ExAt K H p t ∧ ExOk ns d t ∧ H pd = some (.dK (dSI L)) ∧ (L.map (·.1)).Nodup ∧ 10 ≤ B ∧ MulB B t ∧ (∀ x ∈ ns, (expo L x).natAbs < 2 ^ B) ∧ (∀ x ∈ namesE t, x ∈ L.map (·.1)) ∧ Q (.int (valE (expo L) t)) H
theorem ok_reckoned {f : Addr} {fd : FuncData} (T : Txt K mg C) (F : DefAt K mg "_reckoned" "_reckoned" s_reckoned ["expression", "names"] f fd) : ∀ d, FnOk P w K mg base CX0 d f fd ["expression", "names"] (spReck K d)
  | 0 => ⟨fun _ _ _ _ h => False.elim h, fun _ _ _ _ _ _ _ _ _ _ _ _ _ h => False.elim h⟩
  | d + 1 => by
    have G_reckoned := ok_reckoned T F d
    have D_reckoned := F
    refine F.F.ok sc_reckoned (fun vs H Q E h => ?_) (fun cdv A outer s H vs Q E hr h => ?_)
    · obtain ⟨p, pd, t, ns, L, B, rfl, _⟩ := h
      rfl
    · obtain ⟨p, pd, t, ns, L, B, rfl, tr, ok, ed, nL, hB, mb, hv, ky, q⟩ := h
      refine ⟨_, (pss_cons (ps_set (i := 2) sc_reckoned.nd rfl (.inl rfl) (pe_ix ix_tup (pv 0) pe_int (fun _ _ => rfl)))
      (pss_cons (ps_if (pt_cmpR op_eq (pv 2) pe_str (nomark _)) (pss_one (ps_ret (pe_ix ix_tup (pv 0) pe_int (fun _ _ => rfl)))) pss_nil)
      (pss_cons (ps_if (pt_cmpR op_eq (pv 2) pe_str (nomark _)) (pss_one (ps_ret (pe_dget (room1 hr) (pv 1) (pe_ix ix_tup (pv 0) pe_int (fun _ _ => rfl)) (fun _ _ => rfl)))) pss_nil)
      (pss_cons (ps_set (i := 3) sc_reckoned.nd rfl (.inl rfl) (pe_call G_reckoned (hr.mono (by omega)) (by rfl) D_reckoned.g D_reckoned.F.kp D_reckoned.b .nil pass0 (pa_cons (pe_ix ix_tup (pv 0) pe_int (fun _ _ => rfl)) (pa_cons (pv 1) pa_nil))))
      (pss_cons (ps_set (i := 4) sc_reckoned.nd rfl (.inl rfl) (pe_call G_reckoned (hr.mono (by omega)) (by rfl) D_reckoned.g D_reckoned.F.kp D_reckoned.b .nil pass0 (pa_cons (pe_ix ix_tup (pv 0) pe_int (fun _ _ => rfl)) (pa_cons (pv 1) pa_nil))))
      (pss_cons (ps_if (pt_cmpR op_eq (pv 2) pe_str (nomark _)) (pss_one (ps_ret (pe_op op_add (pv 3) (pv 4)))) pss_nil)
      (pss_one (ps_ret (pe_op op_mulW (pv 3) (pv 4)))))))))), ?_⟩
      cases t with
      | num n =>
        refine ⟨_, rfl, p, _, _, _, rfl, rfl, tr, atI_nat (j := 0) rfl, ?_⟩
        refine ⟨_, rfl, rfl, _, rfl, ite2 (fun c => ?_) (fun c => absurd (by decide) c)⟩
        exact ⟨_, rfl, p, _, _, _, rfl, rfl, tr, atI_nat (j := 1) rfl, q⟩
      | name x =>
        refine ⟨_, rfl, p, _, _, _, rfl, rfl, tr, atI_nat (j := 0) rfl, ?_⟩
        refine ⟨_, rfl, rfl, _, rfl, ite2 (fun c => absurd c (by decide)) (fun c => ?_)⟩
        refine ⟨_, rfl, rfl, _, rfl, ite2 (fun c => ?_) (fun c => absurd (by decide) c)⟩
        exact ⟨_, rfl, _, rfl, p, _, _, _, rfl, rfl, tr, atI_nat (j := 1) rfl, pd, _, rfl, by have z := DGet.k (k := .inr x) ed; rw [valV_some nL (ky x (by simp [namesE]))] at z; exact z, q⟩
      | add a b =>
        cases d with
        | zero => exact False.elim ok
        | succ d =>
          obtain ⟨pa, pb, tp, ta, tb⟩ := tr
          obtain ⟨oa, ob⟩ := ok
          obtain ⟨ma, mb⟩ := mb
          refine ⟨_, rfl, p, _, _, _, rfl, rfl, tp, atI_nat (j := 0) rfl, ?_⟩
          refine ⟨_, rfl, rfl, _, rfl, ite2 (fun c => absurd c (by decide)) (fun c => ?_)⟩
          refine ⟨_, rfl, rfl, _, rfl, ite2 (fun c => absurd c (by decide)) (fun c => ?_)⟩
          refine ⟨_, rfl, p, _, _, _, rfl, rfl, tp, atI_nat (j := 1) rfl, _, rfl, pa, pd, a, ns, L, B, rfl, ta, oa, ed, nL, hB, ma, hv, (fun x hx => ky x (List.mem_append_left _ hx)), ?_⟩
          refine ⟨_, rfl, p, _, _, _, rfl, rfl, tp, atI_nat (j := 2) rfl, _, rfl, pb, pd, b, ns, L, B, rfl, tb, ob, ed, nL, hB, mb, hv, (fun x hx => ky x (List.mem_append_right _ hx)), ?_⟩
          refine ⟨_, rfl, rfl, _, rfl, ite2 (fun c => ?_) (fun c => absurd (by decide) c)⟩
          exact ⟨_, rfl, _, rfl, _, _, rfl, rfl, q⟩
      | mul a b =>
        cases d with
        | zero => exact False.elim ok
        | succ d =>
          obtain ⟨pa, pb, tp, ta, tb⟩ := tr
          obtain ⟨oa, ob⟩ := ok
          obtain ⟨ma, mb, ml⟩ := mb
          refine ⟨_, rfl, p, _, _, _, rfl, rfl, tp, atI_nat (j := 0) rfl, ?_⟩
          refine ⟨_, rfl, rfl, _, rfl, ite2 (fun c => absurd c (by decide)) (fun c => ?_)⟩
          refine ⟨_, rfl, rfl, _, rfl, ite2 (fun c => absurd c (by decide)) (fun c => ?_)⟩
          refine ⟨_, rfl, p, _, _, _, rfl, rfl, tp, atI_nat (j := 1) rfl, _, rfl, pa, pd, a, ns, L, B, rfl, ta, oa, ed, nL, hB, ma, hv, (fun x hx => ky x (List.mem_append_left _ hx)), ?_⟩
          refine ⟨_, rfl, p, _, _, _, rfl, rfl, tp, atI_nat (j := 2) rfl, _, rfl, pb, pd, b, ns, L, B, rfl, tb, ob, ed, nL, hB, mb, hv, (fun x hx => ky x (List.mem_append_right _ hx)), ?_⟩
          refine ⟨_, rfl, rfl, _, rfl, ite2 (fun c => absurd c (by decide)) (fun c => ?_)⟩
          exact ⟨_, rfl, _, rfl, _, _, rfl, rfl, mulOkW (val_bits hB hv oa) (val_bits hB hv ob) (by have := bE_pos hB a; omega) (by have := bE_pos hB b; omega) ml, q⟩
end
/-! ### a run of the program's -/
def runF (nd : Addr) (most : Int) (td : Addr) (turns : Int) (ed : Addr) : List (Str × V) := [("names", .ref nd), ("most", .int most), ("told", .ref td), ("turns", .int turns), ("entries", .ref ed)]
def placeV (pl : List Nat) : List V := pl.map fun (n : Nat) => V.int (n : Int)
def EntAt (K : PySem.W.Frag) (H : Hp) (e : Addr) (x : List Nat × Int × Nat) : Prop := ∃ pa : Addr, SqT K H e [.ref pa, .int x.2.1, .int (x.2.2 : Int)] ∧ SqT K H pa (placeV x.1)
theorem EntAt.stay {K : PySem.W.Frag} {H H' : Hp} {e : Addr} {x : List Nat × Int × Nat} (h : EntAt K H e x) (s : TupsStay H H') : EntAt K H' e x := let ⟨pa, a, b⟩ := h; ⟨pa, SqT.keeps a s, SqT.keeps b s⟩
/-- a dict of numbers that tells the names of ks -/
structure NmAt (H : Hp) (nd : Addr) (ks : List Str) (L : Pr) (v : Str → Int) : Prop where
  at_ : H nd = some (.dK (dSI L))
  ks : L.map (·.1) = ks
  vv : ∀ x, expo L x = v x
structure RunSt (K : PySem.W.Frag) (C : Addr) (H : Hp) (p nd td ed : Addr) (ks : List Str) (most : Nat) (s : Rs) : Prop where
  ob : ∃ dx, H p = some (.ins C dx (runF nd (most : Int) td (s.turns : Int) ed))
  nm : ∃ L, NmAt H nd ks L s.v
  tl : H td = some (.lst (s.told.map V.int))
  en : ∃ es, H ed = some (.lst (es.map V.ref)) ∧ Paired (EntAt K H) es s.ents
  ne : td ≠ ed
/-- all that was tracked is as it was, but for these -/
def Kp (S : List Addr) (H H' : Hp) : Prop := ∀ b o, H b = some o → b ∉ S → H' b = some o
theorem Kp.refl (S : List Addr) (H : Hp) : Kp S H H := fun _ _ e _ => e
theorem Kp.trans {S : List Addr} {H H1 H2 : Hp} (a : Kp S H H1) (b : Kp S H1 H2) : Kp S H H2 := fun x o e n => b x o (a x o e n) n
theorem Kp.same {S : List Addr} {H H1 H2 : Hp} (a : Kp S H H1) (b : Same H1 H2) : Kp S H H2 := fun x o e n => b x o (a x o e n)
theorem Same.kp {S : List Addr} {H H1 : Hp} (a : Same H H1) : Kp S H H1 := fun x o e _ => a x o e
theorem Kp.upd {S : List Addr} {H : Hp} {d : Addr} {o : HO} (h : d ∈ S) : Kp S H (upd H d o) := fun b u e n => by
  rw [upd_ne (fun z => n (by rw [z]; exact h))]
  exact e
theorem Kp.else {S : List Addr} {H H1 : Hp} {d : Addr} (a : Else d H H1) (h : d ∈ S) : Kp S H H1 := fun x o e n => a x o e fun z => n (z ▸ h)
theorem RunSt.kinds {K : PySem.W.Frag} {C : Addr} {H : Hp} {p nd td ed : Addr} {ks : List Str} {most : Nat} {s : Rs} (h : RunSt K C H p nd td ed ks most s) : p ≠ nd ∧ p ≠ td ∧ p ≠ ed ∧ nd ≠ td ∧ nd ≠ ed := by
  obtain ⟨dx, e1⟩ := h.ob
  obtain ⟨L, e2⟩ := h.nm
  obtain ⟨es, e3, _⟩ := h.en
  exact ⟨ne_of e1 e2.at_ (by intro z; cases z), ne_of e1 h.tl (by intro z; cases z), ne_of e1 e3 (by intro z; cases z), ne_of e2.at_ h.tl (by intro z; cases z), ne_of e2.at_ e3 (by intro z; cases z)⟩
theorem RunSt.tups {K : PySem.W.Frag} {C : Addr} {H H' : Hp} {p nd td ed : Addr} {ks : List Str} {most : Nat} {s : Rs} (h : RunSt K C H p nd td ed ks most s) (k : Kp [p, nd, td, ed] H H') : TupsStay H H' := fun b xs q => by
  obtain ⟨dx, e1⟩ := h.ob
  obtain ⟨L, e2⟩ := h.nm
  obtain ⟨es, e3, _⟩ := h.en
  have no : ∀ {u : HO}, H b = some u → (∀ C dx fs, u ≠ .ins C dx fs) → (∀ kvs, u ≠ .dK kvs) → (∀ l, u ≠ .lst l) → b ∉ [p, nd, td, ed] := fun {u} e n1 n2 n3 hb => by
    simp only [List.mem_cons, List.not_mem_nil, or_false] at hb
    rcases hb with z | z | z | z
    · rw [z, e1] at e
      exact n1 _ _ _ (Option.some.inj e).symm
    · rw [z, e2.at_] at e
      exact n2 _ (Option.some.inj e).symm
    · rw [z, h.tl] at e
      exact n3 _ (Option.some.inj e).symm
    · rw [z, e3] at e
      exact n3 _ (Option.some.inj e).symm
  rcases q with q | ⟨ob, q⟩
  · exact .inl (k _ _ q (no q (fun _ _ _ z => by cases z) (fun _ z => by cases z) (fun _ z => by cases z)))
  · exact .inr ⟨ob, k _ _ q (no q (fun _ _ _ z => by cases z) (fun _ z => by cases z) (fun _ z => by cases z))⟩
theorem RunSt.same {K : PySem.W.Frag} {C : Addr} {H H' : Hp} {p nd td ed : Addr} {ks : List Str} {most : Nat} {s : Rs} (h : RunSt K C H p nd td ed ks most s) (u : Same H H') : RunSt K C H' p nd td ed ks most s :=
  ⟨let ⟨dx, e⟩ := h.ob; ⟨dx, u _ _ e⟩, let ⟨L, a, b, c⟩ := h.nm; ⟨L, u _ _ a, b, c⟩, u _ _ h.tl, let ⟨es, a, b⟩ := h.en; ⟨es, u _ _ a, Paired.mapP b fun _ _ x => x.stay (TupsStay.same u)⟩, h.ne⟩
theorem putS_map {L : Pr} {x : Str} {v : Int} (hx : x ∈ L.map (·.1)) : (putS L x v).map (·.1) = L.map (·.1) := by
  unfold putS
  have a : (L.any fun e => decide (e.1 = x)) = true := by
    obtain ⟨e, he, z⟩ := List.mem_map.mp hx
    exact List.any_eq_true.mpr ⟨e, he, decide_eq_true z⟩
  rw [if_pos a, List.map_map]
  refine List.map_congr_left fun e _ => ?_
  show (if e.1 = x then (e.1, v) else e).1 = e.1
  by_cases z : e.1 = x
  · rw [if_pos z]
  · rw [if_neg z]
theorem expo_set {L : Pr} (hn : (L.map (·.1)).Nodup) (x : Str) (t : Int) (y : Str) : expo (putS L x t) y = if y = x then t else expo L y := by
  have a := expo_put hn x (t - expo L x) y
  have e : expo L x + (t - expo L x) = t := by omega
  rw [e] at a
  rw [a]
  by_cases z : y = x
  · rw [if_pos z, if_pos z.symm, z]
    omega
  · rw [if_neg z, if_neg fun q => z q.symm]
    omega
theorem NmAt.set {H H' : Hp} {nd : Addr} {ks : List Str} {L : Pr} {v : Str → Int} (h : NmAt H nd ks L v) (nk : ks.Nodup) {x : Str} (hx : x ∈ ks) {n : Int} (e : H' nd = some (.dK (dSI (putS L x n)))) : NmAt H' nd ks (putS L x n) (setV v x n) :=
  ⟨e, by rw [putS_map (by rw [h.ks]; exact hx), h.ks], fun y => by
    rw [expo_set (by rw [h.ks]; exact nk), h.vv y]
    rfl⟩
theorem Paired.snoc {α β : Type} {G : α → β → Prop} {a : α} {b : β} (h : G a b) : ∀ {l₁ : List α} {l₂ : List β}, Paired G l₁ l₂ → Paired G (l₁ ++ [a]) (l₂ ++ [b])
  | _, _, .nil => .cons h .nil
  | _, _, .cons r t => .cons r (Paired.snoc h t)
/-- how far it has come: n statements done, R still open -/
structure Pt (ns : List Str) (most n R : Nat) (s : Rs) : Prop where
  bd : Bd ns n s.v
  tl : s.told.length ≤ n
  el : s.ents.length ≤ n
  pot : n + R ≤ 12 + 8 * s.turns
  tm : s.turns ≤ most
structure NsOk (ns : List Str) : Prop where
  len : ns.length = 7
  nd : ns.Nodup
theorem NsOk.dj {ns : List Str} (h : NsOk ns) : ∀ y, y ∈ gsOf ns → y ∈ osOf ns → False := gs_os h.nd h.len
theorem Pt.set {ns : List Str} {most n R : Nat} {s : Rs} (h : Pt ns most n (R + 1) s) (k : NsOk ns) {x : Str} {e : Ex} (t : (x ∈ gsOf ns ∧ BndE (gsOf ns) (osOf ns) (fun G _ => 2 * G + 1010) e) ∨ (x ∈ osOf ns ∧ BndE (gsOf ns) (osOf ns) (fun G M => G * G + 4 * M + 1010) e)) : Pt ns most (n + 1) R { s with v := setV s.v x (valE s.v e) } :=
  ⟨h.bd.set t k.dj, by have := h.tl; show s.told.length ≤ n + 1; omega, by have := h.el; show s.ents.length ≤ n + 1; omega, by have := h.pot; show n + 1 + R ≤ 12 + 8 * s.turns; omega, h.tm⟩
theorem Pt.say {ns : List Str} {most n R : Nat} {s : Rs} (h : Pt ns most n (R + 1) s) (z : Int) : Pt ns most (n + 1) R { s with told := s.told ++ [z] } :=
  ⟨h.bd.up (by omega), by have := h.tl; show (s.told ++ [z]).length ≤ n + 1; rw [List.length_append, List.length_singleton]; omega, by have := h.el; show s.ents.length ≤ n + 1; omega, by have := h.pot; show n + 1 + R ≤ 12 + 8 * s.turns; omega, h.tm⟩
theorem Pt.ent {ns : List Str} {most n R : Nat} {s : Rs} (h : Pt ns most n (R + 1) s) (z : List Nat × Int × Nat) : Pt ns most (n + 1) R { s with ents := s.ents ++ [z] } :=
  ⟨h.bd.up (by omega), by have := h.tl; show s.told.length ≤ n + 1; omega, by have := h.el; show (s.ents ++ [z]).length ≤ n + 1; rw [List.length_append, List.length_singleton]; omega, by have := h.pot; show n + 1 + R ≤ 12 + 8 * s.turns; omega, h.tm⟩
theorem Pt.turn {ns : List Str} {most n R : Nat} {s : Rs} (h : Pt ns most n R s) (k : NsOk ns) {x : Str} (hx : x ∈ gsOf ns) (nz : s.v x ≠ 0) (lt : s.turns < most) : Pt ns most n (R + 8) { s with turns := s.turns + 1, v := setV s.v x (s.v x - 1) } :=
  ⟨h.bd.less hx nz k.dj, h.tl, h.el, by have := h.pot; show n + (R + 8) ≤ 12 + 8 * (s.turns + 1); omega, lt⟩
theorem Pt.less {ns : List Str} {most n R R' : Nat} {s : Rs} (h : Pt ns most n R s) (l : R' ≤ R) : Pt ns most n R' s := ⟨h.bd, h.tl, h.el, by have := h.pot; omega, h.tm⟩
theorem turns_pt {ns : List Str} {most : Nat} (k : NsOk ns) {body : Rs → Option Rs} (hb : ∀ n R s s', Pt ns most n (R + 8) s → body s = some s' → (∃ n', Pt ns most n' R s') ∧ s.turns ≤ s'.turns) {x : Str} (hx : x ∈ gsOf ns) :
    ∀ f c n R s s' c', Pt ns most n R s → turnsR body most x f c s = some (s', c') → (∃ n', Pt ns most n' R s') ∧ s.turns ≤ s'.turns
  | 0, _, _, _, _, _, _, _, h => nomatch h
  | f + 1, c, n, R, s, s', c', p, h => by
    unfold turnsR at h
    by_cases z : s.v x = 0
    · rw [if_pos z] at h
      injection h with h
      injection h with h1 h2
      subst h1
      exact ⟨⟨n, p⟩, Nat.le_refl _⟩
    · rw [if_neg z] at h
      by_cases q : most ≤ s.turns
      · rw [if_pos q] at h
        cases h
      · rw [if_neg q] at h
        have p2 := p.turn k hx z (by omega)
        cases e : body { s with turns := s.turns + 1, v := setV s.v x (s.v x - 1) } with
        | none =>
          rw [e] at h
          cases h
        | some s2 =>
          rw [e] at h
          obtain ⟨⟨n2, p3⟩, m2⟩ := hb _ _ _ _ p2 e
          obtain ⟨p4, m4⟩ := turns_pt k hb hx f (c + 1) n2 R s2 s' c' p3 h
          have m2 : s.turns + 1 ≤ s2.turns := m2
          exact ⟨p4, by omega⟩
theorem doR_pt {ns : List Str} {most : Nat} (k : NsOk ns) : ∀ (r : Rw) {d : Nat}, RwOk ns r d → RwT ns r → ∀ pl i n R s s', Pt ns most n (R + lenR r) s → doR most r pl i s = some s' → (∃ n', Pt ns most n' R s') ∧ s.turns ≤ s'.turns
  | .nil, _, _, _, _, _, n, R, s, s', p, h => by
    injection h with h
    subst h
    exact ⟨⟨n, p⟩, Nat.le_refl _⟩
  | .set x e r, d, ⟨_, _, o⟩, ⟨t1, _, t⟩, pl, i, n, R, s, s', p, h => doR_pt k r o t pl (i + 1) (n + 1) R { s with v := setV s.v x (valE s.v e) } s' ((show Pt ns most n (R + lenR r + 1) s from p).set k t1) h
  | .say e r, d, ⟨_, o⟩, ⟨_, t⟩, pl, i, n, R, s, s', p, h => doR_pt k r o t pl (i + 1) (n + 1) R { s with told := s.told ++ [valE s.v e] } s' ((show Pt ns most n (R + lenR r + 1) s from p).say _) h
  | .lap x m b r, d, ⟨_, _, _, l8, ob, o⟩, ⟨t1, _, tb, t⟩, pl, i, n, R, s, s', p, h => by
    unfold doR at h
    cases e : turnsR (doR most b (pl ++ [i]) 0) most x (most + 1) 0 s with
    | none =>
      rw [e] at h
      cases h
    | some sc =>
      obtain ⟨s2, c⟩ := sc
      rw [e] at h
      obtain ⟨⟨n2, p2⟩, m2⟩ := turns_pt k (fun n R s s' p h => doR_pt k b ob tb _ _ n R s s' (p.less (by omega)) h) t1 _ _ n (R + lenR r + 1) s s2 c p e
      obtain ⟨p3, m3⟩ := doR_pt k r o t pl (i + 1) (n2 + 1) R _ s' (p2.ent _) h
      exact ⟨p3, Nat.le_trans m2 m3⟩
/-! ### a run with more or fewer turns told as a most -/
theorem turnsR_more {body body' : Rs → Option Rs} {most most' : Nat} {x : Str} (hb : ∀ s s', body s = some s' → s.turns ≤ s'.turns ∧ (s'.turns ≤ most' → body' s = some s')) :
    ∀ f c s s' c', turnsR body most x f c s = some (s', c') → s.turns ≤ s'.turns ∧ (s'.turns ≤ most' → ∀ f', s'.turns < f' + s.turns → turnsR body' most' x f' c s = some (s', c'))
  | 0, _, _, _, _, h => nomatch h
  | f + 1, c, s, s', c', h => by
    unfold turnsR at h
    by_cases z : s.v x = 0
    · rw [if_pos z] at h
      injection h with h
      injection h with h1 h2
      subst h1
      subst h2
      refine ⟨Nat.le_refl _, fun l f' hf => ?_⟩
      cases f' with
      | zero => omega
      | succ g =>
        unfold turnsR
        rw [if_pos z]
    · rw [if_neg z] at h
      by_cases q : most ≤ s.turns
      · rw [if_pos q] at h
        cases h
      · rw [if_neg q] at h
        cases e : body { s with turns := s.turns + 1, v := setV s.v x (s.v x - 1) } with
        | none =>
          rw [e] at h
          cases h
        | some s2 =>
          rw [e] at h
          obtain ⟨m1, b1⟩ := hb _ _ e
          obtain ⟨m2, b2⟩ := turnsR_more hb f (c + 1) s2 s' c' h
          have m1 : s.turns + 1 ≤ s2.turns := m1
          refine ⟨by omega, fun l f' hf => ?_⟩
          cases f' with
          | zero => omega
          | succ g =>
            unfold turnsR
            rw [if_neg z, if_neg (by omega), b1 (by omega)]
            exact b2 l g (by omega)
theorem doR_more {most most' : Nat} : ∀ (r : Rw) pl i s s', doR most r pl i s = some s' → s.turns ≤ s'.turns ∧ (s'.turns ≤ most' → doR most' r pl i s = some s')
  | .nil, _, _, s, s', h => by
    injection h with h
    subst h
    exact ⟨Nat.le_refl _, fun _ => rfl⟩
  | .set x e r, pl, i, s, s', h => doR_more r pl (i + 1) { s with v := setV s.v x (valE s.v e) } s' h
  | .say e r, pl, i, s, s', h => doR_more r pl (i + 1) { s with told := s.told ++ [valE s.v e] } s' h
  | .lap x m b r, pl, i, s, s', h => by
    unfold doR at h
    cases e : turnsR (doR most b (pl ++ [i]) 0) most x (most + 1) 0 s with
    | none =>
      rw [e] at h
      cases h
    | some sc =>
      obtain ⟨s2, c⟩ := sc
      rw [e] at h
      obtain ⟨m1, b1⟩ := turnsR_more (most' := most') (body' := doR most' b (pl ++ [i]) 0) (fun s s' h => doR_more b (pl ++ [i]) 0 s s' h) _ _ _ _ _ e
      obtain ⟨m2, b2⟩ := doR_more r pl (i + 1) _ s' h
      have m2 : s2.turns ≤ s'.turns := m2
      refine ⟨by omega, fun l => ?_⟩
      unfold doR
      rw [b1 (by omega) (most' + 1) (by omega)]
      exact b2 l
theorem doR_few {most most' : Nat} {r : Rw} {pl : List Nat} {i : Nat} {s s' : Rs} (h : doR most r pl i s = some s') (l : most' < s'.turns) (g : ∀ s'', doR most' r pl i s = some s'' → s''.turns ≤ most') (lm : s'.turns ≤ most) : doR most' r pl i s = none := by
  cases e : doR most' r pl i s with
  | none => rfl
  | some s'' =>
    have a := g _ e
    have b := (doR_more (most' := most) r pl i s s'' e).2 (by omega)
    rw [h] at b
    injection b with b
    subst b
    omega
theorem doR_lap {most : Nat} {x : Str} {m : Ex} {b r : Rw} {pl : List Nat} {i : Nat} {s s' : Rs} {c : Nat} (e : turnsR (doR most b (pl ++ [i]) 0) most x (most + 1) 0 s = some (s', c)) : doR most (.lap x m b r) pl i s = doR most r pl (i + 1) { s' with ents := s'.ents ++ [(pl ++ [i], valE s.v m, c)] } := by
  rw [doR, e]
theorem doR_lap0 {most : Nat} {x : Str} {m : Ex} {b r : Rw} {pl : List Nat} {i : Nat} {s : Rs} (e : turnsR (doR most b (pl ++ [i]) 0) most x (most + 1) 0 s = none) : doR most (.lap x m b r) pl i s = none := by
  rw [doR, e]
/-! ### what the program's runner does with a row and with a lap -/
section
variable {P : Program} {w : World} {K : PySem.W.Frag} {mg : Str → Option Value} {base : Heap} {C : Addr}
structure Din (K : PySem.W.Frag) (C : Addr) (H : Hp) (p nd td ed place : Addr) (ks ns : List Str) (most n R : Nat) (s : Rs) (pl : List Nat) : Prop where
  st : RunSt K C H p nd td ed ks most s
  pt : Pt ns most n R s
  ok : NsOk ns
  kn : ks.Nodup
  le : most ≤ 5010
  kl : ks.length ≤ 1000
  pa : SqT K H place (placeV pl)
theorem Din.same {H H' : Hp} {p nd td ed place : Addr} {ks ns : List Str} {most n R : Nat} {s : Rs} {pl : List Nat} (h : Din K C H p nd td ed place ks ns most n R s pl) (u : Same H H') : Din K C H' p nd td ed place ks ns most n R s pl :=
  ⟨h.st.same u, h.pt, h.ok, h.kn, h.le, h.kl, SqT.keeps h.pa (TupsStay.same u)⟩
theorem Din.go {H H' : Hp} {p nd td ed place : Addr} {ks ns : List Str} {most n R n' R' : Nat} {s s' : Rs} {pl : List Nat} (h : Din K C H p nd td ed place ks ns most n R s pl) (u : Kp [p, nd, td, ed] H H') (st : RunSt K C H' p nd td ed ks most s') (pt : Pt ns most n' R' s') : Din K C H' p nd td ed place ks ns most n' R' s' pl :=
  ⟨st, pt, h.ok, h.kn, h.le, h.kl, SqT.keeps h.pa (h.st.tups u)⟩
theorem Din.bits {H : Hp} {p nd td ed place : Addr} {ks ns : List Str} {most n R : Nat} {s : Rs} {pl : List Nat} (h : Din K C H p nd td ed place ks ns most n R s pl) : 10 ≤ 4 * n + 51 ∧ 4 * (4 * n + 51) ≤ 1000000 := by
  have a := h.pt.pot
  have b := h.pt.tm
  have c := h.le
  omega
theorem Din.small {H : Hp} {p nd td ed place : Addr} {ks ns : List Str} {most n R : Nat} {s : Rs} {pl : List Nat} (h : Din K C H p nd td ed place ks ns most n R s pl) : s.told.length < 100000 ∧ s.ents.length < 100000 := by
  have a := h.pt.pot
  have b := h.pt.tm
  have c := h.le
  have d := h.pt.tl
  have e := h.pt.el
  omega
/-- the dict of the names, and what is got and put there -/
theorem RunSt.nmd {H : Hp} {p nd td ed : Addr} {ks : List Str} {most : Nat} {s : Rs} (h : RunSt K C H p nd td ed ks most s) (kn : ks.Nodup) : ∃ L : Pr, H nd = some (.dK (dSI L)) ∧ (L.map (·.1)).Nodup ∧ L.map (·.1) = ks ∧ (∀ x, expo L x = s.v x) := by
  obtain ⟨L, a, b, c⟩ := h.nm
  exact ⟨L, a, by rw [b]; exact kn, b, c⟩
theorem RunSt.set {H H' : Hp} {p nd td ed : Addr} {ks : List Str} {most : Nat} {s : Rs} (h : RunSt K C H p nd td ed ks most s) (kn : ks.Nodup) {L : Pr} (el : L.map (·.1) = ks) (ev : ∀ x, expo L x = s.v x) {x : Str} (hx : x ∈ ks) (n : Int) (e : H' nd = some (.dK (dSI (putS L x n)))) (u : Else nd H H') : RunSt K C H' p nd td ed ks most { s with v := setV s.v x n } := by
  obtain ⟨k1, k2, k3, k4, k5⟩ := h.kinds
  obtain ⟨dx, e1⟩ := h.ob
  obtain ⟨L0, e2, _, _⟩ := h.nm
  obtain ⟨es, e3, e4⟩ := h.en
  have tt : TupsStay H H' := fun b xs q => by
    have no : b ≠ nd := fun z => by
      subst z
      rcases q with q | ⟨ob, q⟩ <;> (rw [e2] at q; cases q)
    rcases q with q | ⟨ob, q⟩
    · exact .inl (u _ _ q no)
    · exact .inr ⟨ob, u _ _ q no⟩
  refine ⟨⟨dx, u _ _ e1 k1⟩, ⟨putS L x n, e, by rw [putS_map (by rw [el]; exact hx), el], fun y => ?_⟩, u _ _ h.tl (fun z => k4 z.symm), ⟨es, u _ _ e3 (fun z => k5 z.symm), Paired.mapP e4 fun _ _ z => z.stay tt⟩, h.ne⟩
  rw [expo_set (by rw [el]; exact kn), ev y]
  rfl
theorem RunSt.say {H : Hp} {p nd td ed : Addr} {ks : List Str} {most : Nat} {s : Rs} (h : RunSt K C H p nd td ed ks most s) (n : Int) : RunSt K C (upd H td (.lst (s.told.map V.int ++ [.int n]))) p nd td ed ks most { s with told := s.told ++ [n] } := by
  obtain ⟨k1, k2, k3, k4, k5⟩ := h.kinds
  obtain ⟨dx, e1⟩ := h.ob
  obtain ⟨L0, e2, l1, l2⟩ := h.nm
  obtain ⟨es, e3, e4⟩ := h.en
  have tt : TupsStay H (upd H td (.lst (s.told.map V.int ++ [.int n]))) := h.tups (Kp.upd (by simp))
  refine ⟨⟨dx, by rw [upd_ne k2]; exact e1⟩, ⟨L0, by rw [upd_ne k4]; exact e2, l1, l2⟩, by rw [upd_same, List.map_append]; rfl, ⟨es, by rw [upd_ne h.ne.symm]; exact e3, Paired.mapP e4 fun _ _ z => z.stay tt⟩, h.ne⟩
theorem RunSt.ent {H : Hp} {p nd td ed ea : Addr} {ks : List Str} {most : Nat} {s : Rs} (h : RunSt K C H p nd td ed ks most s) {x : List Nat × Int × Nat} (hx : EntAt K H ea x) {es : List Addr} (e : H ed = some (.lst (es.map V.ref))) (pe : Paired (EntAt K H) es s.ents) : RunSt K C (upd H ed (.lst (es.map V.ref ++ [.ref ea]))) p nd td ed ks most { s with ents := s.ents ++ [x] } := by
  obtain ⟨k1, k2, k3, k4, k5⟩ := h.kinds
  obtain ⟨dx, e1⟩ := h.ob
  obtain ⟨L0, e2, l1, l2⟩ := h.nm
  have tt : TupsStay H (upd H ed (.lst (es.map V.ref ++ [.ref ea]))) := h.tups (Kp.upd (by simp))
  refine ⟨⟨dx, by rw [upd_ne k3]; exact e1⟩, ⟨L0, by rw [upd_ne k5]; exact e2, l1, l2⟩, by rw [upd_ne h.ne]; exact h.tl, ⟨es ++ [ea], by rw [upd_same, List.map_append]; rfl, Paired.snoc (hx.stay tt) (Paired.mapP pe fun _ _ z => z.stay tt)⟩, h.ne⟩
theorem RunSt.turn {H : Hp} {p nd td ed dx : Addr} {ks : List Str} {most : Nat} {s : Rs} (h : RunSt K C H p nd td ed ks most s) : RunSt K C (upd H p (.ins C dx (runF nd (most : Int) td ((s.turns : Int) + 1) ed))) p nd td ed ks most { s with turns := s.turns + 1 } := by
  obtain ⟨k1, k2, k3, k4, k5⟩ := h.kinds
  obtain ⟨L0, e2, l1, l2⟩ := h.nm
  obtain ⟨es, e3, e4⟩ := h.en
  have tt : TupsStay H (upd H p (.ins C dx (runF nd (most : Int) td ((s.turns : Int) + 1) ed))) := h.tups (Kp.upd (by simp))
  exact ⟨⟨dx, upd_same⟩, ⟨L0, by rw [upd_ne k1.symm]; exact e2, l1, l2⟩, by rw [upd_ne k2.symm]; exact h.tl, ⟨es, by rw [upd_ne k3.symm]; exact e3, Paired.mapP e4 fun _ _ z => z.stay tt⟩, h.ne⟩
def spDoRow (K : PySem.W.Frag) (C D : Addr) (n : Nat) : Sp := fun vs H Q E => ∃ (p row place nd td ed : Addr) (ks ns : List Str) (most m R : Nat) (s : Rs) (pl : List Nat) (rw_ : Rw), vs = [.ref p, .ref row, .ref place] ∧ Din K C H p nd td ed place ks ns most m (R + lenR rw_) s pl ∧ pl.length + n ≤ 20 ∧
  RwAt K H row rw_ ∧ RwOk ns rw_ n ∧ RwT ns rw_ ∧ lenR rw_ ≤ 12 ∧ (∀ x ∈ namesR rw_, x ∈ ks) ∧
  (∀ s' H', doR most rw_ pl 0 s = some s' → RunSt K C H' p nd td ed ks most s' → Kp [p, nd, td, ed] H H' → Q .non H') ∧ (doR most rw_ pl 0 s = none → ∀ H', Kp [p, nd, td, ed] H H' → E (.ref D) none H')
def spDoLap (K : PySem.W.Frag) (C D : Addr) (n : Nat) : Sp := fun vs H Q E => ∃ (p lap place nd td ed pm pb : Addr) (ks ns : List Str) (most m R : Nat) (s : Rs) (pl : List Nat) (x : Str) (me : Ex) (b : Rw), vs = [.ref p, .ref lap, .ref place] ∧ Din K C H p nd td ed place ks ns most m (R + 1) s pl ∧ pl.length + n ≤ 20 ∧
  SqT K H lap [.str "lap", .str x, .ref pm, .ref pb] ∧ ExAt K H pm me ∧ RwAt K H pb b ∧ x ∈ gsOf ns ∧ ExOk ns 2 me ∧ RwOk ns b n ∧ RwT ns b ∧ lenR b ≤ 8 ∧ x ∈ ks ∧ (∀ y ∈ namesE me, y ∈ ks) ∧ (∀ y ∈ namesR b, y ∈ ks) ∧
  (∀ s' c H', turnsR (doR most b pl 0) most x (most + 1) 0 s = some (s', c) → RunSt K C H' p nd td ed ks most { s' with ents := s'.ents ++ [(pl, valE s.v me, c)] } → Kp [p, nd, td, ed] H H' → Q .non H') ∧
  (turnsR (doR most b pl 0) most x (most + 1) 0 s = none → ∀ H', Kp [p, nd, td, ed] H H' → E (.ref D) none H')
theorem ok_do_row {Lp B D N U : Addr} (X : ExTxt K mg Lp B D N U) {f f2 : Addr} {fd fd2 : FuncData} {SA : Addr} (T : Txt K mg SA) (RT : RunTxt K mg C) (F : DefAt K mg "_do_row" "_do_row" s_do_row ["run", "row", "place"] f fd) (D_u_do_lap : DefAt K mg "_do_lap" "_do_lap" s_u_do_lap ["run", "lap", "place"] f2 fd2) {n k : Nat} (hk : 5 ≤ k)
    (G_u_do_lap : FnOk P w K mg base (L2.CX P w) k f2 fd2 ["run", "lap", "place"] (fun vs H Q E => 1 ≤ n ∧ spDoLap K C D (n - 1) vs H Q E)) : FnOk P w K mg base (L2.CX P w) (k + 1) f fd ["run", "row", "place"] (spDoRow K C D n) := by
  obtain ⟨f1, fd1, D_reckoned⟩ := T.d_reckoned
  have G_reckoned : FnOk P w K mg base CX0 4 f1 fd1 ["expression", "names"] (spReck K 4) := ok_reckoned T D_reckoned 4
  refine F.F.okX sc_do_row (fun vs H Q E h => ?_) (fun cdv A outer z H vs Q E hr h => ?_)
  · obtain ⟨p, row, place, nd, td, ed, ks, ns, most, m, R, s, pl, rw_, rfl, _⟩ := h
    rfl
  · obtain ⟨p, row, place, nd, td, ed, ks, ns, most, m, R, s, pl, rw_, rfl, I, hpl, ar, ok, tm, l12, ky, q, qe⟩ := h
    refine ⟨_, (pss_one (ps_for (passes_of rfl) rfl (pi_enumT (by rfl) T.m_enumerate (pa_cons (pe_ix ix_tup (pv 1) pe_int (fun _ _ => rfl)) pa_nil)) (pg_tup (by rfl) (pgs_cons (pg_name (i := 3) sc_do_row.nd rfl (.inl rfl)) (pgs_cons (pg_name (i := 4) sc_do_row.nd rfl (.inl rfl)) pgs_nil))) (pss_one (ps_if (pt_cmpR op_eq (pe_ix ix_tup (pv 4) pe_int (fun _ _ => rfl)) pe_str (nomark _)) (pss_one (ps_dput (room1 hr) (pe_fld (pv 0) rfl) (pe_ix ix_tup (pv 4) pe_int (fun _ _ => rfl)) (pe_call G_reckoned (hr.mono (by omega)) (by rfl) D_reckoned.g D_reckoned.F.kp D_reckoned.b .nil pass0 (pa_cons (pe_ix ix_tup (pv 4) pe_int (fun _ _ => rfl)) (pa_cons (pe_fld (pv 0) rfl) pa_nil))) rfl)) (pss_one (ps_if (pt_cmpR op_eq (pe_ix ix_tup (pv 4) pe_int (fun _ _ => rfl)) pe_str (nomark _)) (pss_one (ps_expr (pe_bm PySem.F.plainAttrs_list PySem.F.slot_list_append PySem.F.type_list_append mt_append (pe_fld (pv 0) rfl) (pa_cons (pe_call G_reckoned (hr.mono (by omega)) (by rfl) D_reckoned.g D_reckoned.F.kp D_reckoned.b .nil pass0 (pa_cons (pe_ix ix_tup (pv 4) pe_int (fun _ _ => rfl)) (pa_cons (pe_fld (pv 0) rfl) pa_nil))) pa_nil)))) (pss_one (ps_expr (pe_callS G_u_do_lap (hr.mono (by omega)) (by rfl) D_u_do_lap.g D_u_do_lap.F.kp D_u_do_lap.b (fun σ => passAt (takes_of rfl rfl rfl rfl) σ) (pa_cons (pv 0) (pa_cons (pv 4) (pa_cons (pe_op op_catA (pv 2) (pe_tup (pa_cons (pv 3) pa_nil))) pa_nil)))))))))))), ?_⟩
    obtain ⟨pt, qs, a1, a2, a3⟩ := ar
    have tt0 : ∀ {H2 : Hp}, Kp [p, nd, td, ed] H H2 → TupsStay H H2 := fun u => I.st.tups u
    refine ⟨_, rfl, row, _, _, _, rfl, rfl, a1, atI_nat (j := 1) rfl, pt, qs.map V.ref, rfl, a2, for_enumT (K := K) (a := pt) (xs := qs.map V.ref) (fun i σ H2 => ∃ (v3 v4 : Option V) (m2 : Nat) (s2 : Rs) (r2 : Rw), σ = [some (.ref p), some (.ref row), some (.ref place), v3, v4] ∧ Din K C H2 p nd td ed place ks ns most m2 (R + lenR r2) s2 pl ∧ Kp [p, nd, td, ed] H H2 ∧ StsAt K H2 r2 (qs.drop i) ∧ RwOk ns r2 n ∧ RwT ns r2 ∧ (∀ x ∈ namesR r2, x ∈ ks) ∧ doR most rw_ pl 0 s = doR most r2 pl i s2)
      ⟨none, none, m, s, rw_, rfl, I, Kp.refl _ _, a3, ok, tm, ky, rfl⟩ (fun i σ H2 _ h2 => ?_) (fun i x σ H2 t hx h2 nt => ?_) (fun σ H2 h2 => ?_)⟩
    · obtain ⟨v3, v4, m2, s2, r2, _, _, u2, _⟩ := h2
      exact SqT.keeps a2 (tt0 u2)
    · obtain ⟨v3, v4, m2, s2, r2, rfl, I2, u2, st2, ok2, tm2, ky2, eq2⟩ := h2
      obtain ⟨y, hy, rfl⟩ : ∃ y, qs[i]? = some y ∧ x = V.ref y := by
        rw [List.getElem?_map] at hx
        cases e : qs[i]? with
        | none =>
          rw [e] at hx
          cases hx
        | some y =>
          rw [e] at hx
          exact ⟨y, rfl, (Option.some.inj hx).symm⟩
      have ed2 : qs.drop i = y :: qs.drop (i + 1) := by
        obtain ⟨l, e⟩ := List.getElem?_eq_some_iff.mp hy
        rw [← e]
        exact List.drop_eq_getElem_cons l
      rw [ed2] at st2
      have ut : Same H2 (upd H2 t (.tup [.int (i : Nat), .ref y])) := same_upd nt
      have I3 := I2.same ut
      have u3 : Kp [p, nd, td, ed] H (upd H2 t (.tup [.int (i : Nat), .ref y])) := u2.same ut
      have st3 := st2.stay (TupsStay.same ut)
      refine ⟨t, _, rfl, SqT.of upd_same, rfl, _, _, rfl, _, _, rfl, rfl, ?_⟩
      cases r2 with
      | nil =>
        exact absurd st3 (by intro z; cases z)
      | set x e r3 =>
        obtain ⟨y', t', pe, e0, h1, h2, h3⟩ := st3
        obtain ⟨rfl, rfl⟩ : y = y' ∧ qs.drop (i + 1) = t' := by cases e0; exact ⟨rfl, rfl⟩
        obtain ⟨o1, o2, o3⟩ := ok2
        obtain ⟨g1, g2, g3⟩ := tm2
        obtain ⟨dx, eob⟩ := I3.st.ob
        obtain ⟨L, eL, nL, kL, vL⟩ := I3.st.nmd I3.kn
        have vE : expo L = s2.v := funext vL
        have bt := I3.bits
        refine ⟨_, rfl, y, _, _, _, rfl, rfl, h1, atI_nat (j := 0) rfl, rfl, _, rfl, ite2 (fun c => ?_) (fun c => absurd (by decide) c)⟩
        refine ⟨_, rfl, y, _, _, _, rfl, rfl, h1, atI_nat (j := 2) rfl, _, rfl, p, C, dx, _, _, rfl, eob, RT.cl_Run, RT.n_Run_names, rfl, ?_⟩
        refine ⟨pe, nd, e, ns, L, 4 * m2 + 51, rfl, h2, okSet g2, eL, nL, bt.1, mulB_set (by omega) bt.2 g2, (fun z hz => by rw [vL]; exact I3.pt.bd.bits I3.ok.len z hz), (fun z hz => by rw [kL]; exact ky2 z (List.mem_cons_of_mem _ (List.mem_append_left _ hz))), ?_⟩
        rw [vE]
        refine ⟨_, rfl, p, C, dx, _, _, rfl, eob, RT.cl_Run, RT.n_Run_names, rfl, _, rfl, y, _, _, _, rfl, rfl, h1, atI_nat (j := 1) rfl, nd, _, rfl, DPut.k (k := .inr x) eL (by rw [dSI_len, ← List.length_map (f := (·.1)), kL, sizeLine_eq]; have := I3.kl; omega), ?_⟩
        have hx : x ∈ ks := ky2 x List.mem_cons_self
        have el : Else nd (upd H2 t (.tup [.int (i : Nat), .ref y])) (upd (upd H2 t (.tup [.int (i : Nat), .ref y])) nd (.dK (dSI (putS L x (valE s2.v e))))) := fun b o z nb => by
          rw [upd_ne nb]
          exact z
        have S4 := I3.st.set I3.kn kL vL hx (valE s2.v e) upd_same el
        have u4 : Kp [p, nd, td, ed] (upd H2 t (.tup [.int (i : Nat), .ref y])) (upd (upd H2 t (.tup [.int (i : Nat), .ref y])) nd (.dK (dSI (putS L x (valE s2.v e))))) := Kp.upd (by simp)
        rw [dSI_put]
        exact ⟨_, _, m2 + 1, { s2 with v := setV s2.v x (valE s2.v e) }, r3, rfl, I3.go u4 S4 ((show Pt ns most m2 (R + lenR r3 + 1) s2 from I3.pt).set I3.ok g1), u3.trans u4, h3.stay (I3.st.tups u4), o3, g3, fun z hz => ky2 z (List.mem_cons_of_mem _ (List.mem_append_right _ hz)), eq2⟩
      | say e r3 =>
        obtain ⟨y', t', pe, e0, h1, h2, h3⟩ := st3
        obtain ⟨rfl, rfl⟩ : y = y' ∧ qs.drop (i + 1) = t' := by cases e0; exact ⟨rfl, rfl⟩
        obtain ⟨o2, o3⟩ := ok2
        obtain ⟨g2, g3⟩ := tm2
        obtain ⟨dx, eob⟩ := I3.st.ob
        obtain ⟨L, eL, nL, kL, vL⟩ := I3.st.nmd I3.kn
        have vE : expo L = s2.v := funext vL
        have bt := I3.bits
        refine ⟨_, rfl, y, _, _, _, rfl, rfl, h1, atI_nat (j := 0) rfl, rfl, _, rfl, ite2 (fun c => absurd c (by decide)) (fun c => ?_)⟩
        refine ⟨_, rfl, y, _, _, _, rfl, rfl, h1, atI_nat (j := 0) rfl, rfl, _, rfl, ite2 (fun c => ?_) (fun c => absurd (by decide) c)⟩
        refine ⟨_, rfl, p, C, dx, _, _, rfl, eob, RT.cl_Run, RT.n_Run_told, rfl, .inl ⟨rfl, _, SqL.of I3.st.tl⟩, ?_⟩
        refine ⟨_, rfl, y, _, _, _, rfl, rfl, h1, atI_nat (j := 1) rfl, _, rfl, p, C, dx, _, _, rfl, eob, RT.cl_Run, RT.n_Run_names, rfl, ?_⟩
        refine ⟨pe, nd, e, ns, L, 4 * m2 + 51, rfl, h2, g2.up, eL, nL, bt.1, mulB_two (by omega) bt.2 g2, (fun z hz => by rw [vL]; exact I3.pt.bd.bits I3.ok.len z hz), (fun z hz => by rw [kL]; exact ky2 z (List.mem_append_left _ hz)), ?_⟩
        rw [vE]
        refine ⟨td, _, _, rfl, rfl, I3.st.tl, by rw [List.length_map, sizeLine_eq]; have := I3.small; omega, ?_⟩
        have S4 := I3.st.say (valE s2.v e)
        have u4 : Kp [p, nd, td, ed] (upd H2 t (.tup [.int (i : Nat), .ref y])) (upd (upd H2 t (.tup [.int (i : Nat), .ref y])) td (.lst (s2.told.map V.int ++ [.int (valE s2.v e)]))) := Kp.upd (by simp)
        exact ⟨_, _, m2 + 1, { s2 with told := s2.told ++ [valE s2.v e] }, r3, rfl, I3.go u4 S4 ((show Pt ns most m2 (R + lenR r3 + 1) s2 from I3.pt).say _), u3.trans u4, h3.stay (I3.st.tups u4), o3, g3, fun z hz => ky2 z (List.mem_append_right _ hz), eq2⟩
      | lap x me b r3 =>
        obtain ⟨y', t', pm, pb, pt2, qb, e0, h1, h2, h3, h4, h5, h6⟩ := st3
        obtain ⟨rfl, rfl⟩ : y = y' ∧ qs.drop (i + 1) = t' := by cases e0; exact ⟨rfl, rfl⟩
        obtain ⟨o1, o2, o3, o4, o5, o6⟩ := ok2
        obtain ⟨g1, g2, g3, g4⟩ := tm2
        refine ⟨_, rfl, y, _, _, _, rfl, rfl, h1, atI_nat (j := 0) rfl, rfl, _, rfl, ite2 (fun c => absurd c (by decide)) (fun c => ?_)⟩
        refine ⟨_, rfl, y, _, _, _, rfl, rfl, h1, atI_nat (j := 0) rfl, rfl, _, rfl, ite2 (fun c => absurd c (by decide)) (fun c => ?_)⟩
        refine ⟨_, rfl, _, rfl, _, rfl, _, rfl, (by show 1 ≤ sizeLine; decide), fun t5 n5 => ?_⟩
        have key : ∀ (pl2 : Addr) (H6 : Hp) (Q' : VK) (E' : XK), Same (upd H2 t (.tup [.int (i : Nat), .ref y])) H6 → SqT K H6 pl2 (placeV (pl ++ [i])) →
            (∀ (m4 : Nat) (s4 : Rs) (H' : Hp), Din K C H' p nd td ed place ks ns most m4 (R + lenR r3) s4 pl → Kp [p, nd, td, ed] H H' → StsAt K H' r3 (qs.drop (i + 1)) → doR most rw_ pl 0 s = doR most r3 pl (i + 1) s4 → Q' .non H') →
            (doR most rw_ pl 0 s = none → ∀ H', Kp [p, nd, td, ed] H H' → E' (.ref D) none H') →
            1 ≤ n ∧ spDoLap K C D (n - 1) [.ref p, .ref y, .ref pl2] H6 Q' E' := fun pl2 H6 Q' E' u6 pa6 hQ hE => by
          have I6 := I3.same u6
          have tu := TupsStay.same u6
          have pt6 : Pt ns most m2 (R + lenR r3 + 1) s2 := I6.pt
          refine ⟨o3, p, y, pl2, nd, td, ed, pm, pb, ks, ns, most, m2, R + lenR r3, s2, pl ++ [i], x, me, b, rfl, ⟨I6.st, pt6, I6.ok, I6.kn, I6.le, I6.kl, pa6⟩, ?_, SqT.keeps h1 tu, h2.stay tu, ⟨pt2, qb, SqT.keeps h3 tu, SqT.keeps h4 tu, h5.stay tu⟩, g1, g2, o5, g3, o4, ky2 x List.mem_cons_self, fun z hz => ky2 z (List.mem_cons_of_mem _ (List.mem_append_left _ hz)), fun z hz => ky2 z (List.mem_cons_of_mem _ (List.mem_append_right _ (List.mem_append_left _ hz))), fun s' c H' e1 S1 u7 => ?_, fun e1 H' u7 => ?_⟩
          · rw [List.length_append, List.length_singleton]
            omega
          · obtain ⟨⟨n2, p2⟩, _⟩ := turns_pt I6.ok (fun n R s s' p h => doR_pt I6.ok b o5 g3 _ _ n R s s' (p.less (by omega)) h) g1 _ _ m2 (R + lenR r3 + 1) s2 s' c pt6 e1
            refine hQ (n2 + 1) _ H' (I6.go u7 S1 (p2.ent _)) ((u3.same u6).trans u7) ((h6.stay tu).stay (I6.st.tups u7)) (eq2.trans (doR_lap e1))
          · exact hE (eq2.trans (doR_lap0 e1)) H' ((u3.same u6).trans u7)
        have u5 : Same (upd H2 t (.tup [.int (i : Nat), .ref y])) (upd (upd H2 t (.tup [.int (i : Nat), .ref y])) t5 (.tup [.int (i : Nat)])) := same_upd n5
        have p5 : SqT K (upd (upd H2 t (.tup [.int (i : Nat), .ref y])) t5 (.tup [.int (i : Nat)])) place (placeV pl) := SqT.keeps I3.pa (TupsStay.same u5)
        have pv : placeV (pl ++ [i]) = placeV pl ++ [.int (i : Nat)] := List.map_append
        refine ⟨place, t5, placeV pl, [.int (i : Nat)], rfl, rfl, p5, SqT.of upd_same, by rw [sizeLine_eq]; unfold placeV; rw [List.length_map, List.length_singleton]; omega, fun e => ?_, fun _ e => (nomatch e), fun _ _ p6 n6 => ?_⟩
        · refine key t5 _ _ _ u5 (by rw [pv, e]; exact SqT.of upd_same) (fun m4 s4 H' a b c d => ⟨_, _, m4, s4, r3, rfl, a, b, c, o6, g4, fun z hz => ky2 z (List.mem_cons_of_mem _ (List.mem_append_right _ (List.mem_append_right _ hz))), d⟩) (fun e H' u => qe e H' u)
        · refine key p6 _ _ _ (u5.trans (same_upd n6)) (by rw [pv]; exact SqT.of upd_same) (fun m4 s4 H' a b c d => ⟨_, _, m4, s4, r3, rfl, a, b, c, o6, g4, fun z hz => ky2 z (List.mem_cons_of_mem _ (List.mem_append_right _ (List.mem_append_right _ hz))), d⟩) (fun e H' u => qe e H' u)
    · obtain ⟨v3, v4, m2, s2, r2, rfl, I2, u2, st2, ok2, tm2, ky2, eq2⟩ := h2
      rw [List.length_map, List.drop_length] at st2
      have e0 : r2 = .nil := by
        cases r2 with
        | nil => rfl
        | set x e r => obtain ⟨_, _, _, z, _⟩ := st2; cases z
        | say e r => obtain ⟨_, _, _, z, _⟩ := st2; cases z
        | lap x m b r => obtain ⟨_, _, _, _, _, _, z, _⟩ := st2; cases z
      subst e0
      exact q s2 H2 eq2 I2.st u2
theorem ok_do_lap {Lp B D N U : Addr} (X : ExTxt K mg Lp B D N U) {f f2 : Addr} {fd fd2 : FuncData} {SA : Addr} (T : Txt K mg SA) (RT : RunTxt K mg C) (F : DefAt K mg "_do_lap" "_do_lap" s_u_do_lap ["run", "lap", "place"] f fd) (D_do_row : DefAt K mg "_do_row" "_do_row" s_do_row ["run", "row", "place"] f2 fd2) {n k : Nat} (hk : 5 ≤ k)
    (G_do_row : FnOk P w K mg base (L2.CX P w) k f2 fd2 ["run", "row", "place"] (spDoRow K C D n)) : FnOk P w K mg base (L2.CX P w) (k + 1) f fd ["run", "lap", "place"] (spDoLap K C D n) := by
  obtain ⟨f1, fd1, D_reckoned⟩ := T.d_reckoned
  have G_reckoned : FnOk P w K mg base CX0 4 f1 fd1 ["expression", "names"] (spReck K 4) := ok_reckoned T D_reckoned 4
  refine F.F.okX sc_u_do_lap (fun vs H Q E h => ?_) (fun cdv A outer z H vs Q E hr h => ?_)
  · obtain ⟨p, lap, place, nd, td, ed, pm, pb, ks, ns, most, m, R, s, pl, x, me, b, rfl, _⟩ := h
    rfl
  · obtain ⟨p, lap, place, nd, td, ed, pm, pb, ks, ns, most, m, R, s, pl, x, me, b, rfl, I, hpl, h1, h2, h3, g1, g2, ok, tm, l8, kx, km, kb, q, qe⟩ := h
    refine ⟨_, (pss_cons (ps_set (i := 3) sc_u_do_lap.nd rfl (.inl rfl) (pe_ix ix_tup (pv 1) pe_int (fun _ _ => rfl)))
      (pss_cons (ps_set (i := 4) sc_u_do_lap.nd rfl (.inl rfl) (pe_call G_reckoned (hr.mono (by omega)) (by rfl) D_reckoned.g D_reckoned.F.kp D_reckoned.b .nil pass0 (pa_cons (pe_ix ix_tup (pv 1) pe_int (fun _ _ => rfl)) (pa_cons (pe_fld (pv 0) rfl) pa_nil))))
      (pss_cons (ps_set (i := 5) sc_u_do_lap.nd rfl (.inl rfl) pe_int)
      (pss_cons (ps_while (passes_of rfl) (pt_cmpR op_ne (pe_dget (room1 hr) (pe_fld (pv 0) rfl) (pv 3) (fun _ _ => rfl)) pe_int (nomark _)) (pss_cons (ps_if (pt_cmpR op_ge (pe_fld (pv 0) rfl) (pe_fld (pv 0) rfl) (nomark _)) (pss_one (ps_raise rfl (takes_of rfl rfl rfl rfl) (pmk_own PySem.F.excBase_ValueError X.xD X.gD X.kD (raises_own X.bD X.tD) rfl))) pss_nil) (pss_cons (ps_fldaug (pv 0) pe_int in_add) (pss_cons (ps_aug (i := 5) sc_u_do_lap.nd rfl (.inl rfl) pe_int ip_add) (pss_cons (ps_daug (room1 hr) (pe_fld (pv 0) rfl) (pv 3) pe_int in_sub (fun _ _ _ => rfl)) (pss_one (ps_expr (pe_callS G_do_row (hr.mono (by omega)) (by rfl) D_do_row.g D_do_row.F.kp D_do_row.b (fun σ => passAt (takes_of rfl rfl rfl rfl) σ) (pa_cons (pv 0) (pa_cons (pe_ix ix_tup (pv 1) pe_int (fun _ _ => rfl)) (pa_cons (pv 2) pa_nil)))))))))))
      (pss_one (ps_expr (pe_bm PySem.F.plainAttrs_list PySem.F.slot_list_append PySem.F.type_list_append mt_append (pe_fld (pv 0) rfl) (pa_cons (pe_tup (pa_cons (pv 2) (pa_cons (pv 4) (pa_cons (pv 5) pa_nil)))) pa_nil)))))))), ?_⟩
    have I0 := I
    have tt0 : ∀ {H2 : Hp}, Kp [p, nd, td, ed] H H2 → TupsStay H H2 := fun u => I0.st.tups u
    obtain ⟨dx, eob⟩ := I.st.ob
    obtain ⟨L, eL, nL, kL, vL⟩ := I.st.nmd I.kn
    have vE : expo L = s.v := funext vL
    have bt := I.bits
    refine ⟨_, rfl, lap, _, _, _, rfl, rfl, h1, atI_nat (j := 1) rfl, ?_⟩
    refine ⟨_, rfl, lap, _, _, _, rfl, rfl, h1, atI_nat (j := 2) rfl, _, rfl, p, C, dx, _, _, rfl, eob, RT.cl_Run, RT.n_Run_names, rfl, ?_⟩
    refine ⟨pm, nd, me, ns, L, 4 * m + 51, rfl, h2, g2.up, eL, nL, bt.1, mulB_two (by omega) bt.2 g2, (fun z hz => by rw [vL]; exact I.pt.bd.bits I.ok.len z hz), (fun z hz => by rw [kL]; exact km z hz), ?_⟩
    rw [vE]
    clear L eL nL kL vL vE dx eob bt
    refine ⟨fun f2 σ H2 => ∃ (c m2 : Nat) (s2 : Rs), σ = [some (.ref p), some (.ref lap), some (.ref place), some (.str x), some (.int (valE s.v me)), some (.int (c : Int))] ∧ Din K C H2 p nd td ed place ks ns most m2 (R + 1) s2 pl ∧ Kp [p, nd, td, ed] H H2 ∧ most + 1 ≤ f2 + s2.turns ∧ turnsR (doR most b pl 0) most x (most + 1) 0 s = turnsR (doR most b pl 0) most x f2 c s2, ⟨most + 1, 0, m, s, rfl, I, Kp.refl _ _, by omega, rfl⟩, ?_⟩
    rintro f2 σ H2 ⟨c, m2, s2, rfl, I2, u2, lf, eq2⟩
    obtain ⟨dx, eob⟩ := I2.st.ob
    obtain ⟨L, eL, nL, kL, vL⟩ := I2.st.nmd I2.kn
    have vE : expo L = s2.v := funext vL
    have tm2 := I2.pt.tm
    have dg : DGet H2 nd (.str x) (some (.int (s2.v x))) := by
      have z := DGet.k (k := .inr x) eL
      rw [valV_some nL (by rw [kL]; exact kx), vL] at z
      exact z
    refine ⟨_, rfl, p, C, dx, _, _, rfl, eob, RT.cl_Run, RT.n_Run_names, rfl, _, rfl, nd, _, rfl, dg, ?_⟩
    refine ⟨rfl, _, rfl, ite2 (fun c0 => ?_) (fun c0 => ?_)⟩
    · have nz : s2.v x ≠ 0 := fun e => by
        rw [e] at c0
        exact absurd c0 (by decide)
      obtain ⟨g, rfl⟩ : ∃ g, f2 = g + 1 := ⟨f2 - 1, by omega⟩
      refine ⟨fun σ H2 => ∃ (c m2 : Nat) (s2 : Rs), σ = [some (.ref p), some (.ref lap), some (.ref place), some (.str x), some (.int (valE s.v me)), some (.int (c : Int))] ∧ Din K C H2 p nd td ed place ks ns most m2 (R + 1) s2 pl ∧ Kp [p, nd, td, ed] H H2 ∧ most + 1 ≤ g + s2.turns ∧ turnsR (doR most b pl 0) most x (most + 1) 0 s = turnsR (doR most b pl 0) most x g c s2, fun σ' H' h => ⟨g, Nat.lt_succ_self g, h⟩, ?_⟩
      refine ⟨_, rfl, p, C, dx, _, _, rfl, eob, RT.cl_Run, RT.n_Run_turns, rfl, _, rfl, p, C, dx, _, _, rfl, eob, RT.cl_Run, RT.n_Run_most, rfl, _, _, rfl, rfl, _, rfl, ite2 (fun c1 => ?_) (fun c1 => ?_)⟩
      · have c1 : most ≤ s2.turns := by have := of_decide_eq_true c1; omega
        refine qe ?_ H2 u2
        rw [eq2, turnsR, if_neg nz, if_pos c1]
      · have c1 : ¬ most ≤ s2.turns := fun l => c1 (decide_eq_true (by omega))
        have l1 : s2.turns < most := by omega
        refine ⟨_, rfl, p, C, dx, _, _, rfl, eob, RT.cl_Run, RT.n_Run_turns, rfl, _, _, rfl, rfl, dx, _, eob, (by show 5 < 1000; decide), ?_⟩
        have S3 := I2.st.turn (dx := dx)
        have u3 : Kp [p, nd, td, ed] H2 (upd H2 p (.ins C dx (runF nd (most : Int) td ((s2.turns : Int) + 1) ed))) := Kp.upd (by simp)
        have ef : putF "turns" (.int ((s2.turns : Int) + 1)) (runF nd (most : Int) td (s2.turns : Int) ed) = runF nd (most : Int) td ((s2.turns : Int) + 1) ed := rfl
        rw [ef]
        generalize hH3 : upd H2 p (.ins C dx (runF nd (most : Int) td ((s2.turns : Int) + 1) ed)) = H3 at S3 u3 ⊢
        obtain ⟨dx3, eob3⟩ := S3.ob
        obtain ⟨L3, eL3, nL3, kL3, vL3⟩ := S3.nmd I2.kn
        have dg3 : DGet H3 nd (.str x) (some (.int (s2.v x))) := by
          have z := DGet.k (k := .inr x) eL3
          rw [valV_some nL3 (by rw [kL3]; exact kx), vL3] at z
          exact z
        refine ⟨_, rfl, _, _, rfl, rfl, ?_⟩
        refine ⟨_, rfl, p, C, dx3, _, _, rfl, eob3, RT.cl_Run, RT.n_Run_names, rfl, _, rfl, nd, _, rfl, dg3, _, _, rfl, rfl, _, DPut.k (k := .inr x) eL3 (by rw [dSI_len, ← List.length_map (f := (·.1)), kL3, sizeLine_eq]; have := I2.kl; omega), ?_⟩
        rw [dSI_put]
        have el : Else nd H3 (upd H3 nd (.dK (dSI (putS L3 x (s2.v x - 1))))) := fun b o z nb => by
          rw [upd_ne nb]
          exact z
        have S4 := S3.set I2.kn kL3 vL3 kx (s2.v x - 1) upd_same el
        have u4 : Kp [p, nd, td, ed] H3 (upd H3 nd (.dK (dSI (putS L3 x (s2.v x - 1))))) := Kp.upd (by simp)
        generalize hH4 : upd H3 nd (.dK (dSI (putS L3 x (s2.v x - 1)))) = H4 at S4 u4 ⊢
        have u24 := u3.trans u4
        have I4 := I2.go (n' := m2) (R' := R + 1 + 8) u24 S4 (I2.pt.turn I2.ok g1 nz l1)
        have t4 := tt0 (u2.trans u24)
        have p4 : Pt ns most m2 (R + 1 + lenR b) { s2 with turns := s2.turns + 1, v := setV s2.v x (s2.v x - 1) } := I4.pt.less (by omega)
        refine ⟨_, rfl, _, rfl, lap, _, _, _, rfl, rfl, SqT.keeps h1 t4, atI_nat (j := 3) rfl, _, rfl, ?_⟩
        refine ⟨p, pb, place, nd, td, ed, ks, ns, most, m2, R + 1, { s2 with turns := s2.turns + 1, v := setV s2.v x (s2.v x - 1) }, pl, b, rfl, ⟨I4.st, p4, I4.ok, I4.kn, I4.le, I4.kl, I4.pa⟩, hpl, h3.stay t4, ok, tm, by omega, kb, fun s' H' e1 S5 u5 => ?_, fun e1 H' u5 => ?_⟩
        · obtain ⟨⟨n5, p5⟩, mm⟩ := doR_pt I2.ok b ok tm pl 0 m2 (R + 1) _ s' p4 e1
          have mm : s2.turns + 1 ≤ s'.turns := mm
          refine ⟨c + 1, n5, s', rfl, I4.go u5 S5 p5, (u2.trans u24).trans u5, by omega, ?_⟩
          rw [eq2, turnsR, if_neg nz, if_neg c1, e1]
        · refine qe ?_ H' ((u2.trans u24).trans u5)
          rw [eq2, turnsR, if_neg nz, if_neg c1, e1]
    · have z0 : s2.v x = 0 := Classical.byContradiction fun nz => c0 (by
        have : decide (V.int (s2.v x) = V.int 0) = false := decide_eq_false fun e => nz (by injection e)
        rw [this]
        rfl)
      have e1 : turnsR (doR most b pl 0) most x (most + 1) 0 s = some (s2, c) := by
        obtain ⟨g, rfl⟩ : ∃ g, f2 = g + 1 := ⟨f2 - 1, by omega⟩
        rw [eq2, turnsR, if_pos z0]
      obtain ⟨es, e3, e4⟩ := I2.st.en
      refine ⟨_, rfl, p, C, dx, _, _, rfl, eob, RT.cl_Run, RT.n_Run_entries, rfl, .inl ⟨rfl, _, SqL.of e3⟩, ?_⟩
      refine ⟨_, rfl, _, rfl, _, rfl, (by show 3 ≤ sizeLine; decide), fun t6 n6 => ?_⟩
      have u6 : Same H2 (upd H2 t6 (.tup [.ref place, .int (valE s.v me), .int (c : Int)])) := same_upd n6
      have I6 := I2.same u6
      have ea : EntAt K (upd H2 t6 (.tup [.ref place, .int (valE s.v me), .int (c : Int)])) t6 (pl, valE s.v me, c) := ⟨place, SqT.of upd_same, I6.pa⟩
      have e6 := u6 _ _ e3
      have e7 : Paired (EntAt K (upd H2 t6 (.tup [.ref place, .int (valE s.v me), .int (c : Int)]))) es s2.ents := Paired.mapP e4 fun _ _ z => z.stay (TupsStay.same u6)
      have S7 := I6.st.ent ea e6 e7
      have lene : es.length = s2.ents.length := by
        have : ∀ {l1 : List Addr} {l2 : List (List Nat × Int × Nat)}, Paired (EntAt K H2) l1 l2 → l1.length = l2.length := fun h => by
          induction h with
          | nil => rfl
          | cons _ _ ih => rw [List.length_cons, List.length_cons, ih]
        exact this e4
      refine ⟨ed, _, _, rfl, rfl, e6, by rw [List.length_map, lene, sizeLine_eq]; have := I2.small; omega, ?_⟩
      exact q s2 c _ e1 S7 ((u2.same u6).trans (Kp.upd (by simp)))
end
/-- numbers of names of ns, from nought up to a million -/
structure PointOk (ns : List Str) (L : Pr) : Prop where
  nd : (L.map (·.1)).Nodup
  of : ∀ e ∈ L, e.1 ∈ ns
  le : ∀ e ∈ L, 0 ≤ e.2 ∧ e.2 ≤ 1000000
theorem PointOk.nil (ns : List Str) : PointOk ns [] := ⟨List.nodup_nil, (fun _ h => nomatch h), (fun _ h => nomatch h)⟩
theorem PointOk.put {ns : List Str} {L : Pr} (h : PointOk ns L) {x : Str} {v : Int} (hx : x ∈ ns) (hv : 0 ≤ v ∧ v ≤ 1000000) : PointOk ns (putS L x v) := by
  refine ⟨putS_nodup x v h.nd, fun e he => ?_, fun e he => ?_⟩
  · rcases putS_keys L x v e he with z | z
    · rw [z]; exact hx
    · exact h.of e z
  · rcases putS_keys L x v e he with z | z
    · rw [z]; exact hv
    · exact h.le e z
theorem PointOk.len {ns : List Str} {L : Pr} (h : PointOk ns L) : L.length ≤ ns.length := by
  have z := nodup_len (m := ns) h.nd fun y hy => by
    obtain ⟨e, he, ee⟩ := List.mem_map.mp hy
    rw [← ee]
    exact h.of e he
  rw [List.length_map] at z
  exact z
/-! ### a dict comprehension over the entries of a plain dict -/
theorem dc_itemsP {d : Addr} {o : Obj} {kvs : List (L2.Key × V)} {g : TG} {tt : TT} {tk tv : TE} {vs : List Nat} {σ : L2.St} {H1 : Hp} {D : Addr} {Qd : Hp → Prop} (Pv : Nat → Hp → Prop) (h0 : Pv 0 (upd H1 D (.dK []))) (hl : ∀ i H, i ≤ kvs.length → Pv i H → H d = some (.frz o (.dK kvs)))
    (hs : ∀ i k v H T, kvs[i]? = some (k, v) → Pv i H → H T = none → g (.ref T) (wipe σ vs) (upd H T (.tup [kV k, v])) fun σ2 H2 => wipe σ2 vs = wipe σ vs ∧ tt σ2 H2 fun b H3 =>
      if b = true then tk σ2 H3 fun y H4 => tv σ2 H4 fun z H5 => ∃ kvs k, y = kV k ∧ H5 D = some (.dK kvs) ∧ kvs.length < sizeLine ∧ Pv (i + 1) (upd H5 D (.dK (putK kvs k z))) else Pv (i + 1) H3) (hd : ∀ H, Pv kvs.length H → Qd H) :
    ∃ W : Nat → Nat → Hp → Prop, (∃ m, W 0 m (upd H1 D (.dK []))) ∧ ∀ i m H, W i m H →
      ((Iti d o kvs).stop i H ∧ Qd H) ∨ ((Iti d o kvs).go i H ∧ ∃ Nx : Hp → Prop, (∀ H', Nx H' → ∃ m', m' < m ∧ W (i + 1) m' H') ∧ ∀ x H', (Iti d o kvs).yld i H x H' → g x (wipe σ vs) H' fun σ2 H2 => wipe σ2 vs = wipe σ vs ∧ tt σ2 H2 fun b H3 =>
        if b = true then tk σ2 H3 fun y H4 => tv σ2 H4 fun z H5 => ∃ kvs k, y = kV k ∧ H5 D = some (.dK kvs) ∧ kvs.length < sizeLine ∧ Nx (upd H5 D (.dK (putK kvs k z))) else Nx H3) := by
  refine ⟨fun i m H => m = kvs.length - i ∧ i ≤ kvs.length ∧ Pv i H, ⟨kvs.length, by simp, Nat.zero_le _, h0⟩, ?_⟩
  rintro i m H ⟨rfl, hi, p⟩
  have F := hl i H hi p
  by_cases lt : i < kvs.length
  · refine .inr ⟨⟨F, lt⟩, Pv (i + 1), fun H' p' => ⟨kvs.length - (i + 1), by omega, rfl, lt, p'⟩, fun x H' ⟨T, k, v, hL, ex, nT, eH⟩ => ?_⟩
    subst ex
    subst eH
    exact hs i k v _ T hL p nT
  · have e : i = kvs.length := by omega
    subst e
    exact .inl ⟨⟨F, Nat.le_refl _⟩, hd H p⟩
theorem dSI_take_put {L : Pr} (hn : (L.map (·.1)).Nodup) {i : Nat} {k : L2.Key} {v : V} (h : (dSI L)[i]? = some (k, v)) : putK (dSI (L.take i)) k v = dSI (L.take (i + 1)) := by
  unfold dSI at h
  rw [List.getElem?_map] at h
  cases e : L[i]? with
  | none =>
    rw [e] at h
    cases h
  | some x =>
    rw [e] at h
    injection h with h
    injection h with h1 h2
    subst h1
    subst h2
    have hl := (List.getElem?_eq_some_iff.mp e).1
    have no : ¬ ((L.take i).any fun f => decide (f.1 = x.1)) = true := fun z => by
      obtain ⟨f, hf, ee⟩ := List.any_eq_true.mp z
      have ee := of_decide_eq_true ee
      obtain ⟨j, hj⟩ := List.mem_iff_getElem?.mp hf
      have lj : j < i := by
        have := (List.getElem?_eq_some_iff.mp hj).1
        rw [List.length_take] at this
        omega
      rw [List.getElem?_take, if_pos lj] at hj
      have a : (L.map (·.1))[j]? = some x.1 := by rw [List.getElem?_map, hj, ← ee]; rfl
      have b : (L.map (·.1))[i]? = some x.1 := by rw [List.getElem?_map, e]; rfl
      have := nd_ix hn a b
      omega
    rw [dSI_put]
    unfold putS
    rw [if_neg no, List.take_add_one, e]
    rfl
/-! ### Run, ran -/
section
variable {P : Program} {w : World} {K : PySem.W.Frag} {mg : Str → Option Value} {base : Heap} {C : Addr}
def spRunInit (K : PySem.W.Frag) (C : Addr) : Sp := fun vs H Q _ => ∃ (p dx d : Addr) (L : Pr) (most : Int), vs = [.ref p, .ref d, .int most] ∧ H p = some (.ins C dx []) ∧ H d = some (.dK (dSI L)) ∧ (L.map (·.1)).Nodup ∧ L.length < 1000 ∧
  ∀ (H' : Hp) (nd td ed : Addr), H' p = some (.ins C dx (runF nd most td 0 ed)) → H' nd = some (.dK (dSI L)) → H' td = some (.lst []) → H' ed = some (.lst []) → td ≠ ed → nd ≠ d → H nd = none → H td = none → H ed = none → (∀ b o, H b = some o → b ≠ p → H' b = some o) → Q .non H'
theorem ok_Run_init {f : Addr} {fd : FuncData} {SA : Addr} (T : Txt K mg SA) (RT : RunTxt K mg C) (F : Fun K "__init__" "Run.__init__" s_Run_init f fd) : FnOk P w K mg base CX0 1 f fd ["self", "names", "most"] (spRunInit K C) := by
  refine F.ok sc_Run_init (fun vs H Q E h => ?_) (fun cdv A outer s H vs Q E hr h => ?_)
  · obtain ⟨p, dx, d, L, most, rfl, _⟩ := h
    rfl
  · obtain ⟨p, dx, d, L, most, rfl, ep, ed, nL, lL, q⟩ := h
    refine ⟨_, (pss_cons (ps_fld (pv 0) (pe_lock (pe_dc (own := [("name", 3), ("number", 4)]) (g := gTup K 2 (gCons (gName 3) (gCons (gName 4) gNil))) (tt := tYes) rfl sc_Run_init.nd (pi_items (pv 1)) (blkOk_by (own := [("name", 3), ("number", 4)]) (N := ["self", "names", "most", "name", "number"]) (sc := defScope s_Run_init) (by decide +kernel)) (fun _ _ _ _ _ => pg_tup (by rfl) (pgs_cons (pg_name (i := 3) sc_Run_init.nd rfl (.inl rfl)) (pgs_cons (pg_name (i := 4) sc_Run_init.nd rfl (.inl rfl)) pgs_nil))) (fun _ _ _ _ _ => pts_nil) (fun _ _ _ _ _ => pv 3) (fun _ _ _ _ _ => pv 4))) rfl)
      (pss_cons (ps_fld (pv 0) (pv 2) rfl)
      (pss_cons (ps_fld (pv 0) (pe_lst pa_nil) rfl)
      (pss_cons (ps_fld (pv 0) pe_int rfl)
      (pss_one (ps_fld (pv 0) (pe_lst pa_nil) rfl)))))), ?_⟩
    refine ⟨d, _, ed, True.intro, fun od => ?_⟩
    have npd : p ≠ d := ne_of ep ed (by intro z; cases z)
    refine ⟨_, rfl, d, od, dSI L, rfl, upd_same, fun D nD => dc_itemsP (fun i H2 => H2 D = some (.dK (dSI (L.take i))) ∧ Same (upd H d (.frz od (.dK (dSI L)))) H2) ⟨by rw [List.take_zero]; exact upd_same, same_upd nD⟩ (fun i H2 _ h => h.2 _ _ upd_same) ?_ ?_⟩
    · rintro i k v H2 t hL ⟨n2, s2⟩ nt
      have i1 : i < L.length := by
        have := (List.getElem?_eq_some_iff.mp hL).1
        rwa [dSI_len] at this
      refine ⟨t, _, rfl, SqT.of upd_same, rfl, _, _, rfl, _, _, rfl, rfl, rfl, _, rfl, _, rfl, dSI (L.take i), k, rfl, same_upd nt _ _ n2, ?_, ?_, fun b o e => ?_⟩
      · rw [dSI_len, List.length_take, sizeLine_eq]
        omega
      · rw [dSI_take_put nL hL]
        exact upd_same
      · have nb : b ≠ D := ne_of_none e nD
        rw [upd_ne nb]
        exact same_upd nt _ _ (s2 _ _ e)
    · rintro H2 ⟨n2, s2⟩
      rw [dSI_len, List.take_length] at n2
      have ed2 : H2 d = some (.frz od (.dK (dSI L))) := s2 _ _ upd_same
      have hp2 : H2 p = some (.ins C dx []) := s2 _ _ (by rw [upd_ne npd]; exact ep)
      have nDd : D ≠ d := (ne_of_none upd_same nD).symm
      have nDp : D ≠ p := (ne_of_none (by rw [upd_ne npd]; exact ep) nD).symm
      refine ⟨ed2, _, rfl, p, C, dx, [], rfl, (by rw [upd_ne npd]; exact hp2), RT.cl_Run, RT.n_Run_names, (by show 0 < 1000; decide), ?_⟩
      generalize hA : upd H2 d (.dK (dSI L)) = HA
      have eA : ∀ b o, H b = some o → HA b = some o := fun b o e => by
        subst hA
        by_cases z : b = d
        · rw [z, upd_same, ← ed, ← z]
          exact e
        · rw [upd_ne z]
          exact s2 _ _ (by rw [upd_ne z]; exact e)
      have eD : HA D = some (.dK (dSI L)) := by
        rw [← hA, upd_ne nDd]
        exact n2
      have nDH : H D = none := by
        have := nD
        rwa [upd_ne nDd] at this
      have npD := nDp.symm
      refine ⟨_, rfl, _, rfl, p, C, dx, _, rfl, upd_same, RT.cl_Run, RT.n_Run_most, (by show 1 < 1000; decide), ?_⟩
      refine ⟨(by show 0 ≤ sizeLine; decide), fun td ntd => ?_⟩
      have tp : td ≠ p := fun z => by rw [z, upd_same] at ntd; cases ntd
      have tA : HA td = none := by rwa [upd_ne tp, upd_ne tp] at ntd
      have tD : td ≠ D := (ne_of_none eD tA).symm
      refine ⟨_, rfl, p, C, dx, _, rfl, by rw [upd_ne tp.symm]; exact upd_same, RT.cl_Run, RT.n_Run_told, (by show 2 < 1000; decide), ?_⟩
      refine ⟨_, rfl, p, C, dx, _, rfl, upd_same, RT.cl_Run, RT.n_Run_turns, (by show 3 < 1000; decide), ?_⟩
      refine ⟨(by show 0 ≤ sizeLine; decide), fun ed2 ned => ?_⟩
      have ep2 : ed2 ≠ p := fun z => by rw [z, upd_same] at ned; cases ned
      have et : ed2 ≠ td := fun z => by rw [z, upd_ne tp, upd_ne tp, upd_same] at ned; cases ned
      have eA2 : HA ed2 = none := by rwa [upd_ne ep2, upd_ne ep2, upd_ne et, upd_ne ep2, upd_ne ep2] at ned
      have eD2 : ed2 ≠ D := (ne_of_none eD eA2).symm
      refine ⟨_, rfl, p, C, dx, _, rfl, by rw [upd_ne ep2.symm]; exact upd_same, RT.cl_Run, RT.n_Run_entries, (by show 4 < 1000; decide), ?_⟩
      have un : ∀ {b : Addr}, HA b = none → H b = none := fun {b} z => by
        cases e : H b with
        | none => rfl
        | some o =>
          rw [eA _ _ e] at z
          cases z
      refine q _ D td ed2 upd_same ?_ ?_ ?_ et.symm nDd nDH (un tA) (un eA2) fun b o e nb => ?_
      · rw [upd_ne nDp, upd_ne eD2.symm, upd_ne nDp, upd_ne nDp, upd_ne tD.symm, upd_ne nDp, upd_ne nDp]
        exact eD
      · rw [upd_ne tp, upd_ne et.symm, upd_ne tp, upd_ne tp, upd_same]
      · rw [upd_ne ep2, upd_same]
      · have n1 : b ≠ td := ne_of_none e (un tA)
        have n2 : b ≠ ed2 := ne_of_none e (un eA2)
        rw [upd_ne nb, upd_ne n2, upd_ne nb, upd_ne nb, upd_ne n1, upd_ne nb, upd_ne nb]
        exact eA _ _ e
theorem fn_never {CX : CXT} {k : Nat} {f : Addr} {fd : FuncData} {ps : List Str} {sp : Sp} (no : ∀ vs H Q E, ¬ sp vs H Q E) : FnOk P w K mg base CX k f fd ps sp :=
  ⟨fun vs H Q E q => absurd q (no vs H Q E), fun A outer s H args us vs Q E hr he hb hv hs => absurd hs (no vs H Q E)⟩
theorem do_all {Lp B D N U : Addr} (X : ExTxt K mg Lp B D N U) {f f2 : Addr} {fd fd2 : FuncData} {SA : Addr} (T : Txt K mg SA) (RT : RunTxt K mg C) (Fr : DefAt K mg "_do_row" "_do_row" s_do_row ["run", "row", "place"] f fd) (Fl : DefAt K mg "_do_lap" "_do_lap" s_u_do_lap ["run", "lap", "place"] f2 fd2) : ∀ n, FnOk P w K mg base (L2.CX P w) (2 * n + 6) f fd ["run", "row", "place"] (spDoRow K C D n)
  | 0 => ok_do_row X T RT Fr Fl (k := 5) (by decide) (fn_never fun _ _ _ _ h => absurd h.1 (by decide))
  | n + 1 => ok_do_row X T RT Fr Fl (k := 2 * n + 7) (by omega) (fn_drop (ok_do_lap X T RT Fl Fr (k := 2 * n + 6) (by omega) (do_all X T RT Fr Fl n)))
/-- names that aren't there are put in with nought -/
def zeroS (L : Pr) : List Str → Pr
  | [] => L
  | x :: r => zeroS (if x ∈ L.map (·.1) then L else L ++ [(x, 0)]) r
theorem zeroS_app (L : Pr) : ∀ (a b : List Str), zeroS L (a ++ b) = zeroS (zeroS L a) b := fun a => by
  induction a generalizing L with
  | nil => exact fun b => rfl
  | cons x r ih => exact fun b => ih _ b
theorem expo_app0 (L : Pr) (x y : Str) : expo (L ++ [(x, 0)]) y = expo L y := by
  rw [expo_append]
  have : expo [(x, 0)] y = 0 := by
    show (if x = y then (0 : Int) else 0) + 0 = 0
    split <;> rfl
  omega
theorem zeroS_ok : ∀ (xs : List Str) (L : Pr), (L.map (·.1)).Nodup → ((zeroS L xs).map (·.1)).Nodup ∧ (∀ y, y ∈ (zeroS L xs).map (·.1) ↔ y ∈ L.map (·.1) ∨ y ∈ xs) ∧ ∀ y, expo (zeroS L xs) y = expo L y
  | [], L, h => ⟨h, fun y => by simp [zeroS], fun y => rfl⟩
  | x :: r, L, h => by
    unfold zeroS
    by_cases z : x ∈ L.map (·.1)
    · rw [if_pos z]
      obtain ⟨a, b, c⟩ := zeroS_ok r L h
      refine ⟨a, fun y => ?_, c⟩
      rw [b y, List.mem_cons]
      constructor
      · rintro (k | k)
        · exact .inl k
        · exact .inr (.inr k)
      · rintro (k | k | k)
        · exact .inl k
        · exact .inl (k ▸ z)
        · exact .inr k
    · rw [if_neg z]
      have h2 : ((L ++ [((x, 0) : Str × Int)]).map (·.1)).Nodup := by
        rw [List.map_append, List.nodup_append]
        refine ⟨h, by simp, fun a ha b hb e => ?_⟩
        have : b = x := by simpa using hb
        exact z (by rw [← this, ← e]; exact ha)
      obtain ⟨a, b, c⟩ := zeroS_ok r (L ++ [(x, 0)]) h2
      refine ⟨a, fun y => ?_, fun y => by rw [c y, expo_app0]⟩
      rw [b y, List.map_append, List.mem_append, List.mem_cons]
      simp [or_assoc]
theorem zeroS_len {xs : List Str} {L : Pr} : (zeroS L xs).length ≤ L.length + xs.length := by
  induction xs generalizing L with
  | nil => exact Nat.le_refl _
  | cons x r ih =>
    unfold zeroS
    by_cases z : x ∈ L.map (·.1)
    · rw [if_pos z]
      have := @ih L
      rw [List.length_cons]
      omega
    · rw [if_neg z]
      have := @ih (L ++ [(x, 0)])
      rw [List.length_append, List.length_singleton] at this
      rw [List.length_cons]
      omega
theorem valV_dSI_none {L : Pr} {x : Str} : valV (dSI L) (Sum.inr x) = none ↔ x ∉ L.map (·.1) := by
  induction L with
  | nil => simp [dSI, valV]
  | cons f r ih =>
    have e2 : dSI (f :: r) = (Sum.inr f.1, V.int f.2) :: dSI r := rfl
    rw [e2, List.map_cons, List.mem_cons]
    by_cases z : (Sum.inr f.1 : L2.Key) = Sum.inr x
    · rw [valV_pos z]
      have : x = f.1 := by injection z with z; exact z.symm
      simp [this]
    · rw [valV_neg z, ih]
      have : ¬ x = f.1 := fun e => z (by rw [e])
      simp [this]
/-- the numbers at the beginning -/
def s0R (L : Pr) : Rs := { v := expo L, told := [], turns := 0, ents := [] }
theorem expo_range {L : Pr} (h : ∀ e ∈ L, 0 ≤ e.2 ∧ e.2 ≤ 1000000) (hn : (L.map (·.1)).Nodup) (x : Str) : 0 ≤ expo L x ∧ expo L x ≤ 1000000 := by
  by_cases hk : x ∈ L.map (·.1)
  case neg =>
    rw [expo_zero fun e he z => hk (by rw [← z]; exact List.mem_map_of_mem he)]
    omega
  case pos =>
    induction L with
    | nil => cases hk
    | cons f r ih =>
      have hr : ∀ e ∈ r, 0 ≤ e.2 ∧ e.2 ≤ 1000000 := fun e he => h e (List.mem_cons_of_mem _ he)
      rw [List.map_cons, List.nodup_cons] at hn
      by_cases z : f.1 = x
      · have n0 : expo r x = 0 := expo_zero fun e he k => hn.1 (by rw [z, ← k]; exact List.mem_map_of_mem he)
        have ef : expo (f :: r) x = f.2 + expo r x := by
          show (if f.1 = x then f.2 else 0) + expo r x = _
          rw [if_pos z]
        rw [ef, n0]
        have := h f List.mem_cons_self
        omega
      · have ef : expo (f :: r) x = 0 + expo r x := by
          show (if f.1 = x then f.2 else 0) + expo r x = _
          rw [if_neg z]
        rw [ef]
        rw [List.map_cons, List.mem_cons] at hk
        have := ih hr hn.2 (hk.resolve_left fun k => z k.symm)
        omega
theorem Pt.zero {ns : List Str} {L : Pr} (h : PointOk ns L) {most R : Nat} (hR : R ≤ 12) : Pt ns most 0 R (s0R L) := by
  have r := fun x => expo_range h.le h.nd x
  refine ⟨⟨fun x _ => ⟨(r x).1, Int.le_trans (r x).2 (by decide)⟩, fun x _ => ⟨(r x).1, Int.le_trans (r x).2 (by decide)⟩⟩, Nat.le_refl _, Nat.le_refl _, ?_, Nat.zero_le _⟩
  show 0 + R ≤ 12 + 8 * 0
  omega
def spRan (K : PySem.W.Frag) (D : Addr) : Sp := fun vs H Q E => ∃ (pr d : Addr) (L : Pr) (ns : List Str) (most : Nat) (r : Rw), vs = [.ref pr, .ref d, .int (most : Int)] ∧ RwAt K H pr r ∧ RwOk ns r 3 ∧ RwT ns r ∧ lenR r ≤ 12 ∧ NsOk ns ∧ H d = some (.dK (dSI L)) ∧ PointOk ns L ∧ most ≤ 5010 ∧
  (∀ (s' : Rs) (H' : Hp) (q nd td ed : Addr) (L' : Pr) (es : List Addr), doR most r [] 0 (s0R L) = some s' → SqT K H' q [.ref td, .ref nd, .int (s'.turns : Int), .ref ed] → H' nd = some (.dK (dSI L')) → (L'.map (·.1)).Nodup → (∀ x, x ∈ L'.map (·.1) ↔ x ∈ L.map (·.1) ∨ x ∈ namesR r) → (∀ x, expo L' x = s'.v x) →
    H' td = some (.lst (s'.told.map V.int)) → H' ed = some (.lst (es.map V.ref)) → Paired (EntAt K H') es s'.ents → td ≠ ed → H nd = none → H td = none → H ed = none → Same H H' → Q (.ref q) H') ∧
  (doR most r [] 0 (s0R L) = none → ∀ H', Same H H' → E (.ref D) none H')
theorem ok_ran {Lp B D N U : Addr} (X : ExTxt K mg Lp B D N U) {f : Addr} {fd : FuncData} {SA : Addr} (T : Txt K mg SA) (RT : RunTxt K mg C) (F : DefAt K mg "ran" "ran" s_ran ["program", "names", "most"] f fd) : FnOk P w K mg base (L2.CX P w) 13 f fd ["program", "names", "most"] (spRan K D) := by
  obtain ⟨f1, fd1, D_do_row⟩ := T.d_do_row
  obtain ⟨f2, fd2, D_u_do_lap⟩ := T.d_u_do_lap
  obtain ⟨f3, fd3, D_names_of⟩ := T.d_names_of
  obtain ⟨fi, fdi, M_Run, F_Run_init, b_Run_init⟩ := RT.mk_Run
  have G_do_row : FnOk P w K mg base (L2.CX P w) 12 f1 fd1 ["run", "row", "place"] (spDoRow K C D 3) := do_all X T RT D_do_row D_u_do_lap 3
  have G_names_of : FnOk P w K mg base CX0 11 f3 fd3 ["program"] (spNamesOf K) := ok_names_of T D_names_of
  have G_Run_init : FnOk P w K mg base CX0 1 fi fdi ["self", "names", "most"] (spRunInit K C) := ok_Run_init T RT F_Run_init
  refine F.F.okX sc_ran (fun vs H Q E h => ?_) (fun cdv A outer z H vs Q E hr h => ?_)
  · obtain ⟨pr, d, L, ns, most, r, rfl, _⟩ := h
    rfl
  · obtain ⟨pr, d, L, ns, most, r, rfl, ar, ok, tm, l12, no, ed, po, lm, q, qe⟩ := h
    refine ⟨_, (pss_cons (ps_set (i := 3) sc_ran.nd rfl (.inl rfl) (pe_make M_Run G_Run_init (hr.mono (by decide)) (by rfl) RT.g_Run b_Run_init .nil pass0 (pa_cons (pv 1) (pa_cons (pv 2) pa_nil))))
      (pss_cons (ps_for (passes_of rfl) rfl (pi_list (pe_call G_names_of (hr.mono (by decide)) (by rfl) D_names_of.g D_names_of.F.kp D_names_of.b .nil pass0 (pa_cons (pv 0) pa_nil))) (pg_name (i := 4) sc_ran.nd rfl (.inl rfl)) (pss_one (ps_expr (pe_dsetd (pe_fld (pv 3) rfl) (pv 4) pe_int ⟨rfl, rfl, rfl, rfl⟩))))
      (pss_cons (ps_expr (pe_callS G_do_row (hr.mono (by decide)) (by rfl) D_do_row.g D_do_row.F.kp D_do_row.b (fun σ => passAt (takes_of rfl rfl rfl rfl) σ) (pa_cons (pv 3) (pa_cons (pv 0) (pa_cons (pe_tup pa_nil) pa_nil)))))
      (pss_one (ps_ret (pe_tup (pa_cons (pe_fld (pv 3) rfl) (pa_cons (pe_fld (pv 3) rfl) (pa_cons (pe_fld (pv 3) rfl) (pa_cons (pe_fld (pv 3) rfl) pa_nil)))))))))), ?_⟩
    have lL : L.length < 1000 := by
      have := po.len
      rw [no.len] at this
      omega
    refine ⟨_, rfl, _, rfl, fun p dx np ndx nn => ?_⟩
    have sp : Same H (upd (upd H dx (.own p)) p (.ins C dx [])) := (same_upd ndx).trans (same_upd (by rw [upd_ne nn.symm]; exact np))
    refine ⟨p, dx, d, L, most, rfl, upd_same, sp _ _ ed, po.nd, lL, fun H1 nd td ed1 e1 e2 e3 e4 n1 n2 n3 n4 n5 s1 => ⟨rfl, ?_⟩⟩
    have s01 : Same H H1 := fun b o e => s1 b o (sp _ _ e) (ne_of_none e np)
    have t1 := TupsStay.same s01
    refine ⟨_, rfl, pr, r, ns, rfl, ar.stay t1, ok, (by rw [no.len]; decide), fun l q0 H2 srt mem eq2 s2 nq => ?_⟩
    have ndp : nd ≠ p := ne_of e2 e1 (by intro z; cases z)
    have ndq : nd ≠ q0 := ne_of_none e2 nq
    have no_nd : ∀ {b : Addr} {o : HO}, H b = some o → b ≠ nd := fun {b o} e z => by have e := sp _ _ e; rw [z, n3] at e; cases e
    have hnd : l.Nodup := List.Pairwise.imp (fun {a b} (h : slt a b) (e : a = b) => by subst e; exact slt_irrefl a h) srt
    have ll : l.length ≤ 7 := by
      have := nodup_len (m := ns) hnd fun x hx => namesR_in ok x ((mem x).mp hx)
      rw [no.len] at this
      exact this
    refine ⟨q0, rfl, ⟨_, SqL.of eq2⟩, for_list (K := K) (a := q0) (xs := l.map V.str) (fun i σ H3 => ∃ v4 : Option V, σ = [some (.ref pr), some (.ref d), some (.int (most : Int)), some (.ref p), v4] ∧ H3 nd = some (.dK (dSI (zeroS L (l.take i)))) ∧ Else nd H2 H3)
      ⟨none, rfl, by rw [List.take_zero]; exact s2 _ _ e2, fun b o e _ => e⟩ (fun i σ H3 _ ⟨_, _, _, el⟩ => SqL.of (el _ _ eq2 ndq.symm)) (fun i x σ H3 hx ⟨v4, hs, e5, el⟩ => ?_) (fun σ H3 ⟨v4, hs, e5, el⟩ => ?_)⟩
    · subst hs
      obtain ⟨y, hy, rfl⟩ : ∃ y, l[i]? = some y ∧ x = V.str y := by
        rw [List.getElem?_map] at hx
        cases e : l[i]? with
        | none =>
          rw [e] at hx
          cases hx
        | some y =>
          rw [e] at hx
          exact ⟨y, rfl, (Option.some.inj hx).symm⟩
      have ep3 : H3 p = some (.ins C dx (runF nd (most : Int) td 0 ed1)) := el _ _ (s2 _ _ e1) ndp.symm
      have zl := zeroS_len (xs := l.take i) (L := L)
      have tl : l.take (i + 1) = l.take i ++ [y] := by rw [List.take_add_one, hy]; rfl
      have zn := (zeroS_ok (l.take i) L po.nd)
      have zs : zeroS L (l.take (i + 1)) = if y ∈ (zeroS L (l.take i)).map (·.1) then zeroS L (l.take i) else zeroS L (l.take i) ++ [(y, 0)] := by
        rw [tl, zeroS_app]
        rfl
      have step : ∀ H4, H4 nd = some (.dK (dSI (zeroS L (l.take (i + 1))))) → Else nd H2 H4 → ∃ v4 : Option V, [some (.ref pr), some (.ref d), some (.int (most : Int)), some (.ref p), some (.str y)] = [some (.ref pr), some (.ref d), some (.int (most : Int)), some (.ref p), v4] ∧ H4 nd = some (.dK (dSI (zeroS L (l.take (i + 1))))) ∧ Else nd H2 H4 := fun H4 a b => ⟨_, rfl, a, b⟩
      refine ⟨_, rfl, p, C, dx, _, _, rfl, ep3, RT.cl_Run, RT.n_Run_names, rfl, nd, rfl, .inl ⟨_, .inl e5⟩, _, rfl, dSI (zeroS L (l.take i)), .inr y, e5, rfl, ?_, fun v hv => ?_, fun hv => ?_⟩
      · rw [dSI_len, sizeLine_eq]
        rw [List.length_take] at zl
        omega
      · refine step H3 ?_ el
        rw [zs, if_pos (Classical.byContradiction fun n => by rw [valV_dSI_none.mpr n] at hv; cases hv)]
        exact e5
      · refine step _ ?_ fun b o e nb => by rw [upd_ne nb]; exact el _ _ e nb
        have no := valV_dSI_none.mp hv
        rw [zs, if_neg no, upd_same, dSI_put]
        unfold putS
        rw [if_neg fun z => no (by
          obtain ⟨f, hf, e⟩ := List.any_eq_true.mp z
          exact List.mem_map.mpr ⟨f, hf, of_decide_eq_true e⟩)]
    · subst hs
      rw [List.length_map, List.take_length] at e5
      obtain ⟨zn, zk, zv⟩ := zeroS_ok l L po.nd
      have sH : ∀ b o, H b = some o → H3 b = some o := fun b o e => el _ _ (s2 _ _ (s01 _ _ e)) (no_nd e)
      have un : ∀ {b : Addr}, (upd (upd H dx (.own p)) p (.ins C dx [])) b = none → H b = none := fun {b} z => by
        cases e : H b with
        | none => rfl
        | some o =>
          have := sp _ _ e
          rw [z] at this
          cases this
      have ep3 : H3 p = some (.ins C dx (runF nd (most : Int) td 0 ed1)) := el _ _ (s2 _ _ e1) ndp.symm
      have ndt : td ≠ nd := ne_of e3 e2 (by intro z; cases z)
      have nde : ed1 ≠ nd := ne_of e4 e2 (by intro z; cases z)
      have st3 : RunSt K C H3 p nd td ed1 ((zeroS L l).map (·.1)) most (s0R L) :=
        ⟨⟨dx, ep3⟩, ⟨zeroS L l, e5, rfl, zv⟩, el _ _ (s2 _ _ e3) ndt, ⟨[], el _ _ (s2 _ _ e4) nde, .nil⟩, n1⟩
      have t3 := TupsStay.same (show Same H H3 from sH)
      refine ⟨_, rfl, _, rfl, (by show 0 ≤ sizeLine; decide), fun pa npa => ?_⟩
      have s3 : Same H3 (upd H3 pa (.tup [])) := same_upd npa
      have I : Din K C (upd H3 pa (.tup [])) p nd td ed1 pa ((zeroS L l).map (·.1)) ns most 0 (0 + lenR r) (s0R L) [] :=
        ⟨st3.same s3, Pt.zero po (by omega), no, zn, lm, by rw [List.length_map]; have := zeroS_len (xs := l) (L := L); have h2 := po.len; rw [no.len] at h2; omega, SqT.of upd_same⟩
      have kp0 : ∀ {H' : Hp}, Kp [p, nd, td, ed1] (upd H3 pa (.tup [])) H' → Same H H' := fun {H'} u b o e => by
        refine u b o (s3 _ _ (sH _ _ e)) ?_
        simp only [List.mem_cons, List.not_mem_nil, or_false]
        rintro (k | k | k | k)
        · exact ne_of_none e np k
        · exact no_nd e k
        · exact ne_of_none e (un n4) k
        · exact ne_of_none e (un n5) k
      refine ⟨p, pr, pa, nd, td, ed1, (zeroS L l).map (·.1), ns, most, 0, 0, s0R L, [], r, rfl, I, by decide, (ar.stay t3).stay (TupsStay.same s3), ok, tm, l12, fun x hx => (zk x).mpr (.inr ((mem x).mpr hx)), fun s' H' e6 S6 u6 => ?_, fun e6 H' u6 => qe e6 H' (kp0 u6)⟩
      obtain ⟨dx6, ep6⟩ := S6.ob
      obtain ⟨L6, eL6, nL6, kL6, vL6⟩ := S6.nmd zn
      obtain ⟨es, e7, e8⟩ := S6.en
      refine ⟨_, rfl, p, C, dx6, _, _, rfl, ep6, RT.cl_Run, RT.n_Run_told, rfl, _, rfl, p, C, dx6, _, _, rfl, ep6, RT.cl_Run, RT.n_Run_names, rfl, _, rfl, p, C, dx6, _, _, rfl, ep6, RT.cl_Run, RT.n_Run_turns, rfl, _, rfl, p, C, dx6, _, _, rfl, ep6, RT.cl_Run, RT.n_Run_entries, rfl, (by show 4 ≤ sizeLine; decide), fun qa nqa => ?_⟩
      have s6 : Same H' (upd H' qa (.tup [.ref td, .ref nd, .int (s'.turns : Int), .ref ed1])) := same_upd nqa
      exact q s' _ qa nd td ed1 L6 es e6 (SqT.of upd_same) (s6 _ _ eL6) nL6 (fun x => by rw [kL6, zk x, mem x]) vL6 (s6 _ _ S6.tl) (s6 _ _ e7) (Paired.mapP e8 fun _ _ z => z.stay (TupsStay.same s6)) n1 (un n3) (un n4) (un n5) ((kp0 u6).trans s6)
end
/-! ### own exceptions with a place -/
theorem text_two : ∀ n : Nat, n < 100 → (Str.ofString (toString ((n : Nat) : Int))).length ≤ 2 := by decide +kernel
theorem reprInts {prog : Program} {w : World} : ∀ {l : List Nat} {its : List Value}, Vals (l.map fun n => V.int ((n : Nat) : Int)) its → (∀ n ∈ l, n < 100) → ReprAll prog w its (l.map fun n => Str.ofString (toString ((n : Nat) : Int)))
  | [], _, r, _ => by
    cases r
    exact .nil
  | n :: l, _, r, h => by
    cases r with
    | cons r1 r2 =>
      obtain ⟨t, rfl⟩ := r1
      have b := h n List.mem_cons_self
      exact .cons (ReprIs.int t (by
        have : (((n : Nat) : Int).natAbs).log2 ≤ 100 := Nat.le_trans (Nat.log2_le_self _) (by omega)
        omega)) (reprInts r2 fun z hz => h z (List.mem_cons_of_mem _ hz))
theorem piledInts : ∀ l : List Nat, (∀ n ∈ l, n < 100) → piled (l.map fun n => Str.ofString (toString ((n : Nat) : Int))) ≤ 4 * l.length
  | [], _ => Nat.zero_le _
  | n :: l, h => by
    have a := text_two n (h n List.mem_cons_self)
    have b := piledInts l fun z hz => h z (List.mem_cons_of_mem _ hz)
    rw [List.map_cons, piled_cons, List.length_cons]
    omega
def tFmtI (K : PySem.W.Frag) (te : L2.TE) : L2.TE := fun σ H Q => te σ H fun x H1 => ∃ (a : Addr) (l : List Nat), x = .ref a ∧ SqT K H1 a (l.map fun n => V.int ((n : Nat) : Int)) ∧ (∀ n ∈ l, n < 100) ∧ l.length ≤ 20 ∧ ∀ m : Str, m.length ≤ 100 → Q (.str m) H1
theorem pe_fmtI {X : Cx} {e : Expr} {te : L2.TE} {pos : Pos} {k : Nat} (hr : Room k X.A) (he : PE X e te) : PE X (.FormattedValue e (-1) none pos) (tFmtI X.K te) := by
  refine ⟨fun pins s σ H Q I h => ?_⟩
  refine wpAny_FormattedValue_plain (thn (he.run pins s σ H _ I h) fun v s1 hv => ?_)
  obtain ⟨x, H1, I1, r1, a, l, rfl, ht, hc, hz, q⟩ := hv
  cases r1
  obtain ⟨its, rv, ⟨o, ho, hcl, n, hd⟩, _⟩ := I1.tuple ht
  have hp := piledInts l hc
  have htx := fmt_text (l.map fun n => Str.ofString (toString ((n : Nat) : Int)))
  have hu := hr.units
  refine fmt_tuple (ts := l.map fun n => Str.ofString (toString ((n : Nat) : Int))) (by omega) ho hcl hd (reprInts rv hc) (by rw [sizeLine_eq]; omega) fun m u tk hm => ⟨.str m, H1, I1.tok _, ⟨u, rfl⟩, q m (by omega)⟩
/-- L.__init__(self, ..), L an own class over ValueError without its own -/
theorem pe_leinit {X : Cx} {x : Str} {L : Addr} {e : Expr} {es : List Expr} {ta : TA} {p1 p2 pos : Pos} {pl : Sem Bool} (hg : Gl X x) (hm : X.mg x = some (.ref L)) (rd : PySem.W.readsIn X.K L (.type "type") = true) (ga : PySem.W.specialIn X.K (.ref L) "__getattribute__" = some (some (.builtin "type.__getattribute__")))
    (vV : PySem.W.findCls X.K (.ref L) (.type "type") "__init__" = some (.val (.builtin "ValueError.__init__"))) (ha : PA X (e :: es) ta) (hdb : (x == ("__debug__" : Str)) = false := by decide)
    (hc : eval (.Call (.Attribute (.Name x p1) "__init__" p2) (e :: es) [] pos) X.env = (do
      let ov ← eval (.Name x p1) X.env
      standAt p2.atName
      let (f, first) ← holding [ov] (getMethod ov "__init__" pl)
      callWith pos f first (backTo pos (starEach (e :: es) X.env)) (backToKw pos (keywordEach [] X.env))) := by rfl)
    (he : starEach (e :: es) X.env = (false, eval e X.env) :: starEach es X.env := by rfl) (hpl : (backTo pos (starEach es X.env)).any (·.1) = false := by rfl) :
    PE X (.Call (.Attribute (.Name x p1) "__init__" p2) (e :: es) [] pos) (tVeI X.K ta) := by
  refine ⟨fun pins s σ H Q I h => ?_⟩
  refine PySem.W.methodCall_KW (ld_glob I hg hm ?_ hdb) hc
  refine PySem.W.method_cls I.kIn ga (PySem.W.cls_value I.kIn rd vV (by decide +kernel) ?_)
  show wpAny _ _ (callWith pos (Value.builtin "ValueError.__init__") [] (backTo pos (starEach (e :: es) X.env)) []) _ _ _
  refine PyProof.Rows.callWith_method1 (thn (ha.run pos pins _ σ H _ (I.tok _) h) fun us s1 ⟨vs, H1, I1, r1, a, C, ws, ev, hl, T, ea, q⟩ => ?_) he hpl
  subst ev
  cases r1 with
  | @cons _ u0 _ ur ra rw' =>
    obtain rfl : u0 = Value.ref a := ra
    have hlen : ur.length ≤ sizeLine := by
      rw [← Paired.length rw', sizeLine_eq]
      omega
    exact oinit_ok T I1 ea hlen fun s' J => ⟨.non, H1, J, rfl, q⟩
theorem str_le {a b : Str} {n m : Nat} (ha : a.length ≤ n) (hb : b.length ≤ m) : (a ++ b).length ≤ n + m := by
  rw [strLen_append]
  omega
theorem str_line {a : Str} {n : Nat} (h : a.length ≤ n) (l : n ≤ 1000) : a.length ≤ sizeLine := by
  rw [sizeLine_eq]
  omega
theorem place_heap {H1 : Hp} {a dx : Addr} {o1 o2 o3 o4 : HO} (na : H1 a = none) (nd : H1 dx = none) (ne : dx ≠ a) : Same H1 (upd (del (upd (upd (upd H1 a o1) dx o2) a o3) a) dx o4) := fun b o e => by
  have e1 : b ≠ dx := ne_of_none e nd
  have e2 : b ≠ a := ne_of_none e na
  rw [upd_ne e1, del_ne e2, upd_ne e2, upd_ne e1, upd_ne e2]
  exact e
section
variable {P : Program} {w : World} {K : PySem.W.Frag} {mg : Str → Option Value} {base : Heap} {C : Addr}
def spPlInit (K : PySem.W.Frag) (C : Addr) : Sp := fun vs H Q _ => ∃ (a p : Addr) (pl : List Nat), vs = [.ref a, .ref p] ∧ H a = some (exo a C none) ∧ SqT K H p (placeV pl) ∧ (∀ n ∈ pl, n < 100) ∧ pl.length ≤ 20 ∧
  ∀ dx, H dx = none → dx ≠ a → Q .non (upd (upd H dx (exd dx [("place", .ref p)])) a (exo a C (some dx)))
theorem ok_NeedntFall_init {Lp B D N U : Addr} (X : ExTxt K mg Lp B D N U) {f : Addr} {fd : FuncData} (F : Fun K "__init__" "NeedntFall.__init__" s_NeedntFall_init f fd) : FnOk P w K mg base CX0 1 f fd ["self", "place"] (spPlInit K N) := by
  refine F.ok sc_NeedntFall_init (fun vs H Q E h => ?_) (fun cdv A outer s H vs Q E hr h => ?_)
  · obtain ⟨a, p, pl, rfl, _⟩ := h
    rfl
  · obtain ⟨a, p, pl, rfl, ea, st, b, l, q⟩ := h
    refine ⟨_, pss_cons (ps_expr (pe_leinit rfl X.gL X.rL X.yL X.vL (pa_cons (pv 0) (pa_cons (pe_joined (.cons pe_str (.cons (pe_fmtI hr (pv 1)) (.cons pe_str .nil)))) pa_nil)))) (pss_one (ps_ost (pv 0) (pv 1))), ?_⟩
    have l0 : (Str.empty ++ ("the measure of the lap at " : Str)).length ≤ 100 := by decide +kernel
    have l2 : ((" is not shown to fall" : Str)).length ≤ 100 := by decide +kernel
    refine ⟨_, rfl, _, rfl, str_line l0 (by decide), _, rfl, p, pl, rfl, st, b, l, fun m hm => ⟨m, rfl, str_line (str_le l0 hm) (by decide), _, rfl, str_line (str_le (str_le l0 hm) l2) (by decide), a, N, _, rfl, (by show 1 ≤ 1000; decide), X.oN, ea, ?_⟩⟩
    exact ⟨_, rfl, _, rfl, a, N, rfl, X.oN, X.pN, .inl ⟨ea, fun dx nd ne => q dx nd ne⟩⟩
theorem ok_Uneven_init {Lp B D N U : Addr} (X : ExTxt K mg Lp B D N U) {f : Addr} {fd : FuncData} (F : Fun K "__init__" "Uneven.__init__" s_Uneven_init f fd) : FnOk P w K mg base CX0 1 f fd ["self", "place"] (spPlInit K U) := by
  refine F.ok sc_Uneven_init (fun vs H Q E h => ?_) (fun cdv A outer s H vs Q E hr h => ?_)
  · obtain ⟨a, p, pl, rfl, _⟩ := h
    rfl
  · obtain ⟨a, p, pl, rfl, ea, st, b, l, q⟩ := h
    refine ⟨_, pss_cons (ps_expr (pe_leinit rfl X.gL X.rL X.yL X.vL (pa_cons (pv 0) (pa_cons (pe_joined (.cons pe_str (.cons (pe_fmtI hr (pv 1)) (.cons pe_str .nil)))) pa_nil)))) (pss_one (ps_ost (pv 0) (pv 1))), ?_⟩
    have l0 : (Str.empty ++ ("the turns of the lap at " : Str)).length ≤ 100 := by decide +kernel
    have l2 : ((" can't be told as a sum" : Str)).length ≤ 100 := by decide +kernel
    refine ⟨_, rfl, _, rfl, str_line l0 (by decide), _, rfl, p, pl, rfl, st, b, l, fun m hm => ⟨m, rfl, str_line (str_le l0 hm) (by decide), _, rfl, str_line (str_le (str_le l0 hm) l2) (by decide), a, U, _, rfl, (by show 1 ≤ 1000; decide), X.oU, ea, ?_⟩⟩
    exact ⟨_, rfl, _, rfl, a, U, rfl, X.oU, X.pU, .inl ⟨ea, fun dx nd ne => q dx nd ne⟩⟩
end
/-! ### for v in d.values(): the numbers of a locked dict whose keys are products -/
def ItVN (K : PySem.W.Frag) (w : World) (d : Addr) (o : Obj) (L : List (Pr × V)) : It :=
  ⟨fun i H => NF K w H d o L ∧ i < L.length, fun i H x H' => H' = H ∧ ∃ (k : Pr), L[i]? = some (k, x), fun i H => NF K w H d o L ∧ L.length ≤ i⟩
theorem turn_valsN {P : Program} {w : World} {K : PySem.W.Frag} {tg : Expr} {d : Addr} {o : Obj} {es : Array DictEntry} {ep : Nat} {L : List (Pr × V)} (it : Addr) (hod : o.data = .dict es ep) (hsz : es.size = L.length) :
    Turn P w K tg (ItVN K w d o L) [it] it (fun i h => h.IsValIter it d i es.size ep) where
  mem := by simp
  obj := fun i h st b hb => by
    have e : b = it := by simpa using hb
    subst e
    obtain ⟨oi, e, c, dd⟩ := st
    exact ⟨oi, e, fun v z => by rw [dd] at z; cases z⟩
  keep := fun i h h' st k => st.at fun oi e => k it (by simp) oi e
  item := by
    intro X hP hw hK hc i pins s σ H E I hf st hg
    subst hP hw hK
    obtain ⟨hF, hi⟩ := hg
    obtain ⟨f0, f1, f2, f3, f4, f5⟩ := hf it (by simp)
    obtain ⟨hgd, es', ep', hdt, raw, _, ent⟩ := hF.entries I
    obtain ⟨rfl, rfl⟩ := dict_ep hod hdt
    have hi' : i < es'.size := by omega
    obtain ⟨k, v, b, hL, hk, rv, hb⟩ := ent i hi'
    refine wpAny_pyNext_values_item_raw st raw hi' fun h' st' sb => ?_
    have I1 : Inv X pins σ H { s with heap := h' } := I.turned (t' := s.toks) (fun b ob hb e => (sb.2 b hb).trans e) f0 f1 f3 f4 f5
    obtain ⟨oi, e, c, dd⟩ := id st'
    exact ⟨_, rfl, go_of (s := { s with heap := h' }) e c dd (by decide) ⟨v, H, I1, rv, ⟨rfl, k, hL⟩, st', fun b hb => (hf b hb).1⟩⟩
  done := by
    intro X hP hw hK hc i pins s σ H E I hf st hg
    subst hP hw hK
    obtain ⟨hF, hi⟩ := hg
    obtain ⟨f0, f1, f2, f3, f4, f5⟩ := hf it (by simp)
    obtain ⟨hgd, es', ep', hdt, raw, _, ent⟩ := hF.entries I
    obtain ⟨rfl, rfl⟩ := dict_ep hod hdt
    exact wpAny_pyNext_values_end_raw (I.ok.hd hc) st raw (by omega) fun h' eb => ⟨rfl, I.turned (t' := s.toks) (fun b ob hb e => eb b ob hb e) f0 f1 f3 f4 f5⟩
  self := fun A i s Q E st h => wpAny_pyIter_valiter st h
def iValsN (K : PySem.W.Frag) (w : World) (td : TE) : TI := fun σ H R => td σ H fun x H1 => ∃ d o L, x = .ref d ∧ NF K w H1 d o L ∧ R (ItVN K w d o L) H1
theorem pi_valuesN {X : Cx} {e tg : Expr} {td : TE} {apos cpos : Pos} (he : PE X e td) (hbase : attributeBase e "values" X.env (eval e X.env) = eval e X.env := by rfl) (hline : (apos.endLine == cpos.line) = true := by rfl) :
    PI X tg (.Call (.Attribute e "values" apos) [] [] cpos) (iValsN X.K X.w td) := by
  refine ⟨fun pins s σ H R I h => wpAny_Call_method (T := "dict") (id := "dict.values") hbase rfl hline F.plainAttrs_dict F.slot_dict_values F.type_dict_values (thn (he.run pins s σ H _ I h) fun u s1 ⟨x, H1, I1, rx, d, o, L, ex, hF, q⟩ => ?_)⟩
  subst ex
  obtain rfl : u = Value.ref d := rx
  obtain ⟨t1, t2, hs⟩ := hF.r.typeIs I1
  obtain ⟨hgd, es, ep, hdt, raw, hsz, _⟩ := hF.entries I1
  refine ⟨t1, t2, ?_⟩
  have view : Inv X pins σ H1 { s1 with heap := s1.heap.push { cls := .type "dict_values", data := .fields #[.ref d] } } := I1.kept (t' := s1.toks) fun b ob z => Heap.get?_push_of_some _ z
  refine method_meetsIn F.slot_dict_values F.entry_dict_values rfl (PySem.evalArgs_none ⟨rfl, raw.typeIs, F.args_dict_values_1 _, _, PySem.meets_dict_values_raw d hs, ⟨es, ep, raw⟩, ?_⟩)
  refine wpAny_pyIter_values_raw (d := d) (es := es) (ep := ep) (s := { s1 with heap := s1.heap.push { cls := .type "dict_values", data := .fields #[.ref d] } }) ⟨_, Heap.get?_push_size _ rfl, rfl, rfl⟩ (raw.push _) ?_
  exact pi_one (tk := s1.toks) view _ (turn_valsN _ hdt hsz) ⟨_, Heap.get?_push_size _ rfl, rfl, rfl⟩ q
theorem lc_valuesN {K : PySem.W.Frag} {w : World} {d : Addr} {o : Obj} {L : List (Pr × V)} {g : TG} {tt : TT} {te : TE} {vs : List Nat} {σ : L2.St} {H1 : Hp} {D : Addr} {Qd : Hp → Prop} (Pv : Nat → Hp → Prop) (h0 : Pv 0 (upd H1 D (.lst []))) (hl : ∀ i H, i ≤ L.length → Pv i H → NF K w H d o L)
    (hs : ∀ i k x H, L[i]? = some (k, x) → Pv i H → g x (wipe σ vs) H fun σ2 H2 => wipe σ2 vs = wipe σ vs ∧ tt σ2 H2 fun b H3 =>
      if b = true then te σ2 H3 fun y H4 => ∃ acc, H4 D = some (.lst acc) ∧ acc.length < sizeLine ∧ Pv (i + 1) (upd H4 D (.lst (acc ++ [y]))) else Pv (i + 1) H3) (hd : ∀ H, Pv L.length H → Qd H) :
    ∃ W : Nat → Nat → Hp → Prop, (∃ m, W 0 m (upd H1 D (.lst []))) ∧ ∀ i m H, W i m H →
      ((ItVN K w d o L).stop i H ∧ Qd H) ∨ ((ItVN K w d o L).go i H ∧ ∃ Nx : Hp → Prop, (∀ H', Nx H' → ∃ m', m' < m ∧ W (i + 1) m' H') ∧ ∀ x H', (ItVN K w d o L).yld i H x H' → g x (wipe σ vs) H' fun σ2 H2 => wipe σ2 vs = wipe σ vs ∧ tt σ2 H2 fun b H3 =>
        if b = true then te σ2 H3 fun y H4 => ∃ acc, H4 D = some (.lst acc) ∧ acc.length < sizeLine ∧ Nx (upd H4 D (.lst (acc ++ [y]))) else Nx H3) := by
  refine ⟨fun i m H => m = L.length - i ∧ i ≤ L.length ∧ Pv i H, ⟨L.length, by simp, Nat.zero_le _, h0⟩, ?_⟩
  rintro i m H ⟨rfl, hi, p⟩
  have q := hl i H hi p
  by_cases hlt : i < L.length
  · refine .inr ⟨⟨q, hlt⟩, Pv (i + 1), fun H' p' => ⟨L.length - (i + 1), by omega, rfl, hlt, p'⟩, fun x H' ⟨e, k, y⟩ => ?_⟩
    subst e
    exact hs i k x _ y p
  · have e : i = L.length := by omega
    subst e
    exact .inl ⟨⟨q, Nat.le_refl _⟩, hd H p⟩
/-! ### whether no share is below nought -/
def natM (M : Poly) : Bool := M.all fun y => decide (0 ≤ y.2)
section
variable {P : Program} {w : World} {K : PySem.W.Frag} {mg : Str → Option Value} {base : Heap} {C : Addr}
def spNatural (K : PySem.W.Frag) (w : World) (C : Addr) : Sp := fun vs H Q _ => ∃ (p : Addr) (M : Poly), vs = [.ref p] ∧ SumAt K w C H p M ∧ M.length < 1000000 ∧ ∀ H', Same H H' → Q (.bl (natM M)) H'
theorem num_nn (r : Rat) : decide (0 ≤ r.num) = decide (0 ≤ r) := by
  rw [Bool.eq_iff_iff, decide_eq_true_eq, decide_eq_true_eq]
  exact Rat.num_nonneg
theorem ok_is_natural {f : Addr} {fd : FuncData} (T : Txt K mg C) (F : DefAt K mg "is_natural" "is_natural" s_is_natural ["given"] f fd) : FnOk P w K mg base CX0 1 f fd ["given"] (spNatural K w C) := by
  refine F.F.ok sc_is_natural (fun vs H Q E h => ?_) (fun cdv A outer s H vs Q E hr h => ?_)
  · obtain ⟨p, M, rfl, _⟩ := h
    rfl
  · obtain ⟨p, M, rfl, ap, lM, q⟩ := h
    obtain ⟨dx, d1, o1, L1, e1, n1, r1⟩ := id ap
    have l1 : L1.length = M.length := Paired.length r1
    refine ⟨_, (pss_one (ps_ret (pe_callB (cr_all rfl) (by rfl) T.m_all (by decide +kernel) (pa_cons (pe_lc (own := [("part", 1)]) (g := gName 1) (tt := tYes) rfl sc_is_natural.nd (pi_valuesN (pe_fld (pv 0) rfl)) (blkOk_by (own := [("part", 1)]) (N := ["given", "part"]) (sc := defScope s_is_natural) (by decide +kernel)) (fun _ _ _ _ _ => pg_name (i := 1) sc_is_natural.nd rfl (.inl rfl)) (fun _ _ _ _ _ => pts_nil) (fun _ _ _ _ _ => (pe_cmpR op_ge (pe_ix (ix_tupK (K := K) rfl) (pv 1) pe_int (fun _ _ => rfl)) pe_int (nomark _)))) pa_nil)))), ?_⟩
    refine ⟨_, rfl, p, C, dx, _, _, rfl, e1, T.cl_Sum, T.n_Sum_parts, sumF_parts _, d1, o1, L1, rfl, n1, fun D nD => lc_valuesN (K := K) (w := w) (d := d1) (o := o1) (L := L1) (fun i Hx => Hx D = some (.lst (((M.take i).map fun y => decide (0 ≤ y.2)).map V.bl)) ∧ Same H Hx)
      ⟨by rw [List.take_zero]; exact upd_same, same_upd nD⟩ (fun i Hx _ ⟨_, u⟩ => NF.stay n1 (TupsStay.same u) (fun _ e => u _ _ e)) (fun i k x Hx hL ⟨eD, u⟩ => ?_) (fun Hx ⟨eD, u⟩ => ?_)⟩
    · obtain ⟨b, r, hMi, rfl, hq⟩ := r1.at_ hL
      refine ⟨rfl, _, rfl, b, _, _, _, rfl, rfl, SqT.keeps hq (TupsStay.same u), ratV_num r, _, 0, rfl, rfl, _, eD, ?_, ?_, fun c o e => ?_⟩
      · rw [List.length_map, List.length_map, List.length_take, sizeLine_eq]
        omega
      · rw [upd_same, List.take_add_one, hMi, List.map_append, List.map_append]
        show some (HO.lst (_ ++ [V.bl (decide (0 ≤ r.num))])) = _
        rw [num_nn]
        rfl
      · rw [upd_ne (ne_of_none e nD)]
        exact u _ _ e
    · rw [l1, List.take_length] at eD
      have z := q Hx u
      have e : natM M = (M.map fun y => decide (0 ≤ y.2)).all id := by
        unfold natM
        rw [List.all_map]
        rfl
      rw [e] at z
      exact ⟨D, _, rfl, SqL.of eD, z⟩
end
def F1 (a : Str) (M : Poly) (x : Str) : Option Poly := if x = a then some M else none
theorem fill_one {K : PySem.W.Frag} {w : World} {C : Addr} {H : Hp} {d x : Addr} {a : Str} {M : Poly} (hd : H d = some (.dK (mergeK [] [(.inr a, .ref x)]))) (S : SumAt K w C H x M) : FillAt K w C H d (F1 a M) (mergeK [] [(.inr a, .ref x)]) := by
  refine ⟨hd, fun z h => ?_, fun z N h => ?_⟩
  · have e : valV (mergeK [] [((.inr a : L2.Key), V.ref x)]) (.inr z) = if (.inr z : L2.Key) = .inr a then some (.ref x) else none := valV_put ([] : List (L2.Key × V)) (Sum.inr a) (Sum.inr z) (.ref x)
    unfold F1 at h
    rw [e, if_neg]
    intro q
    rw [if_pos (Sum.inr.inj q)] at h
    cases h
  · have e : valV (mergeK [] [((.inr a : L2.Key), V.ref x)]) (.inr z) = if (.inr z : L2.Key) = .inr a then some (.ref x) else none := valV_put ([] : List (L2.Key × V)) (Sum.inr a) (Sum.inr z) (.ref x)
    unfold F1 at h
    split at h
    · rename_i q
      cases h
      exact ⟨x, by rw [e, if_pos (by rw [q])], S⟩
    · cases h
/-! ### whether a lap without laps within falls -/
def upM (x : Str) : Poly := polyE (.add (.name x) (.num 1))
def oneM : Poly := polyE (.num 1)
def restM (x : Str) (M : Poly) (F : Str → Option Poly) : Poly := sumM (putInM (F1 x (upM x)) M) (negM (putInM F M))
def fallsM (x : Str) (M : Poly) (F : Str → Option Poly) : Bool := !hangM (restM x M F) && natM (sumM (restM x M F) (negM oneM))
structure Both (M N : Poly) : Prop where
  h : ∃ (A : Pr → Prop) (n m D S R : Nat), Fit A n D S M ∧ Fit A m D R N ∧ 0 < D ∧ D < big ∧ S + R < big ∧ n + m < sizeLine
structure FallFit (x : Str) (M : Poly) (F : Str → Option Poly) : Prop where
  p2 : ∃ (ns : List Str) (m D0 S0 n S top : Nat), InFit ns F M m D0 S0 n S top
  p3 : Both (putInM (F1 x (upM x)) M) (putInM F M)
  p4 : ∃ vs : List Str, vs.length < 32 ∧ ∀ y ∈ restM x M F, Of vs y.1
  p5 : Both (restM x M F) oneM
  p6 : (sumM (restM x M F) (negM oneM)).length < 1000000
theorem hangM_is {M : Poly} {b : Bool} (h : b = true ↔ ∃ y ∈ M, ∃ e ∈ y.1, isBl e.1 = true) : b = hangM M := by
  rw [Bool.eq_iff_iff, h]
  unfold hangM
  rw [List.any_eq_true]
  constructor
  · rintro ⟨y, hy, e, he, z⟩
    exact ⟨y, hy, List.any_eq_true.mpr ⟨e, he, z⟩⟩
  · rintro ⟨y, hy, z⟩
    obtain ⟨e, he, z⟩ := List.any_eq_true.mp z
    exact ⟨y, hy, e, he, z⟩
section
variable {P : Program} {w : World} {K : PySem.W.Frag} {mg : Str → Option Value} {base : Heap} {C : Addr}
def spFalls0 (K : PySem.W.Frag) (w : World) (C : Addr) : Sp := fun vs H Q _ => ∃ (q0 : Addr) (x : Str) (me : Ex) (b : Rw) (ns ms : List Str), vs = [.ref q0] ∧ StsAt K H (.lap x me b .nil) [q0] ∧ RwOk ns (.lap x me b .nil) 3 ∧ ns.length < 32 ∧ ms.length < 32 ∧ (∃ (vs : List Str) (m D0 S0 n S top : Nat), InFit vs (F1 x (upM x)) (polyE me) m D0 S0 n S top) ∧
  (∀ ks : List Str, ks.Pairwise slt → (∀ y, y ∈ ks ↔ y ∈ namesR (.lap x me b .nil)) → RowFit ns ms ks b nameM ∧ FallFit x (polyE me) (onK ks (rowG ks b nameM))) ∧
  ∀ ks H', ks.Pairwise slt → (∀ y, y ∈ ks ↔ y ∈ namesR (.lap x me b .nil)) → Same H H' → Q (.bl (fallsM x (polyE me) (onK ks (rowG ks b nameM)))) H'
theorem ok_falls0 {f : Addr} {fd : FuncData} (T : Txt K mg C) (F : DefAt K mg "_falls" "_falls" s_falls ["lap"] f fd) : FnOk P w K mg base CX0 16 f fd ["lap"] (spFalls0 K w C) := by
  obtain ⟨f1, fd1, D_sum_told⟩ := T.d_sum_told
  have G_sum_told : FnOk P w K mg base CX0 12 f1 fd1 ["expression"] (spTold K w C 6) := ok_sum_told T D_sum_told 6
  obtain ⟨f2, fd2, D_added⟩ := T.d_added
  have G_added : FnOk P w K mg base CX0 5 f2 fd2 ["one", "other"] (spAdded K w C) := ok_added T D_added
  obtain ⟨f3, fd3, D_sum_of_name⟩ := T.d_sum_of_name
  have G_sum_of_name : FnOk P w K mg base CX0 3 f3 fd3 ["x"] (spName K w C) := ok_sum_of_name T D_sum_of_name
  obtain ⟨f4, fd4, D_sum_of_number⟩ := T.d_sum_of_number
  have G_sum_of_number : FnOk P w K mg base CX0 4 f4 fd4 ["n"] (spNumber K w C) := ok_sum_of_number T D_sum_of_number
  obtain ⟨f5, fd5, D_put_in⟩ := T.d_put_in
  have G_put_in : FnOk P w K mg base CX0 7 f5 fd5 ["given", "filling"] (spPutIn K w C) := ok_put_in T D_put_in
  obtain ⟨f6, fd6, D_lessened⟩ := T.d_lessened
  have G_lessened : FnOk P w K mg base CX0 5 f6 fd6 ["one", "other"] (spLessened K w C) := ok_lessened T D_lessened
  obtain ⟨f7, fd7, D_behind_turn⟩ := T.d_behind_turn
  have G_behind_turn : FnOk P w K mg base CX0 15 f7 fd7 ["lap"] (spTurn0 K w C) := ok_behind_turn0 T D_behind_turn
  obtain ⟨f8, fd8, D_hangs_on_blurred⟩ := T.d_hangs_on_blurred
  have G_hangs_on_blurred : FnOk P w K mg base CX0 2 f8 fd8 ["given"] (spHangs K w C) := ok_hangs_on_blurred T D_hangs_on_blurred
  obtain ⟨f9, fd9, D_is_natural⟩ := T.d_is_natural
  have G_is_natural : FnOk P w K mg base CX0 1 f9 fd9 ["given"] (spNatural K w C) := ok_is_natural T D_is_natural
  refine F.F.ok sc_falls (fun vs H Q E h => ?_) (fun cdv A outer z H vs Q E hr h => ?_)
  · obtain ⟨q0, x, me, b, ns, ms, rfl, _⟩ := h
    rfl
  · obtain ⟨q0, x, me, b, ns, ms, rfl, st, ok, hn, hm, ⟨vs1, mA, DA, SA, nA, SB, tA, ip1⟩, ff, q⟩ := h
    refine ⟨_, (pss_cons (ps_set (i := 1) sc_falls.nd rfl (.inl rfl) (pe_ix ix_tup (pv 0) pe_int (fun _ _ => rfl)))
      (pss_cons (ps_set (i := 2) sc_falls.nd rfl (.inl rfl) (pe_call G_sum_told (hr.mono (by decide)) (by rfl) D_sum_told.g D_sum_told.F.kp D_sum_told.b .nil pass0 (pa_cons (pe_ix ix_tup (pv 0) pe_int (fun _ _ => rfl)) pa_nil)))
      (pss_cons (ps_set (i := 3) sc_falls.nd rfl (.inl rfl) (pe_call G_put_in (hr.mono (by decide)) (by rfl) D_put_in.g D_put_in.F.kp D_put_in.b .nil pass0 (pa_cons (pv 2) (pa_cons (pe_disp (pps_cons (pv 1) (pe_call G_added (hr.mono (by decide)) (by rfl) D_added.g D_added.F.kp D_added.b .nil pass0 (pa_cons (pe_call G_sum_of_name (hr.mono (by decide)) (by rfl) D_sum_of_name.g D_sum_of_name.F.kp D_sum_of_name.b .nil pass0 (pa_cons (pv 1) pa_nil)) (pa_cons (pe_call G_sum_of_number (hr.mono (by decide)) (by rfl) D_sum_of_number.g D_sum_of_number.F.kp D_sum_of_number.b .nil pass0 (pa_cons pe_int pa_nil)) pa_nil))) pps_nil) rfl rfl (by simp) (by simp)) pa_nil))))
      (pss_cons (ps_set (i := 4) sc_falls.nd rfl (.inl rfl) (pe_call G_lessened (hr.mono (by decide)) (by rfl) D_lessened.g D_lessened.F.kp D_lessened.b .nil pass0 (pa_cons (pv 3) (pa_cons (pe_call G_put_in (hr.mono (by decide)) (by rfl) D_put_in.g D_put_in.F.kp D_put_in.b .nil pass0 (pa_cons (pv 2) (pa_cons (pe_call G_behind_turn (hr.mono (by decide)) (by rfl) D_behind_turn.g D_behind_turn.F.kp D_behind_turn.b .nil pass0 (pa_cons (pv 0) pa_nil)) pa_nil))) pa_nil))))
      (pss_one (ps_ret (pe_and (pe_not (pe_call G_hangs_on_blurred (hr.mono (by decide)) (by rfl) D_hangs_on_blurred.g D_hangs_on_blurred.F.kp D_hangs_on_blurred.b .nil pass0 (pa_cons (pv 4) pa_nil))) (pe_one (pe_call G_is_natural (hr.mono (by decide)) (by rfl) D_is_natural.g D_is_natural.F.kp D_is_natural.b .nil pass0 (pa_cons (pe_call G_lessened (hr.mono (by decide)) (by rfl) D_lessened.g D_lessened.F.kp D_lessened.b .nil pass0 (pa_cons (pv 4) (pa_cons (pe_call G_sum_of_number (hr.mono (by decide)) (by rfl) D_sum_of_number.g D_sum_of_number.F.kp D_sum_of_number.b .nil pass0 (pa_cons pe_int pa_nil)) pa_nil))) pa_nil)))))))))), ?_⟩
    obtain ⟨q1, t1, pm, pb, pt, qb, e0, c1, c2, c3, c4, c5, c6⟩ := id st
    obtain ⟨rfl, rfl⟩ : q0 = q1 ∧ [] = t1 := by cases e0; exact ⟨rfl, rfl⟩
    obtain ⟨ox, om, _⟩ := id ok
    refine ⟨_, rfl, q0, _, _, _, rfl, rfl, c1, atI_nat (j := 1) rfl, ?_⟩
    refine ⟨_, rfl, q0, _, _, _, rfl, rfl, c1, atI_nat (j := 2) rfl, pm, me, ns, rfl, c2, om, by decide, hn, fun pM H1 SM s1 n1 => ?_⟩
    have t1 := TupsStay.same s1
    have fx : Fit (Of [x]) (nE 0) 1 (sE 0) (polyE (.name x)) := fit_ex (ExOk.name (by simp) 0)
    have f1 : Fit (Of [x]) (nE 0) 1 (sE 0) (polyE (.num 1)) := fit_ex (ExOk.num (by decide) 0)
    have big1 : sE 0 + sE 0 < big := by decide +kernel
    have siz1 : nE 0 + nE 0 < sizeLine := by decide +kernel
    refine ⟨_, rfl, fun d nd => ⟨_, rfl, _, rfl, x, rfl, fun pX H2 SX s2 n2 => ⟨1, rfl, by decide +kernel, fun p1 H3 S1 s3 n3 => ⟨pX, p1, polyE (.name x), oneM, Of [x], nE 0, nE 0, 1, sE 0, sE 0, rfl, ⟨SX.same s3, S1, fx, f1, by decide, by decide +kernel⟩, big1, siz1, fun pU H4 SU s4 n4 => ?_⟩⟩⟩⟩
    have s0 : Same H1 (upd H1 d (.dK [])) := same_upd nd
    have s14 : Same H1 H4 := ((s0.trans s2).trans s3).trans s4
    have ed : H4 d = some (.dK []) := ((Same.trans s2 s3).trans s4) _ _ upd_same
    refine ⟨ed, [(.inr x, .ref pU)], rfl, (by show 1 ≤ 15; decide), ?_⟩
    have eD : Else d H4 (upd H4 d (.dK (mergeK [] [(.inr x, .ref pU)]))) := .upd
    have s15 : Same H1 (upd H4 d (.dK (mergeK [] [(.inr x, .ref pU)]))) := Else.fresh nd s14 eD
    have FA : FillAt K w C (upd H4 d (.dK (mergeK [] [(.inr x, .ref pU)]))) d (F1 x (upM x)) _ := fill_one upd_same (SU.else eD ed)
    have SM5 := SM.same s15
    have s5 := s1.trans s15
    generalize (upd H4 d (.dK (mergeK [] [(.inr x, .ref pU)]))) = H5 at *
    have RT : ∀ ks : List Str, ks.Pairwise slt → (∀ y, y ∈ ks ↔ y ∈ namesR (.lap x me b .nil)) → RowFit ns ms ks b nameM := fun ks a b => (ff ks a b).1
    refine ⟨pM, d, polyE me, F1 x (upM x), _, vs1, mA, DA, SA, nA, SB, tA, rfl, SM5, FA, ip1, fun pA H6 SAh s6 n6 => ?_⟩
    have c16 := TupsStay.same (s5.trans s6)
    have st6 := st.stay c16
    refine ⟨_, rfl, _, rfl, _, rfl, q0, x, me, b, ns, ms, rfl, st6, ok, hn, hm, RT, fun ks dT fk H7 up mem DT s7 n7 => ?_⟩
    obtain ⟨_, ⟨⟨vs2, m2, D2, S2, n2', S2', t2, p2⟩, ⟨A3, a3, b3, D3, S3, R3, g1, g2, g3, g4, g5, g6⟩, ⟨v4, l4, o4⟩, ⟨A5, a5, b5, D5, S5, R5, k1, k2, k3, k4, k5, k6⟩, p6⟩⟩ := ff ks up mem
    refine ⟨pM, dT, polyE me, _, _, vs2, m2, D2, S2, n2', S2', t2, rfl, (SM5.same s6).same s7, DT.fill, p2, fun pB H8 SBh s8 n8 => ?_⟩
    refine ⟨pA, pB, _, _, A3, a3, b3, D3, S3, R3, rfl, ⟨(SAh.same s7).same s8, SBh, g1, g2, g3, g4⟩, g5, g6, fun pR H9 SR s9 n9 => ?_⟩
    have s59 := (((s5.trans s6).trans s7).trans s8).trans s9
    refine ⟨_, rfl, pR, _, v4, rfl, SR, o4, l4, fun bb H10 eb s10 => ?_⟩
    have eb := hangM_is eb
    have fin := s59.trans s10
    have val : ∀ nb : Bool, nb = natM (sumM (restM x (polyE me) (onK ks (rowG ks b nameM))) (negM oneM)) → (!bb && nb) = fallsM x (polyE me) (onK ks (rowG ks b nameM)) := fun nb e => by
      rw [eb, e]
      rfl
    refine ⟨_, rfl, _, rfl, ite2 (fun c => ?_) (fun c => ?_)⟩
    · refine ⟨_, rfl, 1, rfl, by decide +kernel, fun pe H11 SE s11 n11 => ⟨pR, pe, _, oneM, A5, a5, b5, D5, S5, R5, rfl, ⟨(SR.same s10).same s11, SE, k1, k2, k3, k4⟩, k5, k6, fun pZ H12 SZ s12 n12 => ⟨pZ, _, rfl, SZ, p6, fun H13 s13 => ?_⟩⟩⟩
      have z := q ks H13 up mem (((fin.trans s11).trans s12).trans s13)
      rw [← val _ rfl, c, Bool.true_and] at z
      exact z
    · have z := q ks H10 up mem fin
      have c : (!bb) = false := Bool.eq_false_iff.mpr c
      rw [← val _ rfl, c, Bool.false_and] at z
      exact z
end
def cntR : Rw → Nat
  | .nil => 0
  | .set _ _ r => cntR r + 1
  | .say _ r => cntR r + 1
  | .lap _ _ b r => cntR b + cntR r + 1
theorem cntR_app : ∀ (a b : Rw), cntR (appR a b) = cntR a + cntR b
  | .nil, b => (Nat.zero_add _).symm
  | .set _ _ r, b => by show cntR (appR r b) + 1 = cntR r + 1 + cntR b; rw [cntR_app r b]; omega
  | .say _ r, b => by show cntR (appR r b) + 1 = cntR r + 1 + cntR b; rw [cntR_app r b]; omega
  | .lap _ _ q r, b => by show cntR q + cntR (appR r b) + 1 = cntR q + cntR r + 1 + cntR b; rw [cntR_app r b]; omega
/-! ### drawn programs as data -/
def dE : Ex → PyData
  | .num n => .tuple [.str "num", .int n]
  | .name x => .tuple [.str "name", .str x]
  | .add a b => .tuple [.str "add", dE a, dE b]
  | .mul a b => .tuple [.str "times", dE a, dE b]
def dR : Rw → List PyData
  | .nil => []
  | .set x e r => .tuple [.str "set", .str x, dE e] :: dR r
  | .say e r => .tuple [.str "say", dE e] :: dR r
  | .lap x m b r => .tuple [.str "lap", .str x, dE m, .tuple [.str "row", .tuple (dR b)]] :: dR r
def dP (r : Rw) : PyData := .tuple [.str "row", .tuple (dR r)]
theorem NamesOk.txt {ns : List Str} (no : NamesOk ns) {x : Str} (h : x ∈ ns) : PyData.strOk x = true ∧ x.length ≤ 1000 := ⟨texts_names no x h, by have := (no.ok x h).2.1; omega⟩
theorem NamesOk.name {ns : List Str} (no : NamesOk ns) {x : Str} (h : x ∈ ns) : nameOk (.str x) = true := by
  obtain ⟨a, b, c⟩ := no.ok x h
  show (decide (1 ≤ x.length) && (decide (x.length ≤ 8) && !x.cps.toList.any badC)) = true
  rw [decide_eq_true a, decide_eq_true b]
  have e : x.cps.toList.any badC = false := by
    rw [List.any_eq_false]
    intro q hq
    have z := c q hq
    unfold letterC at z
    show ¬ (decide (q < 97) || decide (122 < q)) = true
    rw [decide_eq_false (by omega : ¬ q < 97), decide_eq_false (by omega : ¬ 122 < q)]
    decide
  rw [e]
  rfl
theorem word_of {fs : List (Str × Nat)} {x : Str} {r : List PyData} (n : Nat) (e : r.length + 1 = n) (h : (x, n) ∈ fs) : wordOf fs (.tuple (.str x :: r)) = some x := if_pos (by rw [e]; exact h)
theorem word_say {a : PyData} : wordOf STMSF (.tuple [.str "say", a]) = some ("say" : Str) := word_of 2 rfl (by decide)
theorem word_set {a b : PyData} : wordOf STMSF (.tuple [.str "set", a, b]) = some ("set" : Str) := word_of 3 rfl (by decide)
theorem word_lap {a b c : PyData} : wordOf STMSF (.tuple [.str "lap", a, b, c]) = some ("lap" : Str) := word_of 4 rfl (by decide)
theorem word_row {a : PyData} : wordOf ROWSF (.tuple [.str "row", a]) = some ("row" : Str) := word_of 2 rfl (by decide)
theorem word_num {a : PyData} : wordOf EXPRF (.tuple [.str "num", a]) = some ("num" : Str) := word_of 2 rfl (by decide)
theorem word_name {a : PyData} : wordOf EXPRF (.tuple [.str "name", a]) = some ("name" : Str) := word_of 2 rfl (by decide)
theorem word_add {a b : PyData} : wordOf EXPRF (.tuple [.str "add", a, b]) = some ("add" : Str) := word_of 3 rfl (by decide)
theorem word_times {a b : PyData} : wordOf EXPRF (.tuple [.str "times", a, b]) = some ("times" : Str) := word_of 3 rfl (by decide)
theorem exOk_num {n : Nat} {a : PyData} : exOk (n + 1) (.tuple [.str "num", a]) = numOk a := by rw [exOk_word word_num, if_pos rfl]; rfl
theorem exOk_name {n : Nat} {a : PyData} : exOk (n + 1) (.tuple [.str "name", a]) = nameOk a := by rw [exOk_word word_name, if_neg (by decide), if_pos rfl]; rfl
theorem exOk_add {n : Nat} {a b : PyData} : exOk (n + 1) (.tuple [.str "add", a, b]) = (exOk n a && exOk n b) := by rw [exOk_word word_add, if_neg (by decide), if_neg (by decide)]; rfl
theorem exOk_times {n : Nat} {a b : PyData} : exOk (n + 1) (.tuple [.str "times", a, b]) = (exOk n a && exOk n b) := by rw [exOk_word word_times, if_neg (by decide), if_neg (by decide)]; rfl
theorem acc_ex {ns : List Str} (no : NamesOk ns) : ∀ {t : Ex} {d k : Nat}, ExOk ns d t → d + 1 ≤ k → exOk k (dE t) = true
  | .num n, d, k + 1, h, _ => by
    have z := h.of_num
    show exOk (k + 1) (.tuple [.str "num", .int n]) = true
    rw [exOk_num]
    show (decide (0 ≤ n) && decide (n ≤ 999)) = true
    rw [decide_eq_true (by omega : 0 ≤ n), decide_eq_true (by omega : n ≤ 999)]
    rfl
  | .name x, d, k + 1, h, _ => by
    show exOk (k + 1) (.tuple [.str "name", .str x]) = true
    rw [exOk_name]
    exact no.name h.of_name
  | .add a b, d + 1, k + 1, h, l => by
    show exOk (k + 1) (.tuple [.str "add", dE a, dE b]) = true
    rw [exOk_add, acc_ex no h.1 (by omega : d + 1 ≤ k), acc_ex no h.2 (by omega : d + 1 ≤ k)]
    rfl
  | .mul a b, d + 1, k + 1, h, l => by
    show exOk (k + 1) (.tuple [.str "times", dE a, dE b]) = true
    rw [exOk_times, acc_ex no h.1 (by omega : d + 1 ≤ k), acc_ex no h.2 (by omega : d + 1 ≤ k)]
    rfl
  | .add _ _, 0, _, h, _ => h.elim
  | .mul _ _, 0, _, h, _ => h.elim
theorem acc_exS {ns : List Str} (no : NamesOk ns) {e : Ex} (h : ExS ns e) : exOk 5 (dE e) = true := by
  rcases h with z | ⟨y, t, rfl, hy, z⟩
  · exact acc_ex no z (by decide)
  · exact acc_ex no (d := 3) ⟨ExOk.name hy _, z⟩ (by decide)
theorem needSt_say {inner : Nat → PyData → Option Nat} {left : Nat} {a : PyData} : needSt inner left (.tuple [.str "say", a]) = if exOk 5 a = true then some left else none := by rw [needSt_word word_say, if_pos rfl]; rfl
theorem needSt_set {inner : Nat → PyData → Option Nat} {left : Nat} {a b : PyData} : needSt inner left (.tuple [.str "set", a, b]) = if nameOk a = true ∧ exOk 5 b = true then some left else none := by rw [needSt_word word_set, if_neg (by decide), if_pos rfl]; rfl
theorem needSt_lap {inner : Nat → PyData → Option Nat} {left : Nat} {a b c : PyData} : needSt inner left (.tuple [.str "lap", a, b, c]) = if nameOk a = true ∧ exOk 5 b = true then inner left c else none := by
  rw [needSt_word word_lap, if_neg (show ¬ ("lap" : Str) = "say" by decide), if_neg (show ¬ ("lap" : Str) = "set" by decide)]
  rfl
theorem needRow_row {l left : Nat} {ps : List PyData} : needRow l left (.tuple [.str "row", .tuple ps]) = needSts (innerF l) left ps := needRow_tup word_row rfl
theorem needSts_cons {inner : Nat → PyData → Option Nat} {left m : Nat} {s : PyData} {r : List PyData} (h : needSt inner left s = some m) : needSts inner (left + 1) (s :: r) = needSts inner m r := by
  show (match needSt inner left s with | none => none | some l => needSts inner l r) = _
  rw [h]
theorem acc_sts {ns : List Str} (no : NamesOk ns) : ∀ {r : Rw} {l left : Nat}, RwOk ns r l → RwT ns r → cntR r ≤ left → needSts (innerF l) left (dR r) = some (left - cntR r)
  | .nil, l, left, _, _, _ => by
    show needSts (innerF l) left [] = _
    cases left <;> rfl
  | .set x e r, l, left + 1, ⟨o1, o2, o3⟩, ⟨t1, t2, t3⟩, h => by
    have h : cntR r + 1 ≤ left + 1 := h
    show needSts (innerF l) (left + 1) (.tuple [.str "set", .str x, dE e] :: dR r) = some (left + 1 - (cntR r + 1))
    rw [needSts_cons (by rw [needSt_set, if_pos ⟨no.name o1, acc_exS no t2⟩]), acc_sts no o3 t3 (by omega)]
    congr 1
    omega
  | .say e r, l, left + 1, ⟨o1, o2⟩, ⟨t1, t2⟩, h => by
    have h : cntR r + 1 ≤ left + 1 := h
    show needSts (innerF l) (left + 1) (.tuple [.str "say", dE e] :: dR r) = some (left + 1 - (cntR r + 1))
    rw [needSts_cons (by rw [needSt_say, if_pos (acc_ex no t1 (by decide))]), acc_sts no o2 t2 (by omega)]
    congr 1
    omega
  | .lap x m b r, 0, left + 1, ⟨o1, o2, o3, _⟩, _, h => absurd o3 (by decide)
  | .lap x m b r, l + 1, left + 1, ⟨o1, o2, o3, o4, o5, o6⟩, ⟨t1, t2, t3, t4⟩, h => by
    have h : cntR b + cntR r + 1 ≤ left + 1 := h
    show needSts (innerF (l + 1)) (left + 1) (.tuple [.str "lap", .str x, dE m, .tuple [.str "row", .tuple (dR b)]] :: dR r) = some (left + 1 - (cntR b + cntR r + 1))
    have e : innerF (l + 1) left (.tuple [.str "row", .tuple (dR b)]) = some (left - cntR b) := by
      show needRow l left _ = _
      rw [needRow_row]
      exact acc_sts no o5 t3 (by omega)
    rw [needSts_cons (by rw [needSt_lap, if_pos ⟨no.name o1, acc_ex no t2 (by decide)⟩]; exact e), acc_sts no o6 t4 (by omega)]
    congr 1
    omega
theorem acc_prog {ns : List Str} (no : NamesOk ns) {r : Rw} (o : RwOk ns r 3) (t : RwT ns r) (c : cntR r ≤ 40) : isProg (dP r) = true := by
  show (needRow 3 40 (.tuple [.str "row", .tuple (dR r)])).isSome = true
  rw [needRow_row, acc_sts no o t c]
  rfl
theorem wordOk {x : Str} (h : x ∈ (["num", "name", "add", "times", "set", "say", "lap", "row"] : List Str)) : PyData.strOk x = true ∧ x.length ≤ 1000 := by
  revert x
  decide +kernel
theorem Dq.word {K : PySem.W.Frag} {N : List Addr} {H : Hp} {x : Str} (h : x ∈ (["num", "name", "add", "times", "set", "say", "lap", "row"] : List Str)) : Dq K N H (.str x) (.str x) := .str (wordOk h).1 (wordOk h).2
theorem ExAt.dq {K : PySem.W.Frag} {N : List Addr} {H : Hp} {ns : List Str} (no : NamesOk ns) : ∀ {t : Ex} {d : Nat} {p : Addr}, ExOk ns d t → ExAt K H p t → Dq K N H (.ref p) (dE t)
  | .num n, _, _, _, a => .tup a (.cons (.word (by decide)) (.cons (.int _) .nil))
  | .name x, _, _, h, a => .tup a (.cons (.word (by decide)) (.cons (.str (no.txt h.of_name).1 (no.txt h.of_name).2) .nil))
  | .add s t, d + 1, _, h, ⟨q, r, a, b, c⟩ => .tup a (.cons (.word (by decide)) (.cons (ExAt.dq no h.1 b) (.cons (ExAt.dq no h.2 c) .nil)))
  | .mul s t, d + 1, _, h, ⟨q, r, a, b, c⟩ => .tup a (.cons (.word (by decide)) (.cons (ExAt.dq no h.1 b) (.cons (ExAt.dq no h.2 c) .nil)))
  | .add _ _, 0, _, h, _ => h.elim
  | .mul _ _, 0, _, h, _ => h.elim
theorem StsAt.dq {K : PySem.W.Frag} {N : List Addr} {H : Hp} {ns : List Str} (no : NamesOk ns) : ∀ {r : Rw} {d : Nat} {qs : List Addr}, RwOk ns r d → StsAt K H r qs → DqAll K N H (qs.map V.ref) (dR r)
  | .nil, _, _, _, h => by rw [h]; exact .nil
  | .set x e r, _, _, ⟨o1, o2, o3⟩, ⟨q, t, pe, eq, h, a, b⟩ => by
    rw [eq]
    exact .cons (.tup h (.cons (.word (by decide)) (.cons (.str (no.txt o1).1 (no.txt o1).2) (.cons (a.dq no o2) .nil)))) (StsAt.dq no o3 b)
  | .say e r, _, _, ⟨o1, o2⟩, ⟨q, t, pe, eq, h, a, b⟩ => by
    rw [eq]
    exact .cons (.tup h (.cons (.word (by decide)) (.cons (a.dq no o1) .nil))) (StsAt.dq no o2 b)
  | .lap x m b r, _, _, ⟨o1, o2, o3, o4, o5, o6⟩, ⟨q, t, pm, pb, pt, qb, eq, h, a, h1, h2, sb, sr⟩ => by
    rw [eq]
    exact .cons (.tup h (.cons (.word (by decide)) (.cons (.str (no.txt o1).1 (no.txt o1).2) (.cons (a.dq no o2) (.cons (.tup h1 (.cons (.word (by decide)) (.cons (.tup h2 (StsAt.dq no o5 sb)) .nil))) .nil))))) (StsAt.dq no o6 sr)
theorem RwAt.dq {K : PySem.W.Frag} {N : List Addr} {H : Hp} {ns : List Str} (no : NamesOk ns) {r : Rw} {d : Nat} {p : Addr} (o : RwOk ns r d) (h : RwAt K H p r) : Dq K N H (.ref p) (dP r) := by
  obtain ⟨pt, qs, a, b, c⟩ := h
  exact .tup a (.cons (.word (by decide)) (.cons (.tup b (c.dq no o)) .nil))
/-! ### what is refused -/
def BadSt (s : PyData) : Prop := ∀ l left, l ≤ 3 → needSt (innerF l) left s = none
def BadEx (e : PyData) : Prop := exOk 5 e = false
theorem needSts_bad {l : Nat} {s : PyData} {r : List PyData} (hl : l ≤ 3) (b : BadSt s) : ∀ (ps : List PyData) (left : Nat), needSts (innerF l) left (ps ++ s :: r) = none
  | [], 0 => rfl
  | [], left + 1 => by
    show (match needSt (innerF l) left s with | none => none | some l' => _) = none
    rw [b l left hl]
  | p :: ps, 0 => rfl
  | p :: ps, left + 1 => by
    show (match needSt (innerF l) left p with | none => none | some l' => needSts (innerF l) l' (ps ++ s :: r)) = none
    cases needSt (innerF l) left p with
    | none => rfl
    | some m => exact needSts_bad hl b ps m
theorem bad_prog {s : PyData} {ps r : List PyData} (b : BadSt s) : isProg (.tuple [.str "row", .tuple (ps ++ s :: r)]) = false := by
  show (needRow 3 40 _).isSome = false
  rw [needRow_row, needSts_bad (by decide) b]
  rfl
theorem bad_within {a b s : PyData} {ps : List PyData} (h : BadSt s) : BadSt (.tuple [.str "lap", a, b, .tuple [.str "row", .tuple (ps ++ [s])]]) := fun l left hl => by
  rw [needSt_lap]
  split
  · cases l with
    | zero => rfl
    | succ l =>
      show needRow l left _ = none
      rw [needRow_row]
      exact needSts_bad (by omega) h ps left
  · rfl
theorem bad_word {s : PyData} (h : wordOf STMSF s = none) : BadSt s := fun _ _ _ => needSt_none h
theorem bad_say {e : PyData} (h : BadEx e) : BadSt (.tuple [.str "say", e]) := fun _ _ _ => by rw [needSt_say, h]; rfl
theorem bad_set {x e : PyData} (h : nameOk x = false ∨ BadEx e) : BadSt (.tuple [.str "set", x, e]) := fun _ _ _ => by
  rw [needSt_set, if_neg]
  rintro ⟨a, b⟩
  rcases h with z | z
  · rw [z] at a; cases a
  · rw [show exOk 5 e = false from z] at b; cases b
theorem bad_lap {x e c : PyData} (h : nameOk x = false ∨ BadEx e ∨ ∀ l left, l ≤ 3 → innerF l left c = none) : BadSt (.tuple [.str "lap", x, e, c]) := fun l left hl => by
  rw [needSt_lap]
  split
  · rename_i q
    rcases h with z | z | z
    · rw [z] at q; cases q.1
    · rw [show exOk 5 e = false from z] at q; cases q.2
    · exact z l left hl
  · rfl
theorem inner_bad {c : PyData} (h : ∀ l left, needRow l left c = none) : ∀ l left, l ≤ 3 → innerF l left c = none
  | 0, _, _ => rfl
  | l + 1, left, _ => h l left
def rCatU (K : PySem.W.Frag) : R2 := fun x y H Q => ∃ a b xs ys, x = .ref a ∧ y = .ref b ∧ SqT K H a xs ∧ SqT K H b ys ∧ xs.length + ys.length ≤ sizeLine ∧ ∀ p H', SqT K H' p (xs ++ ys) → Same H H' → Q (.ref p) H'
theorem op_catU {X : Cx} {K : PySem.W.Frag} (e : X.K = K) : OpR X (binaryOp .Add) (rCatU K) := by
  subst e
  intro pins s σ H x y v u Q I rx ry h
  obtain ⟨a, b, xs, ys, rfl, rfl, ha, hb, hl, q⟩ := h
  refine op_catA pins s σ H _ _ v u Q I rx ry ⟨a, b, xs, ys, rfl, rfl, ha, hb, hl, fun e => ?_, fun _ e => ?_, fun _ _ p np => ?_⟩
  · subst e
    exact q b H hb fun _ _ e => e
  · subst e
    exact q a H (by rw [List.append_nil]; exact ha) fun _ _ e => e
  · exact q p _ (SqT.of upd_same) (same_upd np)
def rSlU (K : PySem.W.Frag) : V → Option Int → Option Int → Hp → VK → Prop := fun x lo hi H Q => ∃ a xs, x = .ref a ∧ SqT K H a xs ∧ ∀ p H', SqT K H' p (cutV xs lo hi) → Same H H' → Q (.ref p) H'
theorem sl_tupU {X : Cx} {K : PySem.W.Frag} (e : X.K = K) : SlR X (rSlU K) := by
  subst e
  intro pins s σ H x v vl vu lo hi sl Q I rx hs pl pu h
  obtain ⟨a, xs, rfl, hx, q⟩ := h
  refine sl_tupA pins s σ H _ v vl vu lo hi sl Q I rx hs pl pu ⟨a, xs, rfl, hx, fun w => ?_, fun _ p np => q p _ (SqT.of upd_same) (same_upd np)⟩
  refine q a H ?_ fun _ _ e => e
  unfold cutV
  rw [w.1, w.2, List.drop_zero, Nat.sub_zero, List.take_length]
  exact hx
/-! ### rows whose laps have no laps within: the first that needn't fall -/
def lookR (fl : Str → Ex → Rw → Bool) : Rw → Nat → Option Nat
  | .nil, _ => none
  | .set _ _ r, i => lookR fl r (i + 1)
  | .say _ r, i => lookR fl r (i + 1)
  | .lap x m b r, i => if fl x m b = true then lookR fl r (i + 1) else some i
def NoLaps : Rw → Prop
  | .nil => True
  | .set _ _ r => NoLaps r
  | .say _ r => NoLaps r
  | .lap _ _ _ _ => False
structure LapFits (ns ms : List Str) (fl : Bool) (x : Str) (me : Ex) (b : Rw) : Prop where
  ok : RwOk ns (.lap x me b .nil) 3
  one : ∃ (vs : List Str) (m D0 S0 n S top : Nat), InFit vs (F1 x (upM x)) (polyE me) m D0 S0 n S top
  two : ∀ ks : List Str, ks.Pairwise slt → (∀ y, y ∈ ks ↔ y ∈ namesR (.lap x me b .nil)) → RowFit ns ms ks b nameM ∧ FallFit x (polyE me) (onK ks (rowG ks b nameM))
  eq : ∀ ks : List Str, ks.Pairwise slt → (∀ y, y ∈ ks ↔ y ∈ namesR (.lap x me b .nil)) → fallsM x (polyE me) (onK ks (rowG ks b nameM)) = fl
  no : NoLaps b
  le : lenR b ≤ 50
def LapsFit (n : Nat) (ns ms : List Str) (fl : Str → Ex → Rw → Bool) : Rw → Prop
  | .nil => True
  | .set _ _ r => LapsFit n ns ms fl r
  | .say _ r => LapsFit n ns ms fl r
  | .lap x me b r => 1 ≤ n ∧ LapFits ns ms (fl x me b) x me b ∧ LapsFit n ns ms fl r
theorem NoLaps.fit {n : Nat} {ns ms : List Str} {fl : Str → Ex → Rw → Bool} : ∀ {r : Rw}, NoLaps r → LapsFit n ns ms fl r
  | .nil, _ => True.intro
  | .set _ _ r, h => NoLaps.fit (r := r) h
  | .say _ r, h => NoLaps.fit (r := r) h
theorem NoLaps.look {fl : Str → Ex → Rw → Bool} : ∀ {r : Rw} {i : Nat}, NoLaps r → lookR fl r i = none
  | .nil, _, _ => rfl
  | .set _ _ r, _, h => NoLaps.look (r := r) h
  | .say _ r, _, h => NoLaps.look (r := r) h
section
variable {P : Program} {w : World} {K : PySem.W.Frag} {mg : Str → Option Value} {base : Heap} {C : Addr}
def RaisedAt (K : PySem.W.Frag) (H : Hp) (F : Addr) (E : XK) (pl : List Nat) : Prop := ∀ (d pp : Addr) (H' : Hp), Same H H' → H' d = some (.xd [("place", .ref pp)]) → SqT K H' pp (placeV pl) → E (.ref F) (some d) H'
def spLook (K : PySem.W.Frag) (N : Addr) (n : Nat) : Sp := fun vs H Q E => ∃ (p place : Addr) (r : Rw) (pl : List Nat) (ns ms : List Str) (fl : Str → Ex → Rw → Bool), vs = [.ref p, .ref place] ∧ RwAt K H p r ∧ SqT K H place (placeV pl) ∧ (∀ n ∈ pl, n < 100) ∧ pl.length + n ≤ 20 ∧ lenR r ≤ 50 ∧ ns.length < 32 ∧ ms.length < 32 ∧ LapsFit n ns ms fl r ∧
  (lookR fl r 0 = none → ∀ H', Same H H' → Q .non H') ∧ (∀ i, lookR fl r 0 = some i → RaisedAt K H N E (pl ++ [i]))
theorem ok_look {Lp B D N U : Addr} (X : ExTxt K mg Lp B D N U) {f : Addr} {fd : FuncData} (T : Txt K mg C) (F : DefAt K mg "_look_at_row" "_look_at_row" s_look_at_row ["row", "place"] f fd) {n k : Nat} (hk : 16 ≤ k)
    (G_look_at_row : FnOk P w K mg base (L2.CX P w) k f fd ["row", "place"] (fun vs H Q E => 1 ≤ n ∧ spLook K N 0 vs H Q E)) : FnOk P w K mg base (L2.CX P w) (k + 1) f fd ["row", "place"] (spLook K N n) := by
  obtain ⟨f1, fd1, D_falls⟩ := T.d_falls
  have G_falls : FnOk P w K mg base CX0 16 f1 fd1 ["lap"] (spFalls0 K w C) := ok_falls0 T D_falls
  obtain ⟨fN, fdN, iN, tN0, FN, bN0⟩ := X.nN
  have G_NeedntFall_init : FnOk P w K mg base CX0 1 fN fdN ["self", "place"] (spPlInit K N) := ok_NeedntFall_init X FN
  have D_look_at_row := F
  refine F.F.okX sc_look_at_row (fun vs H Q E h => ?_) (fun cdv A outer z H vs Q E hr h => ?_)
  · obtain ⟨p, place, r, pl, ns, ms, fl, rfl, _⟩ := h
    rfl
  · obtain ⟨p, place, r, pl, ns, ms, fl, rfl, ar, sp, b100, l20, l50, hn, hm, lf, q, qe⟩ := h
    refine ⟨_, (pss_one (ps_for (passes_of rfl) rfl (pi_enumT (by rfl) T.m_enumerate (pa_cons (pe_ix ix_tup (pv 0) pe_int (fun _ _ => rfl)) pa_nil)) (pg_tup (by rfl) (pgs_cons (pg_name (i := 2) sc_look_at_row.nd rfl (.inl rfl)) (pgs_cons (pg_name (i := 3) sc_look_at_row.nd rfl (.inl rfl)) pgs_nil))) (pss_one (ps_if (pt_cmpR op_eq (pe_ix ix_tup (pv 3) pe_int (fun _ _ => rfl)) pe_str (nomark _)) (pss_cons (ps_set (i := 4) sc_look_at_row.nd rfl (.inl rfl) (pe_op (op_catU (K := K) rfl) (pv 1) (pe_tup (pa_cons (pv 2) pa_nil)))) (pss_cons (ps_if (pt_not (pt_val (pe_call G_falls (hr.mono (by omega)) (by rfl) D_falls.g D_falls.F.kp D_falls.b .nil pass0 (pa_cons (pv 3) pa_nil)))) (pss_one (ps_raise rfl (takes_of rfl rfl rfl rfl) (pmk_oex X.oN iN tN0 G_NeedntFall_init (hr.mono (by omega)) bN0 .nil pass0 rfl X.gN (pa_cons (pv 4) pa_nil)))) pss_nil) (pss_one (ps_expr (pe_callS G_look_at_row (hr.mono (by omega)) (by rfl) D_look_at_row.g D_look_at_row.F.kp D_look_at_row.b (fun σ => passAt (takes_of rfl rfl rfl rfl) σ) (pa_cons (pe_ix ix_tup (pv 3) pe_int (fun _ _ => rfl)) (pa_cons (pv 4) pa_nil))))))) pss_nil)))), ?_⟩
    obtain ⟨pt, qs, a1, a2, a3⟩ := ar
    refine ⟨_, rfl, p, _, _, _, rfl, rfl, a1, atI_nat (j := 1) rfl, pt, qs.map V.ref, rfl, a2, for_enumT (K := K) (a := pt) (xs := qs.map V.ref) (fun i σ H2 => ∃ (v2 v3 v4 : Option V) (r2 : Rw), σ = [some (.ref p), some (.ref place), v2, v3, v4] ∧ Same H H2 ∧ StsAt K H2 r2 (qs.drop i) ∧ LapsFit n ns ms fl r2 ∧ lookR fl r2 i = lookR fl r 0 ∧ i + lenR r2 = lenR r)
      ⟨none, none, none, r, rfl, Same.refl _, a3, lf, rfl, Nat.zero_add _⟩ (fun i σ H2 _ h2 => ?_) (fun i x σ H2 t hx h2 nt => ?_) (fun σ H2 h2 => ?_)⟩
    · obtain ⟨_, _, _, _, _, u2, _⟩ := h2
      exact SqT.keeps a2 (TupsStay.same u2)
    · obtain ⟨v2, v3, v4, r2, rfl, u2, st2, lf2, eq2, il⟩ := h2
      rw [List.getElem?_map] at hx
      cases hy : qs[i]? with
      | none =>
        rw [hy] at hx
        cases hx
      | some y =>
        rw [hy] at hx
        cases hx
        obtain ⟨hi, hq⟩ := List.getElem?_eq_some_iff.mp hy
        rw [List.drop_eq_getElem_cons hi, hq] at st2
        have ut : Same H2 (upd H2 t (.tup [.int (i : Nat), .ref y])) := same_upd nt
        have u3 := u2.trans ut
        have st3 := st2.stay (TupsStay.same ut)
        refine ⟨t, _, rfl, SqT.of upd_same, rfl, _, _, rfl, _, _, rfl, rfl, ?_⟩
        generalize (upd H2 t (.tup [.int (i : Nat), .ref y])) = H3 at *
        cases r2 with
        | nil =>
          exact absurd st3 (by intro z; cases z)
        | say e r3 =>
          obtain ⟨y', t', pe, e1, b1, b2, b3⟩ := st3
          obtain ⟨z1, z2⟩ := List.cons.inj e1
          subst z1 z2
          refine ⟨_, rfl, y, _, _, _, rfl, rfl, b1, atI_nat (j := 0) rfl, rfl, _, rfl, ite2 (fun c => absurd c (by decide)) (fun c => ?_)⟩
          exact ⟨_, _, v4, r3, rfl, u3, b3, lf2, eq2, by rw [← il]; show i + 1 + lenR r3 = i + (lenR r3 + 1); omega⟩
        | set x e r3 =>
          obtain ⟨y', t', pe, e1, b1, b2, b3⟩ := st3
          obtain ⟨z1, z2⟩ := List.cons.inj e1
          subst z1 z2
          refine ⟨_, rfl, y, _, _, _, rfl, rfl, b1, atI_nat (j := 0) rfl, rfl, _, rfl, ite2 (fun c => absurd c (by decide)) (fun c => ?_)⟩
          exact ⟨_, _, v4, r3, rfl, u3, b3, lf2, eq2, by rw [← il]; show i + 1 + lenR r3 = i + (lenR r3 + 1); omega⟩
        | lap x m b r3 =>
          obtain ⟨n1', lap, lf3⟩ := lf2
          obtain ⟨y', t', pm, pb, ptt, qb, e1, c1, c2, c3, c4, c5, c6⟩ := st3
          obtain ⟨z1, z2⟩ := List.cons.inj e1
          subst z1 z2
          have i50 : i < 50 := by
            have : i + (lenR r3 + 1) = lenR r := il
            omega
          have sy : StsAt K H3 (.lap x m b .nil) [y] := ⟨y, [], pm, pb, ptt, qb, rfl, c1, c2, c3, c4, c5, rfl⟩
          refine ⟨_, rfl, y, _, _, _, rfl, rfl, c1, atI_nat (j := 0) rfl, rfl, _, rfl, ite2 (fun _ => ?_) (fun c => absurd (by decide) c)⟩
          refine ⟨_, rfl, _, rfl, (by show 1 ≤ sizeLine; decide), fun p1 n1 => ⟨place, p1, placeV pl, [.int (i : Nat)], rfl, rfl, SqT.keeps sp (TupsStay.same (u3.trans (same_upd n1))), SqT.of upd_same, by rw [sizeLine_eq]; show (pl.map _).length + 1 ≤ _; rw [List.length_map]; omega, fun pp H5 sp5 s5 => ?_⟩⟩
          have u1 := same_upd (o := .tup [.int (i : Nat)]) n1
          have u35 := u1.trans s5
          have u5 := u3.trans u35
          have sp5 : SqT K H5 pp (placeV (pl ++ [i])) := by
            show SqT K H5 pp ((pl ++ [i]).map _)
            rw [List.map_append]
            exact sp5
          have pl100 : ∀ n ∈ pl ++ [i], n < 100 := fun n hn => by
            rcases List.mem_append.mp hn with z | z
            · exact b100 n z
            · rw [List.mem_singleton.mp z]; omega
          have pl20 : (pl ++ [i]).length ≤ 20 := by rw [List.length_append]; show pl.length + 1 ≤ 20; omega
          refine ⟨_, rfl, y, x, m, b, ns, ms, rfl, sy.stay (TupsStay.same u35), lap.ok, hn, hm, lap.one, lap.two, fun ks H6 up mem s6 => ?_⟩
          rw [lap.eq ks up mem]
          have u6 := u5.trans s6
          have sp6 := SqT.keeps sp5 (TupsStay.same s6)
          have eq3 : (if fl x m b = true then lookR fl r3 (i + 1) else some i) = lookR fl r 0 := eq2
          refine ⟨_, rfl, ite2 (fun e => ?_) (fun e => ?_)⟩
          · have e : ¬ fl x m b = true := fun z => by rw [z] at e; exact absurd e (by decide)
            rw [if_neg e] at eq3
            exact ⟨_, rfl, (by show 1 ≤ 1000; decide), fun a na => ⟨a, pp, pl ++ [i], rfl, upd_same, SqT.keeps sp6 (TupsStay.same (same_upd na)), pl100, pl20, fun dx nd ne => by
              have nd6 : H6 dx = none := by rw [upd_ne ne] at nd; exact nd
              have sl := place_heap (o1 := exo a N none) (o2 := exd dx [("place", .ref pp)]) (o3 := exo a N (some dx)) (o4 := .xd [("place", .ref pp)]) na nd6 ne
              exact ⟨rfl, dx, [("place", .ref pp)], upd_same, by rw [upd_ne ne]; exact upd_same, nd6, qe i eq3.symm dx pp _ (u6.trans sl) upd_same (SqT.keeps sp6 (TupsStay.same sl))⟩⟩⟩
          · have e : fl x m b = true := by
              cases z : fl x m b with
              | true => rfl
              | false => rw [z] at e; exact absurd rfl e
            rw [if_pos e] at eq3
            have u36 := TupsStay.same (u35.trans s6)
            refine ⟨_, rfl, y, _, _, _, rfl, rfl, SqT.keeps c1 u36, atI_nat (j := 3) rfl, _, rfl, n1', pb, pp, b, pl ++ [i], ns, ms, fl, rfl, ⟨ptt, qb, SqT.keeps c3 u36, SqT.keeps c4 u36, c5.stay u36⟩, sp6, pl100, pl20, lap.le, hn, hm, lap.no.fit, fun _ H7 s7 => ?_, fun j e7 => absurd (lap.no.look.symm.trans e7) (by intro z; cases z)⟩
            exact ⟨_, _, _, r3, rfl, u6.trans s7, (c6.stay u36).stay (TupsStay.same s7), lf3, eq3, by rw [← il]; show i + 1 + lenR r3 = i + (lenR r3 + 1); omega⟩
    · obtain ⟨v2, v3, v4, r2, rfl, u2, st2, lf2, eq2, il⟩ := h2
      rw [List.length_map, List.drop_length] at st2
      have z : r2 = .nil := by
        cases r2 with
        | nil => rfl
        | set x e r => obtain ⟨_, _, _, z, _⟩ := st2; cases z
        | say e r => obtain ⟨_, _, _, z, _⟩ := st2; cases z
        | lap x m b r => obtain ⟨_, _, _, _, _, _, z, _⟩ := st2; cases z
      subst z
      exact q eq2.symm _ u2
theorem ok_looks {Lp B D N U : Addr} (X : ExTxt K mg Lp B D N U) {f : Addr} {fd : FuncData} (T : Txt K mg C) (F : DefAt K mg "_look_at_row" "_look_at_row" s_look_at_row ["row", "place"] f fd) : FnOk P w K mg base (L2.CX P w) 18 f fd ["row", "place"] (spLook K N 1) :=
  ok_look X T F (by decide) (fn_drop (ok_look X T F (n := 0) (k := 16) (by decide) ⟨fun _ _ _ _ h => absurd h.1 (by decide), fun _ _ _ _ _ _ _ _ _ _ _ _ _ h => absurd h.1 (by decide)⟩))
def spLooked (K : PySem.W.Frag) (N B : Addr) : Sp := fun vs H Q E => (∃ (p : Addr) (r : Rw) (ns ms : List Str) (fl : Str → Ex → Rw → Bool), vs = [.ref p] ∧ RwAt K H p r ∧ Dq K [] H (.ref p) (dP r) ∧ isProg (dP r) = true ∧ lenR r ≤ 50 ∧ ns.length < 32 ∧ ms.length < 32 ∧ LapsFit 1 ns ms fl r ∧
  (lookR fl r 0 = none → ∀ H', Same H H' → Q .non H') ∧ (∀ i, lookR fl r 0 = some i → RaisedAt K H N E [i]))
theorem ok_looked {Lp B D N U : Addr} (X : ExTxt K mg Lp B D N U) {f : Addr} {fd : FuncData} (T : Txt K mg C) (F : DefAt K mg "looked" "looked" s_looked ["program"] f fd) : FnOk P w K mg base (L2.CX P w) 19 f fd ["program"] (spLooked K N B) := by
  obtain ⟨f1, fd1, D_need_program⟩ := T.d_need_program
  have G_need_program : FnOk P w K mg base (L2.CX P w) 16 f1 fd1 ["program"] (spProgram K B) := ok_need_program X T D_need_program
  obtain ⟨f2, fd2, D_look_at_row⟩ := T.d_look_at_row
  have G_look_at_row : FnOk P w K mg base (L2.CX P w) 18 f2 fd2 ["row", "place"] (spLook K N 1) := ok_looks X T D_look_at_row
  refine F.F.okX sc_looked (fun vs H Q E h => ?_) (fun cdv A outer z H vs Q E hr h => ?_)
  · obtain ⟨p, r, ns, ms, fl, rfl, _⟩ := h
    rfl
  · obtain ⟨p, r, ns, ms, fl, rfl, ar, dq, pr, l50, hn, hm, lf, q, qe⟩ := h
    refine ⟨_, (pss_cons (ps_expr (pe_callS G_need_program (hr.mono (by decide)) (by rfl) D_need_program.g D_need_program.F.kp D_need_program.b (fun σ => passAt (takes_of rfl rfl rfl rfl) σ) (pa_cons (pv 0) pa_nil)))
      (pss_one (ps_expr (pe_callS G_look_at_row (hr.mono (by decide)) (by rfl) D_look_at_row.g D_look_at_row.F.kp D_look_at_row.b (fun σ => passAt (takes_of rfl rfl rfl rfl) σ) (pa_cons (pv 0) (pa_cons (pe_tup pa_nil) pa_nil)))))), ?_⟩
    refine ⟨_, rfl, .ref p, [], _, rfl, dq, fun _ H1 s1 => ?_, fun e => absurd (pr.symm.trans e) (by decide)⟩
    refine ⟨_, rfl, (by show 0 ≤ sizeLine; decide), fun pp np => ?_⟩
    have u := same_upd (o := .tup []) np
    have u1 := s1.trans u
    exact ⟨p, pp, r, [], ns, ms, fl, rfl, ar.stay (TupsStay.same u1), SqT.of upd_same, (fun _ h => (nomatch h)), by decide, l50, hn, hm, lf, fun e H2 s2 => q e _ (u1.trans s2), fun i e d p2 H2 s2 => qe i e d p2 H2 (u1.trans s2)⟩
end
theorem pss_stop {X : Cx} {st : Stmt} {rest : List Stmt} {t : TS} (h1 : PS X st t) : PSs X (st :: rest) (fun D σ H => t { D with nx := fun _ _ => False } σ H) := by
  refine ⟨fun pins s σ H D I h => ?_⟩
  refine wpAny_execs_cons (thn (h1.run pins s σ H { D with nx := fun _ _ => False } I h) fun f s1 q => ?_)
  cases f with
  | next =>
    obtain ⟨σ', H', I', q⟩ := q
    exact q.elim
  | ret v => exact q
  | brk => exact q
  | cont => exact q
/-! ### turns that can't be told -/
structure LapU (ns ms : List Str) (x : Str) (me : Ex) (b : Rw) : Prop where
  ok : RwOk ns (.lap x me b .nil) 3
  two : ∀ ks : List Str, ks.Pairwise slt → (∀ y, y ∈ ks ↔ y ∈ namesR (.lap x me b .nil)) → RowFit ns ms ks b nameM ∧ eqM (rowG ks b nameM x) (nameM x) = false
  no : NoLaps b
  le : lenR b ≤ 50
def RowFitU (n : Nat) (ns ms ks : List Str) : Rw → (Str → Poly) → Prop
  | .nil, _ => True
  | .set x e r, G => x ∈ ks ∧ x.length < 100 ∧ ExOk ns 5 e ∧ (∃ m D0 S0 n S top : Nat, InFit ms (onK ks G) (polyE e) m D0 S0 n S top) ∧ RowFitU n ns ms ks r (setG G x (keepM x (putInM (onK ks G) (polyE e))))
  | .say _ r, G => RowFitU n ns ms ks r G
  | .lap x me b _, _ => 1 ≤ n ∧ LapU ns ms x me b
def lapI : Rw → Nat → Option Nat
  | .nil, _ => none
  | .set _ _ r, i => lapI r (i + 1)
  | .say _ r, i => lapI r (i + 1)
  | .lap _ _ _ _, i => some i
theorem RowFit.u {n : Nat} {ns ms ks : List Str} : ∀ {r : Rw} {G : Str → Poly}, RowFit ns ms ks r G → RowFitU n ns ms ks r G
  | .nil, _, _ => True.intro
  | .set _ _ r, _, ⟨a, b, c, d, e⟩ => ⟨a, b, c, d, RowFit.u e⟩
  | .say _ r, G, h => RowFit.u (r := r) (G := G) h
theorem NoLaps.lapI : ∀ {r : Rw} {i : Nat}, NoLaps r → lapI r i = none
  | .nil, _, _ => rfl
  | .set _ _ r, _, h => NoLaps.lapI (r := r) h
  | .say _ r, _, h => NoLaps.lapI (r := r) h
section
variable {P : Program} {w : World} {K : PySem.W.Frag} {mg : Str → Option Value} {base : Heap} {C : Addr}
def spCountLapU (K : PySem.W.Frag) (w : World) (C U : Addr) : Sp := fun vs H Q E => ∃ (x : Str) (v1 v2 : V) (dT pp : Addr) (kt : List Str) (Gt : Str → Poly) (ft : List (L2.Key × V)) (pl : List Nat), vs = [.str x, v1, .ref dT, v2, .ref pp] ∧ DS K w C H dT kt Gt ft ∧ x ∈ kt ∧ eqM (Gt x) (nameM x) = false ∧
  SqT K H pp (placeV pl) ∧ (∀ n ∈ pl, n < 100) ∧ pl.length ≤ 20 ∧ RaisedAt K H U E pl
theorem ok_count_of_lapU {Lp B D N U : Addr} (X : ExTxt K mg Lp B D N U) {f : Addr} {fd : FuncData} (T : Txt K mg C) (F : DefAt K mg "_count_of_lap" "_count_of_lap" s_count_of_lap ["guard", "in_row", "turn", "ahead", "place"] f fd) : FnOk P w K mg base (L2.CX P w) 9 f fd ["guard", "in_row", "turn", "ahead", "place"] (spCountLapU K w C U) := by
  obtain ⟨f1, fd1, D_is_even⟩ := T.d_is_even
  have G_is_even : FnOk P w K mg base CX0 4 f1 fd1 ["guard", "turn"] (spEven K w C) := ok_is_even T D_is_even
  obtain ⟨fU, fdU, iU, tU0, FU, bU0⟩ := X.nU
  have G_Uneven_init : FnOk P w K mg base CX0 1 fU fdU ["self", "place"] (spPlInit K U) := ok_Uneven_init X FU
  refine F.F.okX sc_count_of_lap (fun vs H Q E h => ?_) (fun cdv A outer z H vs Q E hr h => ?_)
  · obtain ⟨x, v1, v2, dT, pp, kt, Gt, ft, pl, rfl, _⟩ := h
    rfl
  · obtain ⟨x, v1, v2, dT, pp, kt, Gt, ft, pl, rfl, DT, hx, ev, sp, p100, p20, qe⟩ := h
    refine ⟨_, pss_stop (ps_if (pt_not (pt_val (pe_call G_is_even (hr.mono (by decide)) (by rfl) D_is_even.g D_is_even.F.kp D_is_even.b .nil pass0 (pa_cons (pv 0) (pa_cons (pv 2) pa_nil))))) (pss_one (ps_raise rfl (takes_of rfl rfl rfl rfl) (pmk_oex X.oU iU tU0 G_Uneven_init (hr.mono (by decide)) bU0 .nil pass0 rfl X.gU (pa_cons (pv 4) pa_nil)))) pss_nil), ?_⟩
    refine ⟨_, rfl, _, rfl, dT, x, kt, Gt, ft, rfl, DT, hx, fun H1 s1 => ?_⟩
    rw [ev]
    refine ⟨_, rfl, ite2 (fun _ => ?_) (fun c => absurd (by decide) c)⟩
    have sp1 := SqT.keeps sp (TupsStay.same s1)
    exact ⟨_, rfl, (by show 1 ≤ 1000; decide), fun a na => ⟨a, pp, pl, rfl, upd_same, SqT.keeps sp1 (TupsStay.same (same_upd na)), p100, p20, fun dx nd ne => by
      have nd6 : H1 dx = none := by rw [upd_ne ne] at nd; exact nd
      have sl := place_heap (o1 := exo a U none) (o2 := exd dx [("place", .ref pp)]) (o3 := exo a U (some dx)) (o4 := .xd [("place", .ref pp)]) na nd6 ne
      exact ⟨rfl, dx, [("place", .ref pp)], upd_same, by rw [upd_ne ne]; exact upd_same, nd6, qe dx pp _ (s1.trans sl) upd_same (SqT.keeps sp1 (TupsStay.same sl))⟩⟩⟩
end
section
variable {P : Program} {w : World} {K : PySem.W.Frag} {mg : Str → Option Value} {base : Heap} {C : Addr}
def spCount (K : PySem.W.Frag) (w : World) (C U : Addr) (n : Nat) : Sp := fun vs H Q E => ∃ (p l place : Addr) (r : Rw) (pl : List Nat) (ks ns ms : List Str), vs = [.ref p, .ref l, .ref place] ∧ RwAt K H p r ∧ H l = some (.lst (ks.map V.str)) ∧ ks.Nodup ∧ ks.length < 64 ∧ SqT K H place (placeV pl) ∧ (∀ n ∈ pl, n < 100) ∧ pl.length + n ≤ 20 ∧ lenR r ≤ 50 ∧ ns.length < 32 ∧ ms.length < 32 ∧ RowFitU n ns ms ks r nameM ∧
  (lapI r 0 = none → ∀ (t cnt d : Addr) (fk : List (L2.Key × V)) (H' : Hp), SqT K H' t [.ref cnt, .ref d] → SumAt K w C H' cnt (polyE (.num 0)) → DS K w C H' d ks (rowG ks r nameM) fk → Same H H' → Q (.ref t) H') ∧ (∀ i, lapI r 0 = some i → RaisedAt K H U E (pl ++ [i]))
theorem ok_counted {Lp B D N U : Addr} (X : ExTxt K mg Lp B D N U) {f : Addr} {fd : FuncData} (T : Txt K mg C) (F : DefAt K mg "_counted" "_counted" s_counted ["row", "names", "place"] f fd) {n k : Nat} (hk : 13 ≤ k)
    (G_counted : FnOk P w K mg base (L2.CX P w) k f fd ["row", "names", "place"] (fun vs H Q E => 1 ≤ n ∧ spCount K w C U 0 vs H Q E)) : FnOk P w K mg base (L2.CX P w) (k + 1) f fd ["row", "names", "place"] (spCount K w C U n) := by
  obtain ⟨f1, fd1, D_at_first⟩ := T.d_at_first
  have G_at_first : FnOk P w K mg base CX0 4 f1 fd1 ["names"] (spFirst K w C) := ok_at_first T D_at_first
  obtain ⟨f2, fd2, D_do_set⟩ := T.d_do_set
  have G_do_set : FnOk P w K mg base CX0 13 f2 fd2 ["sums", "statement"] (spDoSet K w C) := ok_do_set T D_do_set
  obtain ⟨f3, fd3, D_do_lap⟩ := T.d_do_lap
  have G_do_lap : FnOk P w K mg base CX0 13 f3 fd3 ["sums", "lap", "turn"] spNever := ok_never
  obtain ⟨f4, fd4, D_sum_of_number⟩ := T.d_sum_of_number
  have G_sum_of_number : FnOk P w K mg base CX0 4 f4 fd4 ["n"] (spNumber K w C) := ok_sum_of_number T D_sum_of_number
  obtain ⟨f5, fd5, D_added⟩ := T.d_added
  have G_added : FnOk P w K mg base CX0 5 f5 fd5 ["one", "other"] (spAdded K w C) := ok_added T D_added
  obtain ⟨f6, fd6, D_count_of_lap⟩ := T.d_count_of_lap
  have G_count_of_lap : FnOk P w K mg base (L2.CX P w) 9 f6 fd6 ["guard", "in_row", "turn", "ahead", "place"] (spCountLapU K w C U) := ok_count_of_lapU X T D_count_of_lap
  obtain ⟨f7, fd7, D_names_of_lap⟩ := T.d_names_of_lap
  have G_names_of_lap : FnOk P w K mg base CX0 12 f7 fd7 ["lap"] (spNamesLap K) := ok_names_of_lap T D_names_of_lap
  have D_counted := F
  refine F.F.okX sc_counted (fun vs H Q E h => ?_) (fun cdv A outer z H vs Q E hr h => ?_)
  · obtain ⟨p, l, place, r, pl, ks, ns, ms, rfl, _⟩ := h
    rfl
  · obtain ⟨p, l, place, r, pl, ks, ns, ms, rfl, ar, el, nd, hk64, sp, p100, p20, l50, hn, hm, ff, q, qe⟩ := h
    refine ⟨_, (pss_cons (ps_set (i := 3) sc_counted.nd rfl (.inl rfl) (pe_call G_sum_of_number (hr.mono (by omega)) (by rfl) D_sum_of_number.g D_sum_of_number.F.kp D_sum_of_number.b .nil pass0 (pa_cons pe_int pa_nil)))
      (pss_cons (ps_set (i := 4) sc_counted.nd rfl (.inl rfl) (pe_call G_at_first (hr.mono (by omega)) (by rfl) D_at_first.g D_at_first.F.kp D_at_first.b .nil pass0 (pa_cons (pv 1) pa_nil)))
      (pss_cons (ps_for (passes_of rfl) rfl (pi_enumT (by rfl) T.m_enumerate (pa_cons (pe_ix ix_tup (pv 0) pe_int (fun _ _ => rfl)) pa_nil)) (pg_tup (by rfl) (pgs_cons (pg_name (i := 5) sc_counted.nd rfl (.inl rfl)) (pgs_cons (pg_name (i := 6) sc_counted.nd rfl (.inl rfl)) pgs_nil))) (pss_one (ps_if (pt_cmpR op_eq (pe_ix ix_tup (pv 6) pe_int (fun _ _ => rfl)) pe_str (nomark _)) (pss_one (ps_expr (pe_call G_do_set (hr.mono (by omega)) (by rfl) D_do_set.g D_do_set.F.kp D_do_set.b .nil pass0 (pa_cons (pv 4) (pa_cons (pv 6) pa_nil))))) (pss_one (ps_if (pt_cmpR op_eq (pe_ix ix_tup (pv 6) pe_int (fun _ _ => rfl)) pe_str (nomark _)) (pss_cons (ps_set (i := 7) sc_counted.nd rfl (.inl rfl) (pe_op (op_catU (K := K) rfl) (pv 2) (pe_tup (pa_cons (pv 5) pa_nil)))) (pss_cons (ps_asg (pe_callS G_counted (hr.mono (by omega)) (by rfl) D_counted.g D_counted.F.kp D_counted.b (fun σ => passAt (takes_of rfl rfl rfl rfl) σ) (pa_cons (pe_ix ix_tup (pv 6) pe_int (fun _ _ => rfl)) (pa_cons (pe_call G_names_of_lap (hr.mono (by omega)) (by rfl) D_names_of_lap.g D_names_of_lap.F.kp D_names_of_lap.b .nil pass0 (pa_cons (pv 6) pa_nil)) (pa_cons (pv 7) pa_nil)))) (pg_tup (by rfl) (pgs_cons (pg_name (i := 8) sc_counted.nd rfl (.inl rfl)) (pgs_cons (pg_name (i := 9) sc_counted.nd rfl (.inl rfl)) pgs_nil)))) (pss_cons (ps_set (i := 3) sc_counted.nd rfl (.inl rfl) (pe_call G_added (hr.mono (by omega)) (by rfl) D_added.g D_added.F.kp D_added.b .nil pass0 (pa_cons (pv 3) (pa_cons (pe_callS G_count_of_lap (hr.mono (by omega)) (by rfl) D_count_of_lap.g D_count_of_lap.F.kp D_count_of_lap.b (fun σ => passAt (takes_of rfl rfl rfl rfl) σ) (pa_cons (pe_ix ix_tup (pv 6) pe_int (fun _ _ => rfl)) (pa_cons (pv 8) (pa_cons (pv 9) (pa_cons (pv 4) (pa_cons (pv 7) pa_nil)))))) pa_nil)))) (pss_one (ps_expr (pe_call G_do_lap (hr.mono (by omega)) (by rfl) D_do_lap.g D_do_lap.F.kp D_do_lap.b .nil pass0 (pa_cons (pv 4) (pa_cons (pv 6) (pa_cons (pv 9) pa_nil))))))))) pss_nil)))))
      (pss_one (ps_ret (pe_tup (pa_cons (pv 3) (pa_cons (pv 4) pa_nil)))))))), ?_⟩
    obtain ⟨pt, qs, a1, a2, a3⟩ := ar
    refine ⟨0, rfl, by decide +kernel, fun pc H1 SC s1 n1 => ?_⟩
    refine ⟨_, rfl, l, ks, rfl, s1 _ _ el, nd, hk64, fun d fk0 H2 D2 s2 n2 => ?_⟩
    have u12 := s1.trans s2
    have t12 := TupsStay.same u12
    refine ⟨_, rfl, p, _, _, _, rfl, rfl, SqT.keeps a1 t12, atI_nat (j := 1) rfl, pt, qs.map V.ref, rfl, SqT.keeps a2 t12, for_enumT (K := K) (a := pt) (xs := qs.map V.ref) (fun i σ H3 => ∃ (v5 v6 : Option V) (G : Str → Poly) (fk : List (L2.Key × V)) (r2 : Rw), σ = [some (.ref p), some (.ref l), some (.ref place), some (.ref pc), some (.ref d), v5, v6, none, none, none] ∧ DS K w C H3 d ks G fk ∧ Else d H2 H3 ∧ StsAt K H3 r2 (qs.drop i) ∧ RowFitU n ns ms ks r2 G ∧ (lapI r 0 = none → rowG ks r2 G = rowG ks r nameM) ∧ lapI r2 i = lapI r 0 ∧ i + lenR r2 = lenR r)
      ⟨none, none, nameM, fk0, r, rfl, D2, .refl d H2, a3.stay t12, ff, fun _ => rfl, rfl, Nat.zero_add _⟩ (fun i σ H3 _ h3 => ?_) (fun i x σ H3 t hx h3 nt => ?_) (fun σ H3 h3 => ?_)⟩
    · obtain ⟨_, _, _, _, _, _, _, s3, _⟩ := h3
      exact SqT.keeps a2 (t12.trans (s3.tups D2.fill.d True.intro))
    · obtain ⟨v5, v6, G, fk, r2, rfl, D3, s3, st, f2', eq1, eq2, il⟩ := h3
      rw [List.getElem?_map] at hx
      cases hy : qs[i]? with
      | none =>
        rw [hy] at hx
        cases hx
      | some y =>
        rw [hy] at hx
        cases hx
        obtain ⟨hi, hq⟩ := List.getElem?_eq_some_iff.mp hy
        rw [List.drop_eq_getElem_cons hi, hq] at st
        have ut : Same H3 (upd H3 t (.tup [.int (i : Nat), .ref y])) := same_upd nt
        have st := st.stay (TupsStay.same ut)
        have D4 := D3.same ut
        have s4 : Else d H2 (upd H3 t (.tup [.int (i : Nat), .ref y])) := fun b o nb e => ut _ _ (s3 b o nb e)
        refine ⟨t, _, rfl, SqT.of upd_same, rfl, _, _, rfl, _, _, rfl, rfl, ?_⟩
        generalize (upd H3 t (.tup [.int (i : Nat), .ref y])) = H4 at *
        cases r2 with
        | nil =>
          exact absurd st (by intro z; cases z)
        | say e r3 =>
          obtain ⟨y', t', pe, e1, b1, b2, b3⟩ := st
          obtain ⟨z1, z2⟩ := List.cons.inj e1
          subst z1 z2
          refine ⟨_, rfl, y, _, _, _, rfl, rfl, b1, atI_nat (j := 0) rfl, rfl, _, rfl, ite2 (fun c => absurd c (by decide)) (fun c => ?_)⟩
          refine ⟨_, rfl, y, _, _, _, rfl, rfl, b1, atI_nat (j := 0) rfl, rfl, _, rfl, ite2 (fun c => absurd c (by decide)) (fun c => ?_)⟩
          exact ⟨_, _, G, fk, r3, rfl, D4, s4, b3, f2', eq1, eq2, by rw [← il]; show i + 1 + lenR r3 = i + (lenR r3 + 1); omega⟩
        | set x e r3 =>
          obtain ⟨y', t', pe, e1, b1, b2, b3⟩ := st
          obtain ⟨z1, z2⟩ := List.cons.inj e1
          subst z1 z2
          obtain ⟨o1, o2, o3, ⟨m, D0, S0, n', S, top, o4⟩, o5⟩ := f2'
          refine ⟨_, rfl, y, _, _, _, rfl, rfl, b1, atI_nat (j := 0) rfl, rfl, _, rfl, ite2 (fun c => ?_) (fun c => absurd (by decide) c)⟩
          refine ⟨_, rfl, _, rfl, d, y, pe, x, e, ks, ns, ms, G, fk, m, D0, S0, n', S, top, rfl, D4, o1, o2, hk64, b1, b2, o3, hn, hm, o4, fun fk' H5 D5 s5 => ?_⟩
          exact ⟨_, _, _, fk', r3, rfl, D5, s4.trans s5, b3.stay (s5.tups D4.fill.d True.intro), o5, eq1, eq2, by rw [← il]; show i + 1 + lenR r3 = i + (lenR r3 + 1); omega⟩
        | lap x m b r3 =>
          obtain ⟨n1', lap⟩ := f2'
          obtain ⟨y', t', pm, pb, ptt, qb, e1, c1, c2, c3, c4, c5, c6⟩ := st
          obtain ⟨z1, z2⟩ := List.cons.inj e1
          subst z1 z2
          have i50 : i < 50 := by
            have : i + (lenR r3 + 1) = lenR r := il
            omega
          have sy : StsAt K H4 (.lap x m b .nil) [y] := ⟨y, [], pm, pb, ptt, qb, rfl, c1, c2, c3, c4, c5, rfl⟩
          refine ⟨_, rfl, y, _, _, _, rfl, rfl, c1, atI_nat (j := 0) rfl, rfl, _, rfl, ite2 (fun c => absurd c (by decide)) (fun c => ?_)⟩
          refine ⟨_, rfl, y, _, _, _, rfl, rfl, c1, atI_nat (j := 0) rfl, rfl, _, rfl, ite2 (fun _ => ?_) (fun c => absurd (by decide) c)⟩
          have t4 : TupsStay H H4 := t12.trans (s4.tups D2.fill.d True.intro)
          have u4 : Same H H4 := s1.trans (Else.fresh n2 s2 s4)
          refine ⟨_, rfl, _, rfl, (by show 1 ≤ sizeLine; decide), fun p1 n1 => ⟨place, p1, placeV pl, [.int (i : Nat)], rfl, rfl, SqT.keeps sp (t4.trans (TupsStay.same (same_upd n1))), SqT.of upd_same, by rw [sizeLine_eq]; show (pl.map _).length + 1 ≤ _; rw [List.length_map]; omega, fun pp H5 sp5 s5 => ?_⟩⟩
          have u1 := same_upd (o := .tup [.int (i : Nat)]) n1
          have u45 := u1.trans s5
          have sp5 : SqT K H5 pp (placeV (pl ++ [i])) := by
            show SqT K H5 pp ((pl ++ [i]).map _)
            rw [List.map_append]
            exact sp5
          have pl100 : ∀ n ∈ pl ++ [i], n < 100 := fun n hn => by
            rcases List.mem_append.mp hn with z | z
            · exact p100 n z
            · rw [List.mem_singleton.mp z]; omega
          have pl20 : (pl ++ [i]).length ≤ 20 := by rw [List.length_append]; show pl.length + 1 ≤ 20; omega
          have t45 := TupsStay.same u45
          refine ⟨_, rfl, y, _, _, _, rfl, rfl, SqT.keeps c1 t45, atI_nat (j := 3) rfl, _, rfl, y, x, m, b, ns, rfl, sy.stay t45, lap.ok, by omega, fun l2 q2 H6 up mem el6 s6 n6 => ?_⟩
          have nd2 : l2.Nodup := up.imp fun {a b} h (e : a = b) => slt_irrefl a (by rw [← e] at h; exact h)
          have lk2 : l2.length < 64 := Nat.lt_of_le_of_lt (nodup_len nd2 fun y hy => namesR_in lap.ok y ((mem y).mp hy)) (by omega)
          obtain ⟨rf2, ev2⟩ := lap.two l2 up mem
          have u46 := u45.trans s6
          have t46 := TupsStay.same u46
          have sp6 := SqT.keeps sp5 (TupsStay.same s6)
          refine ⟨_, rfl, n1', pb, q2, pp, b, pl ++ [i], l2, ns, ms, rfl, ⟨ptt, qb, SqT.keeps c3 t46, SqT.keeps c4 t46, c5.stay t46⟩, el6, nd2, lk2, sp6, pl100, pl20, lap.le, hn, hm, rf2.u, fun _ tt cnt dT fk7 H7 st7 SC7 DT7 s7 => ?_, fun j ej => absurd (lap.no.lapI.symm.trans ej) (by intro z; cases z)⟩
          have u47 := u46.trans s7
          have hx2 : x ∈ l2 := (mem x).mpr List.mem_cons_self
          refine ⟨tt, _, rfl, st7, rfl, _, _, rfl, _, _, rfl, rfl, ?_⟩
          refine ⟨_, rfl, _, rfl, y, _, _, _, rfl, rfl, SqT.keeps c1 (TupsStay.same u47), atI_nat (j := 1) rfl, _, rfl, _, rfl, _, rfl, _, rfl, x, .ref cnt, .ref d, dT, pp, l2, _, fk7, pl ++ [i], rfl, DT7, hx2, ev2, SqT.keeps sp6 (TupsStay.same s7), pl100, pl20, fun d8 p8 H8 s8 => qe i eq2.symm d8 p8 H8 ((u4.trans u47).trans s8)⟩
    · obtain ⟨v5, v6, G, fk, r2, rfl, D3, s3, st, f2', eq1, eq2, il⟩ := h3
      rw [List.length_map, List.drop_length] at st
      have z : r2 = .nil := by
        cases r2 with
        | nil => rfl
        | set x e r => obtain ⟨_, _, _, z, _⟩ := st; cases z
        | say e r => obtain ⟨_, _, _, z, _⟩ := st; cases z
        | lap x m b r => obtain ⟨_, _, _, _, _, _, z, _⟩ := st; cases z
      subst z
      have en : lapI r 0 = none := eq2.symm
      have eG : G = rowG ks r nameM := eq1 en
      subst eG
      have S3 := (SC.same s2).else s3 D2.fill.d
      refine ⟨_, rfl, _, rfl, (by show 2 ≤ sizeLine; decide), fun t nt => ?_⟩
      have u := same_upd (o := .tup [.ref pc, .ref d]) nt
      exact q en t pc d fk _ (SqT.of upd_same) (S3.same u) (D3.same u) ((s1.trans (Else.fresh n2 s2 s3)).trans u)
theorem ok_counts {Lp B D N U : Addr} (X : ExTxt K mg Lp B D N U) {f : Addr} {fd : FuncData} (T : Txt K mg C) (F : DefAt K mg "_counted" "_counted" s_counted ["row", "names", "place"] f fd) : FnOk P w K mg base (L2.CX P w) 15 f fd ["row", "names", "place"] (spCount K w C U 1) :=
  ok_counted X T F (by decide) (fn_drop (ok_counted X T F (n := 0) (k := 13) (by decide) ⟨fun _ _ _ _ h => absurd h.1 (by decide), fun _ _ _ _ _ _ _ _ _ _ _ _ _ h => absurd h.1 (by decide)⟩))
def spCountOf (K : PySem.W.Frag) (U : Addr) : Sp := fun vs H Q E => ∃ (p : Addr) (r : Rw) (ns ms : List Str) (i : Nat), vs = [.ref p] ∧ RwAt K H p r ∧ RwOk ns r 3 ∧ lenR r ≤ 50 ∧ ns.length < 32 ∧ ms.length < 32 ∧ (∀ ks : List Str, ks.Pairwise slt → (∀ y, y ∈ ks ↔ y ∈ namesR r) → RowFitU 1 ns ms ks r nameM) ∧ lapI r 0 = some i ∧ RaisedAt K H U E [i]
theorem ok_count_ofU {Lp B D N U : Addr} (X : ExTxt K mg Lp B D N U) {f : Addr} {fd : FuncData} (T : Txt K mg C) (F : DefAt K mg "count_of" "count_of" s_count_of ["program"] f fd) : FnOk P w K mg base (L2.CX P w) 16 f fd ["program"] (spCountOf K U) := by
  obtain ⟨f1, fd1, D_counted⟩ := T.d_counted
  have G_counted : FnOk P w K mg base (L2.CX P w) 15 f1 fd1 ["row", "names", "place"] (spCount K w C U 1) := ok_counts X T D_counted
  obtain ⟨f2, fd2, D_names_of⟩ := T.d_names_of
  have G_names_of : FnOk P w K mg base CX0 11 f2 fd2 ["program"] (spNamesOf K) := ok_names_of T D_names_of
  refine F.F.okX sc_count_of (fun vs H Q E h => ?_) (fun cdv A outer z H vs Q E hr h => ?_)
  · obtain ⟨p, r, ns, ms, i, rfl, _⟩ := h
    rfl
  · obtain ⟨p, r, ns, ms, i, rfl, ar, ok, l50, hn, hm, ff, li, qe⟩ := h
    refine ⟨_, (pss_cons (ps_asg (pe_callS G_counted (hr.mono (by decide)) (by rfl) D_counted.g D_counted.F.kp D_counted.b (fun σ => passAt (takes_of rfl rfl rfl rfl) σ) (pa_cons (pv 0) (pa_cons (pe_call G_names_of (hr.mono (by decide)) (by rfl) D_names_of.g D_names_of.F.kp D_names_of.b .nil pass0 (pa_cons (pv 0) pa_nil)) (pa_cons (pe_tup pa_nil) pa_nil)))) (pg_tup (by rfl) (pgs_cons (pg_name (i := 1) sc_count_of.nd rfl (.inl rfl)) (pgs_cons (pg_name (i := 2) sc_count_of.nd rfl (.inl rfl)) pgs_nil))))
      (pss_one (ps_ret (pv 1)))), ?_⟩
    refine ⟨_, rfl, _, rfl, p, r, ns, rfl, ar, ok, by omega, fun l q H1 up mem el s1 n1 => ?_⟩
    have nd : l.Nodup := up.imp fun {a b} h (e : a = b) => slt_irrefl a (by rw [← e] at h; exact h)
    have lk : l.length < 64 := Nat.lt_of_le_of_lt (nodup_len nd fun y hy => namesR_in ok y ((mem y).mp hy)) (by omega)
    refine ⟨(by show 0 ≤ sizeLine; decide), fun pp np => ?_⟩
    have u := same_upd (o := .tup []) np
    have u1 := s1.trans u
    exact ⟨p, q, pp, r, [], l, ns, ms, rfl, ar.stay (TupsStay.same u1), u _ _ el, nd, lk, SqT.of upd_same, (fun _ h => (nomatch h)), by decide, l50, hn, hm, ff l up mem, fun e => absurd (li.symm.trans e) (by intro z; cases z), fun j ej d2 p2 H2 s2 => by
      obtain rfl : i = j := Option.some.inj (li.symm.trans ej)
      exact qe d2 p2 H2 (u1.trans s2)⟩
end
/-! ### isinstance and fields of a caught exception, whichever it is -/
def rIsX (K : PySem.W.Frag) (a : Addr) (cls : Value) (d : Option Addr) : List V → Hp → VK → Prop := fun xs H Q => ∃ (D : Addr) (c : V) (cv : Value) (b : Bool), cls = .ref D ∧ ExcC K D ∧ (d = none ∨ ∃ (dd : Addr) (fs : List (Str × V)), d = some dd ∧ H dd = some (.xd fs)) ∧
  xs = [.ref a, c] ∧ (∀ u, RelV c u → u = cv) ∧ PySem.W.kitOne K (.ref D) cv = some b ∧ Q (.bl b) H
theorem call_isX {X : Cx} {a : Addr} {oe : Obj} {pn : List (Addr × Obj)} {cls : Value} {d : Option Addr} (hz : Zc cls d oe) (hf : ∃ vs, oe.data = .fields vs) : CallR (X.suite a ((a, oe) :: pn)) (.builtin "isinstance") (rIsX X.K a cls d) := by
  intro pins s σ H xs us Q I r h
  obtain ⟨D, c, cv, b, rfl, E, hd, rfl, hcv, e, q⟩ := h
  cases r with
  | cons rx rr =>
    cases rr with
    | @cons _ uu _ _ rt rr =>
      cases rr
      cases rx
      obtain rfl : uu = cv := hcv _ rt
      have hp := (I.pin (a, oe) (List.mem_append_left _ List.mem_cons_self)).1
      obtain ⟨vs, hv⟩ := hf
      obtain ⟨z1, z2⟩ := hz
      have nc : PySem.W.notCls oe = true := by
        unfold PySem.W.notCls
        rw [hv] <;> rfl
      have go : ∀ {od : Option Obj}, PySem.W.InstAt s.heap a oe D od → wpAny (model X.prog X.w) (X.suite a ((a, oe) :: pn)).A (call (.builtin "isinstance") [.ref a, uu]) (EP (X.suite a ((a, oe) :: pn)) pins σ Q) (X.suite a ((a, oe) :: pn)).xe s := fun J =>
        PySem.W.kia_one (PySem.W.kitx_exc (by obtain ⟨cd, hc, _⟩ := PySem.W.any_some E.hd; rw [hc]; rfl) E.hg E.hk E.hs E.ha E.hn E.ht E.hm) I.kIn J e (fun z => (nomatch z)) fun tk => ⟨.bl b, H, I.kept (t' := tk) fun _ _ z => z, rfl, q⟩
      rcases hd with rfl | ⟨dd, fs, rfl, ed⟩
      · exact go (od := none) ⟨hp, z1, nc, by rw [z2]; trivial⟩
      · have hx : ObjOk X.prog X.w H s.heap dd (.xd fs) := I.hok dd _ ed
        obtain ⟨mA, hns, hr⟩ := hx
        obtain ⟨od, ho, hl⟩ := lookIn_ns hns
        exact go (od := some od) ⟨hp, z1, nc, by rw [z2]; exact ho⟩
def tXfX (K : PySem.W.Frag) (a : Addr) (cls : Value) (d : Option Addr) (n : Str) (i : Nat) : L2.TE := fun σ H Q => σ[i]? = some (some (.ref a)) ∧ ∃ (C dd : Addr) (fs : List (Str × V)) (v : V), cls = .ref C ∧ XfC K C ∧ PySem.W.findIn K (.ref C) n = some none ∧ d = some dd ∧ H dd = some (.xd fs) ∧ fs.lookup n = some v ∧ Q v H
theorem pe_xfX {X : Cx} {a : Addr} {oe : Obj} {cls : Value} {d : Option Addr} {pn : List (Addr × Obj)} {e : Expr} {i : Nat} {pos : Pos} {n : Str} (hz : Zc cls d oe) (hf : ∃ vs, oe.data = .fields vs) (he : PE (X.suite a ((a, oe) :: pn)) e (tVar i)) (hb : attributeBase e n X.env (eval e X.env) = eval e X.env := by rfl) :
    PE (X.suite a ((a, oe) :: pn)) (.Attribute e n pos) (tXfX X.K a cls d n i) := by
  refine ⟨fun pins s σ H Q I h => ?_⟩
  obtain ⟨e1, C, dd, fs, v, e2, T, hno, e3, e4, e5, q⟩ := h
  exact (pe_xf T hno hz hf he hb).run pins s σ H Q I ⟨_, e1, rfl, e2, dd, fs, v, e3, e4, e5, q⟩
def runV : Rw → (Str → Int) → Str → Int
  | .nil, v => v
  | .set x e r, v => runV r (setV v x (valE v e))
  | .say _ r, v => runV r v
  | .lap _ _ _ r, v => runV r v
theorem vB_ge {Vn : Nat} (h : 2 ≤ Vn) (d : Nat) : Vn ≤ vB Vn d := vB_up (d := 0) h (Nat.zero_le d)
/-! ### equal sums have equal parts -/
theorem szM_sub {D : Nat} : ∀ {R N : Poly}, (R.map (·.1)).Nodup → (∀ x ∈ R, x ∈ N) → szM D R ≤ szM D N
  | [], N, _, _ => by rw [szM_nil]; exact Nat.zero_le _
  | x :: r, N, hn, h => by
    obtain ⟨A, B, e⟩ := List.append_of_mem (h x List.mem_cons_self)
    subst e
    rw [List.map_cons, List.nodup_cons] at hn
    have s : ∀ y ∈ r, y ∈ A ++ B := fun y hy => by
      have := h y (List.mem_cons_of_mem _ hy)
      rw [List.mem_append, List.mem_cons] at this
      rcases this with z | z | z
      · exact List.mem_append_left _ z
      · exact absurd (List.mem_map.mpr ⟨y, hy, by rw [z]⟩) hn.1
      · exact List.mem_append_right _ z
    have := szM_sub (D := D) hn.2 s
    rw [szM_append] at this
    rw [szM_cons, szM_append, szM_cons]
    omega
theorem eqv_sub {A B : Pr → Prop} {R N : Poly} (g : Good A R) (h : Good B N) (e : Eqv R N) : ∀ x ∈ R, x ∈ N := fun x hx => by
  have c1 : coef R x.1 = x.2 := by
    unfold coef
    rw [lookM_of g.nd (k := x.1) (r := x.2) hx]
    rfl
  have c2 : coef N x.1 = x.2 := by rw [coef_lin h.nd, ← e, ← coef_lin g.nd, c1]
  unfold coef at c2
  cases l : lookM N x.1 with
  | none =>
    rw [l] at c2
    exact absurd c2.symm (g.nz x hx)
  | some r =>
    rw [l] at c2
    have c2 : r = x.2 := c2
    have := lookM_mem l
    rw [c2] at this
    exact this
theorem Fit.eqv {A B : Pr → Prop} {n D S : Nat} {R N : Poly} (h : Fit A n D S N) (g : Good B R) (e : Eqv R N) : Fit A n D S R := by
  have s := eqv_sub g h.good e
  refine ⟨⟨g.nd, g.nz, fun x hx => h.good.pr x (s x hx)⟩, ?_, fun x hx => h.wh x (s x hx), Nat.le_trans (szM_sub g.nd s) h.sz⟩
  have := nodup_len (m := N.map (·.1)) g.nd fun k hk => by
    obtain ⟨x, hx, ex⟩ := List.mem_map.mp hk
    rw [← ex]
    exact List.mem_map.mpr ⟨x, s x hx, rfl⟩
  rw [List.length_map, List.length_map] at this
  exact Nat.le_trans this h.len
/-- a told expression, of sums -/
def polyS (G : Str → Poly) : Ex → Poly
  | .num n => addM [] [] (n : Rat)
  | .name x => G x
  | .add a b => sumM (polyS G a) (polyS G b)
  | .mul a b => mulM (polyS G a) (polyS G b)
theorem powM_one {N : Poly} (n : (N.map (·.1)).Nodup) : Eqv (powM N 1) N := fun f => by
  show lin f (mulM (powM N 0) N) = _
  rw [((powM_zero N).mul (Eqv.refl N)) f, one_mul' N f]
theorem ExOk.le {ns : List Str} : ∀ {t : Ex} {d : Nat}, ExOk ns d t → (∀ x ∈ namesE t, x ∈ ns)
  | .num _, _, _ => fun _ h => nomatch h
  | .name x, _, h => fun y hy => by rw [show y = x by simpa [namesE] using hy]; exact h.of_name
  | .add _ _, 0, h => False.elim h
  | .mul _ _, 0, h => False.elim h
  | .add a b, _ + 1, ⟨ha, hb⟩ => fun x hx => (List.mem_append.mp hx).elim (ExOk.le ha x) (ExOk.le hb x)
  | .mul a b, _ + 1, ⟨ha, hb⟩ => fun x hx => (List.mem_append.mp hx).elim (ExOk.le ha x) (ExOk.le hb x)
theorem ExOk.into {ns ms : List Str} : ∀ {t : Ex} {d : Nat}, ExOk ns d t → (∀ x ∈ namesE t, x ∈ ms) → ExOk ms d t
  | .num _, _, h, _ => ExOk.num h.of_num _
  | .name x, _, _, g => ExOk.name (g x (by simp [namesE])) _
  | .add _ _, 0, h, _ => False.elim h
  | .mul _ _, 0, h, _ => False.elim h
  | .add a b, _ + 1, ⟨ha, hb⟩, g => ⟨ExOk.into ha fun x hx => g x (List.mem_append_left _ hx), ExOk.into hb fun x hx => g x (List.mem_append_right _ hx)⟩
  | .mul a b, _ + 1, ⟨ha, hb⟩, g => ⟨ExOk.into ha fun x hx => g x (List.mem_append_left _ hx), ExOk.into hb fun x hx => g x (List.mem_append_right _ hx)⟩
theorem nd_polyS {ks : List Str} {G : Str → Poly} (hG : ∀ x ∈ ks, ((G x).map (·.1)).Nodup) : ∀ {t : Ex} {d : Nat}, ExOk ks d t → ((polyS G t).map (·.1)).Nodup
  | .num n, d, h => (fit_ex (ns := ks) (ExOk.num h.of_num 0)).nd
  | .name x, d, h => hG x h.of_name
  | .add _ _, 0, h => False.elim h
  | .mul _ _, 0, h => False.elim h
  | .add a b, _ + 1, ⟨ha, hb⟩ => nodup_sum _ (nd_polyS hG ha)
  | .mul a b, _ + 1, ⟨ha, hb⟩ => nodup_sum _ List.nodup_nil
theorem put_polyS {ns ks : List Str} {G : Str → Poly} (hG : ∀ x ∈ ks, AllP Canon (G x) ∧ ((G x).map (·.1)).Nodup) : ∀ {t : Ex} {d : Nat}, ExOk ks d t → Eqv (putInM (onK ks G) (polyE t)) (polyS G t) := by
  have hF : CanF (onK ks G) := fun x N e => by
    by_cases c : x ∈ ks
    · rw [onK_in c] at e
      rw [← Option.some.inj e]
      exact (hG x c).1
    · rw [onK_out c] at e
      cases e
  intro t
  induction t with
  | num n =>
    intro d h f
    rw [lin_putIn hF (fit_ex (ns := ks) (ExOk.num h.of_num 0)).can]
    show lin _ (addM [] [] (n : Rat)) = lin f (addM [] [] (n : Rat))
    rw [numberM, numberM]
    show (n : Rat) * lin f [([], 1)] = _
    rw [lin_cons, lin_nil]
    grind
  | name x =>
    intro d h f
    have hx := h.of_name
    rw [lin_putIn hF (fit_ex (ns := ks) (ExOk.name hx 0)).can]
    show lin _ [([(x, 1)], 1)] = lin f (G x)
    rw [lin_cons, lin_nil]
    show 1 * lin f (mulM (termF (onK ks G) (x, 1)) [([], 1)]) + 0 = _
    have e1 : termF (onK ks G) (x, 1) = powM (G x) 1 := by
      unfold termF
      rw [onK_in hx]
      rfl
    rw [e1, mul_one' ((hG x hx).1.pow Canon.nil CanonJ 1) f, powM_one (hG x hx).2 f]
    grind
  | add a b iha ihb =>
    intro d h f
    cases d with
    | zero => exact False.elim h
    | succ d =>
      obtain ⟨ha, hb⟩ := h
      show lin f (putInM _ (sumM (polyE a) (polyE b))) = lin f (sumM (polyS G a) (polyS G b))
      rw [put_add hF (fit_ex ha).nd (fit_ex ha).can (fit_ex hb).can, iha ha f, ihb hb f]
      rw [lin_sumM f _ (nd_polyS (fun x hx => (hG x hx).2) ha)]
  | mul a b iha ihb =>
    intro d h f
    cases d with
    | zero => exact False.elim h
    | succ d =>
      obtain ⟨ha, hb⟩ := h
      show lin f (putInM _ (mulM (polyE a) (polyE b))) = lin f (mulM (polyS G a) (polyS G b))
      rw [put_mul hF (fit_ex ha).can (fit_ex hb).can f, (iha ha).mul (ihb hb) f]

/-- how many parts, the crude way -/
def vP (n : Nat) : Nat → Nat
  | 0 => n
  | d + 1 => max (vP n d + vP n d) (vP n d * vP n d)
theorem vP_one {n : Nat} (h : 1 ≤ n) : ∀ d, 1 ≤ vP n d
  | 0 => h
  | d + 1 => Nat.le_trans (vP_one h d) (Nat.le_trans (Nat.le_add_right _ _) (Nat.le_max_left _ _))
theorem vP_up {n d : Nat} (h : 1 ≤ n) : n ≤ vP n d := by
  induction d with
  | zero => exact Nat.le_refl _
  | succ d ih => exact Nat.le_trans ih (Nat.le_trans (Nat.le_add_right _ _) (Nat.le_max_left _ _))
theorem fit_polyS {ns ks : List Str} {G : Str → Poly} {n S : Nat} (hn : 1 ≤ n) (hS : 1000 ≤ S) (hG : ∀ x ∈ ks, Fit (Of ns) n 1 S (G x)) : ∀ {t : Ex} {d : Nat}, ExOk ks d t → Fit (Of ns) (vP n d) 1 (vB S d) (polyS G t)
  | .num m, d, h => by
    have hm := h.of_num
    exact (Fit.number m).mono (vP_one hn d) (Nat.le_trans (by omega : m.natAbs ≤ S) (vB_ge (by omega) d))
  | .name x, d, h => (hG x h.of_name).mono (vP_up hn) (vB_ge (by omega) d)
  | .add _ _, 0, h => False.elim h
  | .mul _ _, 0, h => False.elim h
  | .add a b, d + 1, ⟨ha, hb⟩ => ((fit_polyS hn hS hG ha).plus (fit_polyS hn hS hG hb)).mono (Nat.le_max_left _ _) (add_le_sq (vB_two (by omega) d))
  | .mul a b, d + 1, ⟨ha, hb⟩ => ((fit_polyS hn hS hG ha).mul (fit_polyS hn hS hG hb) fun _ _ => Of.join).mono (Nat.le_max_right _ _) (Nat.le_refl _)
theorem lo_polyS {ks : List Str} {G : Str → Poly} {g : Nat} (hG : ∀ x ∈ ks, AllP (Lo g) (G x)) : ∀ {t : Ex} {d : Nat}, ExOk ks d t → AllP (Lo (g * 2 ^ d)) (polyS G t)
  | .num n, d, h => AllP.mem_add AllP.nil ⟨Canon.nil, Nat.zero_le _⟩ _
  | .name x, d, h => (hG x h.of_name).imp fun p hp => hp.up (Nat.le_mul_of_pos_right _ (Nat.two_pow_pos d))
  | .add _ _, 0, h => False.elim h
  | .mul _ _, 0, h => False.elim h
  | .add a b, d + 1, ⟨ha, hb⟩ => by
    have l : g * 2 ^ d ≤ g * 2 ^ (d + 1) := Nat.mul_le_mul_left _ (Nat.pow_le_pow_right (by decide) (Nat.le_succ d))
    exact AllP.sum _ ((lo_polyS hG ha).imp fun p hp => hp.up l) ((lo_polyS hG hb).imp fun p hp => hp.up l)
  | .mul a b, d + 1, ⟨ha, hb⟩ => by
    have l : g * 2 ^ (d + 1) = g * 2 ^ d + g * 2 ^ d := by rw [Nat.pow_succ, ← Nat.mul_assoc]; omega
    rw [l]
    exact AllP.mul (lo_polyS hG ha) (lo_polyS hG hb) fun _ _ => Lo.join
/-- the square of a sum: each pair once -/
def tri : List Pr → List Pr
  | [] => []
  | p :: r => ((p :: r).map (joinP p)) ++ tri r
theorem tri_len : ∀ l : List Pr, 2 * (tri l).length = l.length * (l.length + 1)
  | [] => rfl
  | p :: r => by
    show 2 * ((((p :: r).map (joinP p)) ++ tri r).length) = _
    rw [List.length_append, List.length_map, List.length_cons, Nat.mul_add, tri_len r]
    grind
theorem tri_mem : ∀ {l : List Pr} {p q : Pr}, p ∈ l → q ∈ l → joinP p q ∈ tri l ∨ joinP q p ∈ tri l
  | a :: r, p, q, hp, hq => by
    rcases List.mem_cons.mp hp with rfl | hp'
    · exact .inl (List.mem_append_left _ (List.mem_map.mpr ⟨q, hq, rfl⟩))
    · rcases List.mem_cons.mp hq with rfl | hq'
      · exact .inr (List.mem_append_left _ (List.mem_map.mpr ⟨p, hp, rfl⟩))
      · exact (tri_mem hp' hq').imp (List.mem_append_right _) (List.mem_append_right _)
theorem sq_len {ns : List Str} {n S : Nat} {M : Poly} (h : Fit (Of ns) n 1 S M) : 2 * (mulM M M).length ≤ n * (n + 1) := by
  have a : AllP (fun p => p ∈ tri (M.map (·.1))) (mulM M M) := by
    have k : AllP (fun p => p ∈ M.map (·.1) ∧ Canon p) M := fun x hx => ⟨List.mem_map.mpr ⟨x, hx, rfl⟩, h.can x hx⟩
    exact AllP.mul k k fun p q hp hq => (tri_mem hp.1 hq.1).elim id fun z => by rw [join_comm hp.2 hq.2]; exact z
  have b := nodup_len (l := (mulM M M).map (·.1)) (m := tri (M.map (·.1))) (nodup_sum (M := []) (crossM M M) List.nodup_nil) fun k hk => by
    obtain ⟨x, hx, ex⟩ := List.mem_map.mp hk
    rw [← ex]
    exact a x hx
  have c := tri_len (M.map (·.1))
  rw [List.length_map] at b c
  have d : M.length * (M.length + 1) ≤ n * (n + 1) := Nat.mul_le_mul h.len (Nat.succ_le_succ h.len)
  omega
/-- a statement of depth one, where one name alone is that great -/
theorem len_one {ns ks : List Str} {G : Str → Poly} {n1 n0 S T : Nat} {x0 : Str} (h1 : 1 ≤ n0) (h0 : n0 ≤ n1) (hS : 1000 ≤ S) (hG : ∀ x ∈ ks, Fit (Of ns) n1 1 S (G x)) (hx : ∀ y ∈ ks, y ≠ x0 → (G y).length ≤ n0) (t1 : n1 + n1 ≤ T) (t2 : n1 * n0 ≤ T) (t3 : n1 * (n1 + 1) ≤ 2 * T) {t : Ex} (ok : ExOk ks 1 t) : (polyS G t).length ≤ T := by
  have f0 : ∀ {u : Ex}, ExOk ks 0 u → (polyS G u).length ≤ n1 := fun {u} h => (fit_polyS (by omega) hS hG h).len
  have fm : ∀ {a b : Ex}, ExOk ks 0 a → ExOk ks 0 b → ∀ {x y : Nat}, (polyS G a).length ≤ x → (polyS G b).length ≤ y → (mulM (polyS G a) (polyS G b)).length ≤ x * y := fun {a b} ha hb {x y} lx ly => by
    have A := fit_polyS (by omega : 1 ≤ n1) hS hG ha
    have B := fit_polyS (by omega : 1 ≤ n1) hS hG hb
    have A' : Fit (Of ns) x 1 (vB S 0) (polyS G a) := ⟨A.good, lx, A.wh, A.sz⟩
    have B' : Fit (Of ns) y 1 (vB S 0) (polyS G b) := ⟨B.good, ly, B.wh, B.sz⟩
    exact (A'.mul B' fun _ _ => Of.join).len
  have one : ∀ m : Int, (polyS G (.num m)).length ≤ 1 := fun m => (Fit.number (ns := ns) m).len
  cases t with
  | num m => exact Nat.le_trans (one m) (by omega)
  | name x => exact Nat.le_trans (f0 (ExOk.name ok.of_name 0)) (by omega)
  | add a b =>
    obtain ⟨ha, hb⟩ := ok
    have := ((fit_polyS (by omega : 1 ≤ n1) hS hG ha).plus (fit_polyS (by omega : 1 ≤ n1) hS hG hb)).len
    exact Nat.le_trans this t1
  | mul a b =>
    obtain ⟨ha, hb⟩ := ok
    show (mulM (polyS G a) (polyS G b)).length ≤ T
    cases a with
    | num m => exact Nat.le_trans (fm ha hb (one m) (f0 hb)) (by omega)
    | name x =>
      cases b with
      | num m => exact Nat.le_trans (fm ha hb (f0 ha) (one m)) (by omega)
      | name y =>
        have mx := ha.of_name
        have my := hb.of_name
        by_cases e : x = y
        · subst e
          have := sq_len (hG x mx)
          show (mulM (G x) (G x)).length ≤ T
          omega
        · by_cases e2 : y = x0
          · have e3 : x ≠ x0 := fun z => e (by rw [z, e2])
            exact Nat.le_trans (fm ha hb (hx x mx e3) (f0 hb)) (by rw [Nat.mul_comm]; exact t2)
          · exact Nat.le_trans (fm ha hb (f0 ha) (hx y my e2)) t2
      | add _ _ => exact False.elim hb
      | mul _ _ => exact False.elim hb
    | add _ _ => exact False.elim ha
    | mul _ _ => exact False.elim ha
/-! ### statement by statement: how great the sums become -/
theorem lo_pow {g : Nat} {p : Pr} (h : Lo g p) (hg : g < 1000) : ∀ e ∈ p, -2 ^ 62 ≤ e.2 ∧ e.2 < 2 ^ 62 := fun e he => by
  have h1 := h.1.one e he
  have h2 : e.2.toNat ≤ degP p := by
    have : ∀ {q : Pr}, e ∈ q → e.2.toNat ≤ degP q := fun {q} hq => by
      induction q with
      | nil => cases hq
      | cons f r ih =>
        show e.2.toNat ≤ f.2.toNat + degP r
        rcases List.mem_cons.mp hq with z | z
        · subst z
          omega
        · have := ih z
          omega
    exact this he
  have h3 := h.2
  have : e.2 < 1000 := by omega
  exact ⟨by omega, by omega⟩
def dL (k : Nat) : Nat := if k = 0 then 2 else 1
def fL : Nat → Nat
  | 0 => 1
  | 1 => 4
  | 2 => 10
  | 3 => 55
  | 4 => 1540
  | _ => 1186570
def sL : Nat → Nat
  | 0 => 1000
  | k + 1 => vB (sL k) (dL k)
def gL : Nat → Nat
  | 0 => 1
  | k + 1 => gL k * 2 ^ dL k
theorem lv_num {k : Nat} (h : k ≤ 4) : (1 ≤ fL k ∧ 1000 ≤ sL k ∧ gL k ≤ 64) ∧ (1 ^ 2 ^ dL k < big ∧ sL k ^ 2 ^ dL k < big ∧ sE (dL k) * sL k ^ 2 ^ dL k < big) ∧ (fL k ^ 2 ^ dL k < sizeLine ∧ nE (dL k) * fL k ^ 2 ^ dL k < sizeLine) ∧ 2 ^ dL k < 900 ∧ fL k ≤ fL (k + 1) ∧ fL (k - 1) ≤ fL k := by
  match k, h with
  | 0, _ => decide +kernel
  | 1, _ => decide +kernel
  | 2, _ => decide +kernel
  | 3, _ => decide +kernel
  | 4, _ => decide +kernel
theorem tri_num {k : Nat} (h : k ≤ 4) (z : k ≠ 0) : 1 ≤ fL (k - 1) ∧ fL k + fL k ≤ fL (k + 1) ∧ fL k * fL (k - 1) ≤ fL (k + 1) ∧ fL k * (fL k + 1) ≤ 2 * fL (k + 1) := by
  match k, h, z with
  | 1, _, _ => decide +kernel
  | 2, _, _ => decide +kernel
  | 3, _, _ => decide +kernel
  | 4, _, _ => decide +kernel
structure Lv (ns ks : List Str) (k : Nat) (G : Str → Poly) : Prop where
  fit : ∀ x ∈ ks, Fit (Of ns) (fL k) 1 (sL k) (G x)
  two : ∃ x0, ∀ y ∈ ks, y ≠ x0 → (G y).length ≤ fL (k - 1)
  lo : ∀ x ∈ ks, AllP (Lo (gL k)) (G x)
theorem Lv.zero {ns ks : List Str} (h : ∀ x ∈ ks, x ∈ ns) : Lv ns ks 0 nameM :=
  ⟨fun x hx => (Fit.name (h x hx)).mono (Nat.le_refl _) (by decide), ⟨Str.ofString "", fun y _ _ => Nat.le_refl 1⟩, fun x hx => AllP.single ⟨canon_one (e := (x, 1)) (Int.le_refl 1), Nat.le_refl 1⟩⟩
theorem sL_up {k : Nat} (h : 1000 ≤ sL k) : sL k ≤ sL (k + 1) := vB_ge (by omega) _
theorem gL_up (k : Nat) : gL k ≤ gL (k + 1) := Nat.le_mul_of_pos_right _ (Nat.two_pow_pos _)
theorem Lv.up {ns ks : List Str} {k : Nat} {G : Str → Poly} (hk : k ≤ 4) (h : Lv ns ks k G) : Lv ns ks (k + 1) G := by
  obtain ⟨⟨n1, n2, n3⟩, _, _, _, n4, _⟩ := lv_num hk
  exact ⟨fun x hx => (h.fit x hx).mono n4 (sL_up n2), ⟨Str.ofString "", fun y hy _ => (h.fit y hy).len⟩, fun x hx => (h.lo x hx).imp fun p hp => hp.up (gL_up k)⟩
theorem Lv.step {ns ks : List Str} {k : Nat} {G : Str → Poly} (hk : k ≤ 4) (hns : ns.length < 32) (h : Lv ns ks k G) {x : Str} {t : Ex} (ok : ExOk ks (dL k) t) (okn : ExOk ns (dL k) t) :
    (∃ m D0 S0 n S top : Nat, InFit ns (onK ks G) (polyE t) m D0 S0 n S top) ∧ Lv ns ks (k + 1) (setG G x (putInM (onK ks G) (polyE t))) := by
  obtain ⟨⟨n1, n2, n3⟩, ⟨b1, b2, b3⟩, ⟨c1, c2⟩, d1, n4, n5⟩ := lv_num hk
  have I : InFit ns (onK ks G) (polyE t) (nE (dL k)) 1 (sE (dL k)) (fL k) (sL k) (2 ^ dL k) := by
    refine ⟨⟨fun y N e => ?_, n1, by omega, c1, b2, hns, d1⟩, fit_ex okn, by decide, by decide +kernel, b3, c2, fun y hy => (lo_ex okn y hy).2⟩
    by_cases c : y ∈ ks
    · rw [onK_in c] at e
      obtain rfl := Option.some.inj e
      exact ⟨h.fit y c, n1, by decide, by omega, b1, b2, c1, hns, fun z hz e he => (lo_pow (h.lo y c z hz) (by omega) e he).2⟩
    · rw [onK_out c] at e
      cases e
  refine ⟨⟨_, _, _, _, _, _, I⟩, ?_⟩
  have E : Eqv (putInM (onK ks G) (polyE t)) (polyS G t) := put_polyS (ns := ns) (fun y hy => ⟨(h.fit y hy).can, (h.fit y hy).nd⟩) ok
  have A := fit_polyS n1 n2 h.fit ok
  have len : (polyS G t).length ≤ fL (k + 1) := by
    by_cases z : k = 0
    · subst z
      exact Nat.le_trans A.len (by decide +kernel)
    · obtain ⟨x0, hx0⟩ := h.two
      have dk : dL k = 1 := if_neg z
      rw [dk] at ok
      have g0 := tri_num hk z
      exact len_one g0.1 n5 n2 h.fit hx0 g0.2.1 g0.2.2.1 g0.2.2.2 ok
  have R : Fit (Of ns) (fL (k + 1)) 1 (sL (k + 1)) (putInM (onK ks G) (polyE t)) := Fit.eqv ⟨A.good, len, A.wh, A.sz⟩ I.res.good E
  have Lr : AllP (Lo (gL (k + 1))) (putInM (onK ks G) (polyE t)) := fun y hy => lo_polyS h.lo ok y (eqv_sub I.res.good A.good E y hy)
  have U := h.up hk
  refine ⟨fun y hy => ?_, ⟨x, fun y hy n => ?_⟩, fun y hy => ?_⟩
  · unfold setG
    split
    · exact R
    · exact U.fit y hy
  · unfold setG
    rw [if_neg n]
    exact (h.fit y hy).len
  · unfold setG
    split
    · exact Lr
    · exact U.lo y hy
def RowD (ks : List Str) : Nat → Rw → Prop
  | _, .nil => True
  | k, .set x e r => x ∈ ks ∧ x.length < 100 ∧ ExOk ks (dL k) e ∧ RowD ks (k + 1) r
  | k, .say e r => ExOk ks 2 e ∧ RowD ks (k + 1) r
  | _, .lap _ _ _ _ => False
theorem no_hang {ns : List Str} {M : Poly} (hb : ∀ x ∈ ns, isBl x = false) (h : ∀ y ∈ M, Of ns y.1) : hangM M = false := by
  cases e : hangM M with
  | false => rfl
  | true =>
    obtain ⟨y, hy, f, hf, z⟩ := hangM_iff.mp e
    rw [hb _ ((h y hy).2 f hf)] at z
    cases z
theorem dL_le (k : Nat) : 1 ≤ dL k ∧ dL k ≤ 2 := by
  unfold dL
  split <;> omega
theorem row_fit {ns ks : List Str} (hns : ns.length < 32) (hks : ∀ x ∈ ks, x ∈ ns) (hb : ∀ x ∈ ns, isBl x = false) : ∀ {r : Rw} {k : Nat} {G : Str → Poly}, Lv ns ks k G → RowD ks k r → k + lenR r ≤ 5 → RowFit ns ns ks r G ∧ ∃ j, j ≤ 5 ∧ Lv ns ks j (rowG ks r G)
  | .nil, k, G, h, d, l => ⟨True.intro, k, by have : lenR .nil = 0 := rfl; omega, h⟩
  | .say e r, k, G, h, ⟨_, d⟩, l => by
    have l' : lenR (.say e r) = lenR r + 1 := rfl
    exact row_fit (r := r) hns hks hb (h.up (by omega)) d (by omega)
  | .set x e r, k, G, h, ⟨d1, d2, d3, d4⟩, l => by
    have l' : lenR (.set x e r) = lenR r + 1 := rfl
    have okn : ExOk ns (dL k) e := d3.sub hks
    obtain ⟨I, U⟩ := Lv.step (x := x) (by omega) hns h d3 okn
    have keep : keepM x (putInM (onK ks G) (polyE e)) = putInM (onK ks G) (polyE e) := by
      obtain ⟨m, D0, S0, n, S, top, J⟩ := I
      unfold keepM
      rw [no_hang hb J.res.good.pr]
      rfl
    rw [← keep] at U
    have rest := row_fit hns hks hb U d4 (by omega)
    exact ⟨⟨d1, d2, okn.ups (by have := dL_le k; omega), I, rest.1⟩, rest.2⟩
  | .lap _ _ _ _, _, _, _, d, _ => False.elim d
/-- .. and what they are worth -/
theorem row_ev {ns ks : List Str} (hns : ns.length < 32) (hks : ∀ x ∈ ks, x ∈ ns) (hb : ∀ x ∈ ns, isBl x = false) (v : Str → Int) : ∀ {r : Rw} {k : Nat} {G : Str → Poly} {v' : Str → Int}, Lv ns ks k G → RowD ks k r → k + lenR r ≤ 5 → (∀ x ∈ ks, evM v (G x) = (v' x : Rat)) → (∀ x, x ∉ ks → v' x = v x) → ∀ x ∈ ks, evM v (rowG ks r G x) = (runV r v' x : Rat)
  | .nil, _, _, _, _, _, _, q, _ => q
  | .say e r, k, G, v', h, ⟨_, d⟩, l, q, q2 => by
    have l' : lenR (.say e r) = lenR r + 1 := rfl
    exact row_ev (r := r) hns hks hb v (h.up (by omega)) d (by omega) q q2
  | .set x e r, k, G, v', h, ⟨d1, d2, d3, d4⟩, l, q, q2 => by
    have l' : lenR (.set x e r) = lenR r + 1 := rfl
    have okn : ExOk ns (dL k) e := d3.sub hks
    obtain ⟨I, U⟩ := Lv.step (x := x) (by omega) hns h d3 okn
    have keep : keepM x (putInM (onK ks G) (polyE e)) = putInM (onK ks G) (polyE e) := by
      obtain ⟨m, D0, S0, n, S, top, J⟩ := I
      unfold keepM
      rw [no_hang hb J.res.good.pr]
      rfl
    have hF : CanF (onK ks G) := fun y N e => by
      by_cases c : y ∈ ks
      · rw [onK_in c] at e
        rw [← Option.some.inj e]
        exact (h.fit y c).can
      · rw [onK_out c] at e
        cases e
    have ev : evM v (putInM (onK ks G) (polyE e)) = (valE v' e : Rat) := by
      rw [evM_put v v' hF (fun y hy => q2 y fun c => by rw [onK_in c] at hy; cases hy) (fun y N e => ?_) (fit_ex okn).can, ev_ex v' okn]
      by_cases c : y ∈ ks
      · rw [onK_in c] at e
        rw [← Option.some.inj e]
        exact q y c
      · rw [onK_out c] at e
        cases e
    rw [← keep] at U ev
    refine row_ev hns hks hb v (v' := setV v' x (valE v' e)) U d4 (by omega) (fun y hy => ?_) (fun y hy => ?_)
    · unfold setG setV
      split
      · exact ev
      · exact q y hy
    · unfold setV
      rw [if_neg fun z => hy (by rw [z]; exact d1)]
      exact q2 y hy
  | .lap _ _ _ _, _, _, _, _, d, _, _, _ => False.elim d
def vL : Nat → Nat
  | 0 => 1000000
  | k + 1 => vB (vL k) (dL k)
theorem names_bl {ns : List Str} (h : NamesOk ns) : ∀ x ∈ ns, isBl x = false := fun x hx => by
  cases e : isBl x with
  | false => rfl
  | true =>
    exfalso
    have l := (h.ok x hx).2.2
    unfold isBl at e
    have : (32 : Nat) ∈ x.cps.toList := by
      unfold Txt.startswith at e
      rw [Bool.and_eq_true] at e
      have e : (x.cps.extract 0 (0 + (Str.ofString "blurred ").length) == (Str.ofString "blurred ").cps) = true := e.2
      have e := eq_of_beq e
      have m : (32 : Nat) ∈ (x.cps.extract 0 (0 + (Str.ofString "blurred ").length)).toList := by
        rw [e]
        decide +kernel
      rw [Array.toList_extract] at m
      have m : (32 : Nat) ∈ x.cps.toList.take (Str.ofString "blurred ").length := by simpa using m
      exact List.mem_of_mem_take m
    have := l _ this
    unfold letterC at this
    omega
/-! ### the program of the law -/
theorem const_cases (m : Int) : polyE (.num m) = (if m = 0 then [] else [([], (m : Rat))]) := by
  show addM [] [] (m : Rat) = _
  unfold addM
  rw [lookM_nil]
  show (if (0 : Rat) + (m : Rat) = 0 then dropM [] [] else putM [] [] ((0 : Rat) + (m : Rat))) = _
  rw [Rat.zero_add]
  by_cases h : m = 0
  · rw [if_pos h, if_pos (by rw [h]; rfl)]
    rfl
  · rw [if_neg h, if_neg (fun z => h (by exact_mod_cast z))]
    rfl
theorem put_const (F : Str → Option Poly) (m : Int) : putInM F (polyE (.num m)) = polyE (.num m) := by
  rw [const_cases]
  split
  · rfl
  · rename_i h
    have e : polyE (.num m) = [([], (m : Rat))] := by rw [const_cases, if_neg h]
    exact e
theorem less_self (m : Int) : sumM (polyE (.num m)) (negM (polyE (.num m))) = [] := by
  rw [const_cases]
  split
  · rfl
  · show addM [([], (m : Rat))] [] (0 - (m : Rat)) = []
    unfold addM
    have e : (lookM [(([] : Pr), (m : Rat))] []).getD 0 = (m : Rat) := by rw [lookM_cons, if_pos rfl]; rfl
    rw [e, if_pos (by grind)]
    unfold dropM
    simp
theorem rest_const (x : Str) (m : Int) (F : Str → Option Poly) : restM x (polyE (.num m)) F = [] := by
  unfold restM
  rw [put_const, put_const, less_self]
theorem falls_const (x : Str) (m : Int) (F : Str → Option Poly) : fallsM x (polyE (.num m)) F = false := by
  unfold fallsM
  rw [rest_const]
  have e : sumM [] (negM oneM) = [([], -1)] := by
    show sumM [] (negM (polyE (.num 1))) = _
    rw [const_cases, if_neg (by decide)]
    decide +kernel
  rw [e]
  rfl
theorem eqM_name {M : Poly} {x : Str} (h : eqM M (nameM x) = true) : M = nameM x := by
  unfold eqM at h
  rw [Bool.and_eq_true, List.all_eq_true] at h
  obtain ⟨l, a⟩ := h
  have l : M.length = 1 := by
    have := eq_of_beq l
    exact this
  match M, l with
  | [y], _ =>
    have z := of_decide_eq_true (a y List.mem_cons_self)
    unfold nameM at z
    rw [lookM_cons] at z
    by_cases e : [(x, (1 : Int))] = y.1
    · rw [if_pos e] at z
      have z2 := Option.some.inj z
      show [y] = [([(x, 1)], 1)]
      rw [show y = (y.1, y.2) from rfl, ← e, ← z2]
    · rw [if_neg e] at z
      cases z
theorem ev_nm (v : Str → Int) (z : Str) : evM v (nameM z) = (v z : Rat) := by
  simp [nameM, lin, evalI]
  exact Rat.add_zero _
def b22 (x y : Str) : Rw := .set x (.add (.name x) (.name y)) .nil
def pr22 (x y : Str) (n m : Int) : Rw := .say (.num n) (.lap x (.num m) (b22 x y) .nil)
section
variable {nm : List Str} {x y : Str} {n m : Int}
structure In22 (nm : List Str) (x y : Str) (n m : Int) : Prop where
  no : NamesOk nm
  gx : x ∈ gsOf nm
  gy : y ∈ gsOf nm
  ne : x ≠ y
  hn : 0 ≤ n ∧ n < 1000
  hm : 0 ≤ m ∧ m < 1000
theorem gs_in {nm : List Str} {x : Str} (h : x ∈ gsOf nm) : x ∈ nm := by
  unfold gsOf at h
  rcases List.mem_append.mp h with z | z
  · exact List.mem_of_mem_take z
  · exact List.mem_of_mem_drop z
theorem In22.ok (h : In22 nm x y n m) : RwOk nm (pr22 x y n m) 3 :=
  ⟨ExOk.num h.hn _, gs_in h.gx, ExOk.num h.hm _, by decide, Nat.le_of_ble_eq_true rfl, ⟨gs_in h.gx, ⟨ExOk.name (gs_in h.gx) _, ExOk.name (gs_in h.gy) _⟩, True.intro⟩, True.intro⟩
theorem In22.lap (h : In22 nm x y n m) : RwOk nm (.lap x (.num m) (b22 x y) .nil) 3 := h.ok.2
theorem In22.tm (h : In22 nm x y n m) : RwT nm (pr22 x y n m) :=
  ⟨ExOk.num h.hn _, h.gx, ExOk.num h.hm _, ⟨.inl ⟨h.gx, grd_two h.gx h.gy⟩, .inl ⟨ExOk.name (gs_in h.gx) _, ExOk.name (gs_in h.gy) _⟩, True.intro⟩, True.intro⟩
theorem In22.prog (h : In22 nm x y n m) : isProg (dP (pr22 x y n m)) = true := acc_prog h.no h.ok h.tm (Nat.le_of_ble_eq_true rfl)
theorem lap_names {ks : List Str} (mem : ∀ z, z ∈ ks ↔ z ∈ namesR (.lap x (.num m) (b22 x y) .nil)) : (∀ z, z ∈ ks → z = x ∨ z = y) ∧ x ∈ ks ∧ y ∈ ks := by
  have e : namesR (.lap x (.num m) (b22 x y) .nil) = [x, x, x, y] := rfl
  rw [e] at mem
  refine ⟨fun z hz => ?_, (mem x).mpr (by simp), (mem y).mpr (by simp)⟩
  have := (mem z).mp hz
  simp only [List.mem_cons, List.not_mem_nil, or_false] at this
  rcases this with e | e | e | e
  · exact .inl e
  · exact .inl e
  · exact .inl e
  · exact .inr e
/-- a turn of it, as sums -/
theorem In22.turn (h : In22 nm x y n m) {ks : List Str} (hk : ∀ z, z ∈ ks → z = x ∨ z = y) (hx : x ∈ ks) (hy : y ∈ ks) :
    RowFit nm nm ks (b22 x y) nameM ∧ Lv nm ks 1 (rowG ks (b22 x y) nameM) ∧ eqM (rowG ks (b22 x y) nameM x) (nameM x) = false := by
  have h7 : nm.length < 32 := by rw [h.no.len]; decide
  have hks : ∀ z ∈ ks, z ∈ nm := fun z hz => by
    rcases hk z hz with e | e
    · rw [e]; exact gs_in h.gx
    · rw [e]; exact gs_in h.gy
  have hb := names_bl h.no
  have ex : ExOk ks (dL 0) (.add (.name x) (.name y)) := ⟨ExOk.name hx _, ExOk.name hy _⟩
  have exn : ExOk nm (dL 0) (.add (.name x) (.name y)) := ⟨ExOk.name (gs_in h.gx) _, ExOk.name (gs_in h.gy) _⟩
  have lx : x.length < 100 := by have := (h.no.ok x (gs_in h.gx)).2.1; omega
  have rd : RowD ks 0 (b22 x y) := ⟨hx, lx, ex, True.intro⟩
  have L0 : Lv nm ks 0 nameM := Lv.zero hks
  obtain ⟨I, U⟩ := Lv.step (x := x) (by decide) h7 L0 ex exn
  have keep : keepM x (putInM (onK ks nameM) (polyE (.add (.name x) (.name y)))) = putInM (onK ks nameM) (polyE (.add (.name x) (.name y))) := by
    obtain ⟨m, D0, S0, n, S, top, J⟩ := I
    unfold keepM
    rw [no_hang hb J.res.good.pr]
    rfl
  refine ⟨(row_fit h7 hks hb L0 rd (Nat.le_of_ble_eq_true rfl)).1, ?_, ?_⟩
  · show Lv nm ks 1 (setG nameM x (keepM x _))
    rw [keep]
    exact U
  · have ev := row_ev h7 hks hb (fun _ => 1) L0 rd (Nat.le_of_ble_eq_true rfl) (v' := fun _ => 1) (fun z hz => ev_nm _ z) (fun z hz => rfl) x hx
    cases e : eqM (rowG ks (b22 x y) nameM x) (nameM x) with
    | false => rfl
    | true =>
      rw [eqM_name e] at ev
      exfalso
      have e1 : runV (b22 x y) (fun _ => 1) x = 2 := by
        show (if x = x then _ else _) = _
        rw [if_pos rfl]
        rfl
      rw [e1] at ev
      have e2 : evM (fun _ => 1) (nameM x) = ((1 : Int) : Rat) := ev_nm _ x
      rw [e2] at ev
      exact absurd ev (by decide)
theorem fit_const {m : Int} (hm : 0 ≤ m ∧ m < 1000) (ns : List Str) : Fit (Of ns) (nE 0) 1 (sE 0) (polyE (.num m)) := fit_ex (ExOk.num hm 0)
theorem one_in {ns : List Str} (h7 : ns.length < 32) {x : Str} (hx : x ∈ ns) {m : Int} (hm : 0 ≤ m ∧ m < 1000) : InFit ns (F1 x (upM x)) (polyE (.num m)) (nE 0) 1 (sE 0) (nE 1) (sE 1) 1 where
  put := by
    refine ⟨fun z N e => ?_, by decide, by decide, by decide +kernel, by decide +kernel, h7, by decide⟩
    unfold F1 at e
    split at e
    · obtain rfl := Option.some.inj e
      have ok : ExOk ns 1 (.add (.name x) (.num 1)) := ⟨ExOk.name hx _, ExOk.num (by decide) _⟩
      exact ⟨fit_ex (d := 1) ok, by decide, by decide, by decide, by decide +kernel, by decide +kernel, by decide +kernel, h7, fun z hz e he => (lo_pow (lo_ex ok z hz) (by decide) e he).2⟩
    · cases e
  fit := fit_const hm ns
  d0 := by decide
  db := by decide +kernel
  sb := by decide +kernel
  mb := by decide +kernel
  dg := fun y hy => (lo_ex (ns := ns) (ExOk.num hm 0) y hy).2
theorem In22.falls (h : In22 nm x y n m) {ks : List Str} (mem : ∀ z, z ∈ ks ↔ z ∈ namesR (.lap x (.num m) (b22 x y) .nil)) : FallFit x (polyE (.num m)) (onK ks (rowG ks (b22 x y) nameM)) := by
  obtain ⟨hk, hx, hy⟩ := lap_names mem
  obtain ⟨_, L1, _⟩ := h.turn hk hx hy
  have h7 : nm.length < 32 := by rw [h.no.len]; decide
  obtain ⟨m2, D2, S2, n2, S3, t2, I⟩ := (Lv.step (x := x) (by decide) h7 L1 (ExOk.num h.hm _) (ExOk.num h.hm _)).1
  have fc := fit_const h.hm nm
  refine ⟨⟨nm, m2, D2, S2, n2, S3, t2, I⟩, ?_, ⟨nm, h7, fun y hy => ?_⟩, ?_, ?_⟩
  · rw [put_const, put_const]
    exact ⟨_, _, _, _, _, _, fc, fc, by decide, by decide +kernel, by decide +kernel, by decide +kernel⟩
  · rw [rest_const] at hy
    cases hy
  · rw [rest_const]
    exact ⟨_, 0, _, 1, 0, _, Fit.nil, fit_const (m := 1) (by decide) nm, by decide, by decide +kernel, by decide +kernel, by decide +kernel⟩
  · rw [rest_const]
    show (sumM [] (negM (polyE (.num 1)))).length < 1000000
    rw [const_cases, if_neg (by decide)]
    decide +kernel
theorem In22.laps (h : In22 nm x y n m) : LapsFit 1 nm nm (fun _ _ _ => false) (pr22 x y n m) := by
  have h7 : nm.length < 32 := by rw [h.no.len]; decide
  refine ⟨Nat.le_refl _, ⟨h.lap, ⟨nm, _, _, _, _, _, _, one_in h7 (gs_in h.gx) h.hm⟩, fun ks _ mem => ?_, fun ks _ mem => falls_const x m _, True.intro, Nat.le_of_ble_eq_true rfl⟩, True.intro⟩
  obtain ⟨hk, hx, hy⟩ := lap_names mem
  exact ⟨(h.turn hk hx hy).1, h.falls mem⟩
theorem In22.look (x y : Str) (n m : Int) : lookR (fun _ _ _ => false) (pr22 x y n m) 0 = some 1 := rfl
theorem In22.uneven (h : In22 nm x y n m) (ks : List Str) : RowFitU 1 nm nm ks (pr22 x y n m) nameM := by
  refine ⟨Nat.le_refl _, ⟨h.lap, fun ks _ mem => ?_, True.intro, Nat.le_of_ble_eq_true rfl⟩⟩
  obtain ⟨hk, hx, hy⟩ := lap_names mem
  obtain ⟨a, _, b⟩ := h.turn hk hx hy
  exact ⟨a, b⟩
theorem In22.dry (h : In22 nm x y n m) {i j : Int} (hi : 2 ≤ i) (hj : 0 ≤ j) : doR 1 (pr22 x y n m) [] 0 (s0R [(x, i), (y, j)]) = none := by
  have nx : ¬ y = x := fun z => h.ne z.symm
  have ex : expo [(x, i), (y, j)] x = i := by
    show (if x = x then i else 0) + ((if y = x then j else 0) + 0) = i
    rw [if_pos rfl, if_neg nx]
    omega
  have ey : expo [(x, i), (y, j)] y = j := by
    show (if x = y then i else 0) + ((if y = y then j else 0) + 0) = j
    rw [if_pos rfl, if_neg h.ne]
    omega
  show (match turnsR (doR 1 (b22 x y) [1] 0) 1 x 2 0 { v := expo [(x, i), (y, j)], told := [] ++ [n], turns := 0, ents := [] } with | none => none | some (s', c) => _) = none
  have e1 : turnsR (doR 1 (b22 x y) [1] 0) 1 x 2 0 { v := expo [(x, i), (y, j)], told := [] ++ [n], turns := 0, ents := [] } = none := by
    unfold turnsR
    rw [if_neg (by show ¬ expo [(x, i), (y, j)] x = 0; rw [ex]; omega), if_neg (by show ¬ 1 ≤ 0; decide)]
    have e2 : setV (setV (expo [(x, i), (y, j)]) x (expo [(x, i), (y, j)] x - 1)) x (valE (setV (expo [(x, i), (y, j)]) x (expo [(x, i), (y, j)] x - 1)) (.add (.name x) (.name y))) x = i - 1 + j := by
      show (if x = x then setV (expo [(x, i), (y, j)]) x (expo [(x, i), (y, j)] x - 1) x + setV (expo [(x, i), (y, j)]) x (expo [(x, i), (y, j)] x - 1) y else _) = _
      rw [if_pos rfl]
      show (if x = x then expo [(x, i), (y, j)] x - 1 else _) + (if y = x then _ else expo [(x, i), (y, j)] y) = _
      rw [if_pos rfl, if_neg nx, ex, ey]
    show turnsR (doR 1 (b22 x y) [1] 0) 1 x 1 1 { v := setV (setV (expo [(x, i), (y, j)]) x (expo [(x, i), (y, j)] x - 1)) x (valE (setV (expo [(x, i), (y, j)]) x (expo [(x, i), (y, j)] x - 1)) (.add (.name x) (.name y))), told := [] ++ [n], turns := 1, ents := [] } = none
    unfold turnsR
    rw [if_neg (by show ¬ setV _ _ _ _ = 0; rw [e2]; omega), if_pos (by show 1 ≤ 1; decide)]
  rw [e1]
end
section
variable {P : Program} {w : World} {K : PySem.W.Frag} {mg : Str → Option Value} {base : Heap} {C : Addr}
structure At22 (K : PySem.W.Frag) (H : Hp) (p pb dn : Addr) (nm : List Str) (x y : Str) (n m i j : Int) (db : PyData) : Prop where
  inn : In22 nm x y n m
  rat : RwAt K H p (pr22 x y n m)
  bad : Dq K [] H (.ref pb) db
  nbad : isProg db = false
  dn : H dn = some (.dK (dSI [(x, i), (y, j)]))
  hi : 2 ≤ i ∧ i ≤ 100
  hj : 0 ≤ j ∧ j ≤ 100
theorem At22.same {H H' : Hp} {p pb dn : Addr} {nm : List Str} {x y : Str} {n m i j : Int} {db : PyData} (h : At22 K H p pb dn nm x y n m i j db) (s : Same H H') : At22 K H' p pb dn nm x y n m i j db :=
  ⟨h.inn, h.rat.stay (TupsStay.same s), h.bad.stay (Sty.same s), h.nbad, s _ _ h.dn, h.hi, h.hj⟩
def spRefuse (K : PySem.W.Frag) (B D N U : Addr) : Sp := fun vs H Q E => ∃ (p pb dn : Addr) (nm : List Str) (x y : Str) (n m i j : Int) (db : PyData) (way : Nat), vs = [.int (way : Nat), .ref p, .ref pb, .ref dn] ∧ way < 4 ∧ At22 K H p pb dn nm x y n m i j db ∧
  (way = 0 → ∀ H', Same H H' → E (.ref B) none H') ∧ (way = 1 → ∀ H', Same H H' → E (.ref D) none H') ∧ (way = 2 → RaisedAt K H N E [1]) ∧ (way = 3 → RaisedAt K H U E [1])
theorem ok_law_refuse {Lp B D N U : Addr} (X : ExTxt K mg Lp B D N U) {f : Addr} {fd : FuncData} (T : Txt K mg C) (F : DefAt K mg "_law_refuse" "_law_refuse" s_law_refuse ["_law_way", "_law_program", "_law_bad", "_law_names_here"] f fd) : FnOk P w K mg base (L2.CX P w) 20 f fd ["_law_way", "_law_program", "_law_bad", "_law_names_here"] (spRefuse K B D N U) := by
  obtain ⟨f1, fd1, D_need_program⟩ := T.d_need_program
  have G_need_program : FnOk P w K mg base (L2.CX P w) 16 f1 fd1 ["program"] (spProgram K B) := ok_need_program X T D_need_program
  obtain ⟨f2, fd2, D_looked⟩ := T.d_looked
  have G_looked : FnOk P w K mg base (L2.CX P w) 19 f2 fd2 ["program"] (spLooked K N B) := ok_looked X T D_looked
  obtain ⟨f3, fd3, D_count_of⟩ := T.d_count_of
  have G_count_of : FnOk P w K mg base (L2.CX P w) 16 f3 fd3 ["program"] (spCountOf K U) := ok_count_ofU X T D_count_of
  obtain ⟨CR, RT⟩ := T.own_Run
  obtain ⟨f4, fd4, D_ran⟩ := T.d_ran
  have G_ran : FnOk P w K mg base (L2.CX P w) 13 f4 fd4 ["program", "names", "most"] (spRan K D) := ok_ran X T RT D_ran
  refine F.F.okX sc_law_refuse (fun vs H Q E h => ?_) (fun cdv A outer z H vs Q E hr h => ?_)
  · obtain ⟨p, pb, dn, nm, x, y, n, m, i, j, db, way, rfl, _⟩ := h
    rfl
  · obtain ⟨p, pb, dn, nm, x, y, n, m, i, j, db, way, rfl, w4, a, q0, q1, q2, q3⟩ := h
    refine ⟨_, (pss_one (ps_if (pt_cmpR op_eq (pv 0) pe_int (nomark _)) (pss_one (ps_expr (pe_callS G_need_program (hr.mono (by decide)) (by rfl) D_need_program.g D_need_program.F.kp D_need_program.b (fun σ => passAt (takes_of rfl rfl rfl rfl) σ) (pa_cons (pv 2) pa_nil)))) (pss_one (ps_if (pt_cmpR op_eq (pv 0) pe_int (nomark _)) (pss_one (ps_expr (pe_callS G_ran (hr.mono (by decide)) (by rfl) D_ran.g D_ran.F.kp D_ran.b (fun σ => passAt (takes_of rfl rfl rfl rfl) σ) (pa_cons (pv 1) (pa_cons (pv 3) (pa_cons pe_int pa_nil)))))) (pss_one (ps_if (pt_cmpR op_eq (pv 0) pe_int (nomark _)) (pss_one (ps_expr (pe_callS G_looked (hr.mono (by decide)) (by rfl) D_looked.g D_looked.F.kp D_looked.b (fun σ => passAt (takes_of rfl rfl rfl rfl) σ) (pa_cons (pv 1) pa_nil)))) (pss_one (ps_expr (pe_callS G_count_of (hr.mono (by decide)) (by rfl) D_count_of.g D_count_of.F.kp D_count_of.b (fun σ => passAt (takes_of rfl rfl rfl rfl) σ) (pa_cons (pv 1) pa_nil)))))))))), ?_⟩
    have h7 : nm.length < 32 := by rw [a.inn.no.len]; decide
    have dp : Dq K [] H (.ref p) (dP (pr22 x y n m)) := a.rat.dq a.inn.no a.inn.ok
    have iw : ∀ {k : Int}, (decide (V.int ((way : Nat) : Int) = V.int k) = true) → ((way : Nat) : Int) = k := fun e => by injection of_decide_eq_true e
    refine ⟨_, rfl, rfl, _, rfl, ite2 (fun e => ?_) (fun e => ⟨_, rfl, rfl, _, rfl, ite2 (fun e1 => ?_) (fun e1 => ⟨_, rfl, rfl, _, rfl, ite2 (fun e2 => ?_) (fun e2 => ?_)⟩)⟩)⟩
    · exact ⟨_, rfl, .ref pb, [], db, rfl, a.bad, fun e => absurd (a.nbad.symm.trans e) (by decide), fun _ H' s => q0 (by have := iw e; omega) H' s⟩
    · have po : PointOk nm [(x, i), (y, j)] := ⟨by simp [a.inn.ne], fun e he => by
          simp only [List.mem_cons, List.not_mem_nil, or_false] at he
          rcases he with z | z <;> subst z
          · exact gs_in a.inn.gx
          · exact gs_in a.inn.gy, fun e he => by
          have hi := a.hi
          have hj := a.hj
          simp only [List.mem_cons, List.not_mem_nil, or_false] at he
          rcases he with z | z <;> subst z
          · exact ⟨by show 0 ≤ i; omega, by show i ≤ 1000000; omega⟩
          · exact ⟨by show 0 ≤ j; omega, by show j ≤ 1000000; omega⟩⟩
      have dr := a.inn.dry a.hi.1 a.hj.1
      refine ⟨_, rfl, _, rfl, p, dn, [(x, i), (y, j)], nm, 1, pr22 x y n m, rfl, a.rat, a.inn.ok, a.inn.tm, Nat.le_of_ble_eq_true rfl, ⟨a.inn.no.len, a.inn.no.nd⟩, a.dn, po, by decide, fun s' H' qq nd td ed L' es e => absurd (dr.symm.trans e) (by intro z; cases z), fun _ H' s => q1 (by have := iw e1; omega) H' s⟩
    · exact ⟨_, rfl, p, _, nm, nm, _, rfl, a.rat, dp, a.inn.prog, Nat.le_of_ble_eq_true rfl, h7, h7, a.inn.laps, fun e => absurd ((In22.look x y n m).symm.trans e) (by intro z; cases z), fun k ek d pp H' s ed sp => by
        obtain rfl : 1 = k := Option.some.inj ((In22.look x y n m).symm.trans ek)
        exact q2 (by have := iw e2; omega) d pp H' s ed sp⟩
    · have w3 : way = 3 := by
        have h0 : ¬ ((way : Nat) : Int) = 0 := fun z => e (decide_eq_true (by rw [z]))
        have h1 : ¬ ((way : Nat) : Int) = 1 := fun z => e1 (decide_eq_true (by rw [z]))
        have h2 : ¬ ((way : Nat) : Int) = 2 := fun z => e2 (decide_eq_true (by rw [z]))
        omega
      exact ⟨_, rfl, p, _, nm, nm, 1, rfl, a.rat, a.inn.ok, Nat.le_of_ble_eq_true rfl, h7, h7, fun ks _ _ => a.inn.uneven ks, rfl, q3 w3⟩
end
theorem exm_two {K : PySem.W.Frag} {S L : Addr} (h1 : PySem.W.subIn K (.ref L) (.type "BaseException") = some true) (h2 : PySem.W.hasDictIn K L = true) (h3 : PySem.W.typeIn K (.ref L) = some (.type "type")) (h4 : PySem.W.subIn K (.ref S) (.ref L) = some true) :
    PySem.W.exmOne K (.ref S) (.ref L) = some true := by
  have h2' : (PySem.W.clsIn K L).isSome = true := by
    unfold PySem.W.hasDictIn at h2
    cases e : PySem.W.clsIn K L with
    | none =>
      rw [e] at h2
      cases h2
    | some _ => rfl
  have e1 : (PySem.W.subIn K (.ref L) (.type "BaseException") == some true) = true := by rw [h1] <;> rfl
  have e2 : ((PySem.W.clsIn K L).isSome && PySem.W.typeIn K (.ref L) == some (.type "type")) = true := by
    rw [h2', h3] <;> rfl
  show (if (PySem.W.subIn K (.ref L) (.type "BaseException") == some true) = true then (if ((PySem.W.clsIn K L).isSome && PySem.W.typeIn K (.ref L) == some (.type "type")) = true then PySem.W.subIn K (.ref S) (.ref L) else none) else none) = some true
  rw [if_pos e1, if_pos e2]
  exact h4
theorem op_neDK {X : Cx} {K : PySem.W.Frag} (e : X.K = K) (hu : X.A.units + 64 < cLine) : OpR X (compareOp .NotEq) (rNeD K) := by
  subst e
  exact op_neD hu
section
variable {P : Program} {w : World} {K : PySem.W.Frag} {mg : Str → Option Value} {base : Heap} {C : Addr}
def kindsL (way : Nat) : List V := [.bl (decide (way = 0)), .bl (decide (way = 1)), .bl (decide (way = 2)), .bl (decide (way = 3)), .bl true]
def spKinds (K : PySem.W.Frag) : Sp := fun vs H Q _ => ∃ (p pb dn : Addr) (nm : List Str) (x y : Str) (n m i j : Int) (db : PyData) (way : Nat), vs = [.int (way : Nat), .ref p, .ref pb, .ref dn] ∧ way < 4 ∧ At22 K H p pb dn nm x y n m i j db ∧
  ∀ l H', H' l = some (.lst (kindsL way)) → Same H H' → Q (.ref l) H'
theorem ok_law_kinds {f : Addr} {fd : FuncData} (T : Txt K mg C) (F : DefAt K mg "_law_kinds" "_law_kinds" s_law_kinds ["_law_way", "_law_program", "_law_bad", "_law_names_here"] f fd) : FnOk P w K mg base CX0 22 f fd ["_law_way", "_law_program", "_law_bad", "_law_names_here"] (spKinds K) := by
  obtain ⟨Lp, B, D, N, U, X⟩ := T.ex
  obtain ⟨f1, fd1, D_law_refuse⟩ := T.d_law_refuse
  have G_law_refuse : FnOk P w K mg base (L2.CX P w) 20 f1 fd1 ["_law_way", "_law_program", "_law_bad", "_law_names_here"] (spRefuse K B D N U) := ok_law_refuse X T D_law_refuse
  have EB : ExcC K B := ⟨X.hgB, X.hkB, X.bB, X.hdB, X.haB, X.hnB, X.htB, X.hmB⟩
  have ED : ExcC K D := ⟨X.hgD, X.hkD, X.bD, X.hdD, X.haD, X.hnB, X.htB, X.hmD⟩
  have EN : ExcC K N := ⟨X.hgN, X.hkN, X.bN, X.hdN, X.haN, X.hnB, X.htB, X.hmN⟩
  have EU : ExcC K U := ⟨X.hgU, X.hkU, X.bU, X.hdU, X.haU, X.hnB, X.htB, X.hmU⟩
  have XN : XfC K N := ⟨X.hgN, X.hkN, X.bN, X.hdN⟩
  have XU : XfC K U := ⟨X.hgU, X.hkU, X.bU, X.hdU⟩
  refine F.F.ok sc_law_kinds (fun vs H Q E h => ?_) (fun cdv A outer z H vs Q E hr h => ?_)
  · obtain ⟨p, pb, dn, nm, x, y, n, m, i, j, db, way, rfl, _⟩ := h
    rfl
  · obtain ⟨p, pb, dn, nm, x, y, n, m, i, j, db, way, rfl, w4, at22, q⟩ := h
    have hr1 : Room 20 _ := hr.mono (by decide)
    refine ⟨_, pss_cons (ps_try_as (i := 4) (Wout := fun _ _ _ _ => False) rfl rfl sc_law_kinds.nd rfl rfl ⟨rfl, by decide, .inl X.gL⟩ takes0
        (fun W pn xe tk _ => pss_one (ps_expr (pe_callS G_law_refuse hr1 (by rfl) D_law_refuse.g D_law_refuse.F.kp D_law_refuse.b (fun σ => passAt tk σ) (pa_cons (pv 0) (pa_cons (pv 1) (pa_cons (pv 2) (pa_cons (pv 3) pa_nil)))))))
        (fun a oe cls d pn hz hf => pss_cons (ps_set (i := 5) sc_law_kinds.nd rfl (.inl rfl) (pe_lst (pa_cons (pe_callB (call_isX hz hf) (by rfl) T.m_isinstance (by decide +kernel) (pa_cons (pv 4) (pa_cons (pe_glob (v := .ref B) rfl X.gB rfl) pa_nil))) (pa_cons (pe_callB (call_isX hz hf) (by rfl) T.m_isinstance (by decide +kernel) (pa_cons (pv 4) (pa_cons (pe_glob (v := .ref D) rfl X.gD rfl) pa_nil))) (pa_cons (pe_callB (call_isX hz hf) (by rfl) T.m_isinstance (by decide +kernel) (pa_cons (pv 4) (pa_cons (pe_glob (v := .ref N) rfl X.gN rfl) pa_nil))) (pa_cons (pe_callB (call_isX hz hf) (by rfl) T.m_isinstance (by decide +kernel) (pa_cons (pv 4) (pa_cons (pe_glob (v := .ref U) rfl X.gU rfl) pa_nil))) pa_nil))))))
          (pss_cons (ps_if (PW.pt (pw_and (pt_cmpR op_gt (pv 0) pe_int (nomark _)) (pw_and1 (pt_cmpR (op_neDK (K := K) rfl hr.units) (pe_xfX hz hf (pv 4)) (pe_tup (pa_cons pe_int pa_nil)) (nomark _))))) (pss_one (ps_ret (pe_lst pa_nil))) pss_nil)
          (pss_one (ps_ret (pe_op op_cat (pv 5) (pe_lst (pa_cons (pe_callB (call_isX hz hf) (by rfl) T.m_isinstance (by decide +kernel) (pa_cons (pv 4) (pa_cons (pe_bltn (v := .ty "ValueError") (by rfl) T.m_ValueError (by decide +kernel) rfl) pa_nil))) pa_nil))))))))
      (pss_one (ps_ret (pe_lst pa_nil))), ?_⟩
    have sh1 : SeqAt.shaped (.tuple [.int 1]) = true := by simp [SeqAt.shaped, PyData.canLay0, PyData.canLayAll0, PyData.depth, PyData.depthAll]
    refine ⟨_, rfl, _, rfl, _, rfl, _, rfl, p, pb, dn, nm, x, y, n, m, i, j, db, way, rfl, w4, at22, fun e H' s => ?_, fun e H' s => ?_, fun e d pp H' s ed sp => ?_, fun e d pp H' s ed sp => ?_⟩
    · subst e
      refine ⟨true, exm_two X.bL X.hL X.tL X.sBL, fun _ a ha => ?_, fun z => (nomatch z)⟩
      refine ⟨_, rfl, B, .ref B, .ref B, true, rfl, EB, .inl rfl, rfl, (fun u hu => hu), X.iBB, ⟨_, rfl, B, .ref D, .ref D, false, rfl, EB, .inl rfl, rfl, (fun u hu => hu), X.iBD, ⟨_, rfl, B, .ref N, .ref N, false, rfl, EB, .inl rfl, rfl, (fun u hu => hu), X.iBN, ⟨_, rfl, B, .ref U, .ref U, false, rfl, EB, .inl rfl, rfl, (fun u hu => hu), X.iBU, ⟨(by show 4 ≤ sizeLine; decide), fun l nl => ?_⟩⟩⟩⟩⟩
      have u1 := same_upd (o := .lst [.bl true, .bl false, .bl false, .bl false]) nl
      have el : (upd H' l (.lst [.bl true, .bl false, .bl false, .bl false])) l = some (.lst [.bl true, .bl false, .bl false, .bl false]) := upd_same
      refine ⟨_, rfl, _, 1, rfl, rfl, _, rfl, ite2 (fun c => absurd c (by decide)) (fun _ => ite2 (fun c => absurd c (by decide)) (fun _ => ?_))⟩
      have uz := u1
      have hd : (none : Option Addr) = none ∨ ∃ (dd : Addr) (fs : List (Str × V)), (none : Option Addr) = some dd ∧ (upd H' l (.lst [.bl true, .bl false, .bl false, .bl false])) dd = some (.xd fs) := .inl rfl
      refine ⟨_, rfl, _, rfl, B, .ty "ValueError", .type "ValueError", true, rfl, EB, .inl rfl, rfl, (fun u hu => hu), X.iBV, ⟨(by show 1 ≤ sizeLine; decide), fun l2 nl2 => ⟨l, l2, _, _, rfl, rfl, (same_upd nl2) _ _ el, upd_same, (by show 4 + 1 ≤ sizeLine; decide), fun l3 nl3 => q l3 _ upd_same (((s.trans uz).trans (same_upd nl2)).trans (same_upd nl3))⟩⟩⟩
    · subst e
      refine ⟨true, exm_two X.bL X.hL X.tL X.sDL, fun _ a ha => ?_, fun z => (nomatch z)⟩
      refine ⟨_, rfl, D, .ref B, .ref B, false, rfl, ED, .inl rfl, rfl, (fun u hu => hu), X.iDB, ⟨_, rfl, D, .ref D, .ref D, true, rfl, ED, .inl rfl, rfl, (fun u hu => hu), X.iDD, ⟨_, rfl, D, .ref N, .ref N, false, rfl, ED, .inl rfl, rfl, (fun u hu => hu), X.iDN, ⟨_, rfl, D, .ref U, .ref U, false, rfl, ED, .inl rfl, rfl, (fun u hu => hu), X.iDU, ⟨(by show 4 ≤ sizeLine; decide), fun l nl => ?_⟩⟩⟩⟩⟩
      have u1 := same_upd (o := .lst [.bl false, .bl true, .bl false, .bl false]) nl
      have el : (upd H' l (.lst [.bl false, .bl true, .bl false, .bl false])) l = some (.lst [.bl false, .bl true, .bl false, .bl false]) := upd_same
      refine ⟨_, rfl, _, 1, rfl, rfl, _, rfl, ite2 (fun c => absurd c (by decide)) (fun _ => ite2 (fun c => absurd c (by decide)) (fun _ => ?_))⟩
      have uz := u1
      have hd : (none : Option Addr) = none ∨ ∃ (dd : Addr) (fs : List (Str × V)), (none : Option Addr) = some dd ∧ (upd H' l (.lst [.bl false, .bl true, .bl false, .bl false])) dd = some (.xd fs) := .inl rfl
      refine ⟨_, rfl, _, rfl, D, .ty "ValueError", .type "ValueError", true, rfl, ED, .inl rfl, rfl, (fun u hu => hu), X.iDV, ⟨(by show 1 ≤ sizeLine; decide), fun l2 nl2 => ⟨l, l2, _, _, rfl, rfl, (same_upd nl2) _ _ el, upd_same, (by show 4 + 1 ≤ sizeLine; decide), fun l3 nl3 => q l3 _ upd_same (((s.trans uz).trans (same_upd nl2)).trans (same_upd nl3))⟩⟩⟩
    · subst e
      refine ⟨true, exm_two X.bL X.hL X.tL X.sNL, fun _ a ha => ?_, fun z => (nomatch z)⟩
      refine ⟨_, rfl, N, .ref B, .ref B, false, rfl, EN, .inr ⟨d, _, rfl, ed⟩, rfl, (fun u hu => hu), X.iNB, ⟨_, rfl, N, .ref D, .ref D, false, rfl, EN, .inr ⟨d, _, rfl, ed⟩, rfl, (fun u hu => hu), X.iND, ⟨_, rfl, N, .ref N, .ref N, true, rfl, EN, .inr ⟨d, _, rfl, ed⟩, rfl, (fun u hu => hu), X.iNN, ⟨_, rfl, N, .ref U, .ref U, false, rfl, EN, .inr ⟨d, _, rfl, ed⟩, rfl, (fun u hu => hu), X.iNU, ⟨(by show 4 ≤ sizeLine; decide), fun l nl => ?_⟩⟩⟩⟩⟩
      have u1 := same_upd (o := .lst [.bl false, .bl false, .bl true, .bl false]) nl
      have el : (upd H' l (.lst [.bl false, .bl false, .bl true, .bl false])) l = some (.lst [.bl false, .bl false, .bl true, .bl false]) := upd_same
      refine ⟨_, rfl, _, 1, rfl, rfl, _, rfl, ite2 (fun _ => ?_) (fun c => absurd (by decide) c)⟩
      refine ⟨rfl, N, d, [("place", .ref pp)], .ref pp, rfl, XN, X.pN, rfl, u1 _ _ ed, rfl, (by show 1 ≤ sizeLine; decide), fun t nt => ?_⟩
      have u2 := same_upd (o := .tup [.int 1]) nt
      have uz := u1.trans u2
      have el := u2 _ _ el
      refine ⟨.tuple [.int 1], .tuple [.int 1], .tup (SqT.keeps sp (TupsStay.same uz)) (.cons (.int 1) .nil), .tup (SqT.of upd_same) (.cons (.int 1) .nil), sh1, sh1, _, rfl, ite2 (fun c => absurd c (by decide +kernel)) (fun _ => ?_)⟩
      have hd := uz _ _ ed
      refine ⟨_, rfl, _, rfl, N, .ty "ValueError", .type "ValueError", true, rfl, EN, .inr ⟨d, _, rfl, hd⟩, rfl, (fun u hu => hu), X.iNV, ⟨(by show 1 ≤ sizeLine; decide), fun l2 nl2 => ⟨l, l2, _, _, rfl, rfl, (same_upd nl2) _ _ el, upd_same, (by show 4 + 1 ≤ sizeLine; decide), fun l3 nl3 => q l3 _ upd_same (((s.trans uz).trans (same_upd nl2)).trans (same_upd nl3))⟩⟩⟩
    · subst e
      refine ⟨true, exm_two X.bL X.hL X.tL X.sUL, fun _ a ha => ?_, fun z => (nomatch z)⟩
      refine ⟨_, rfl, U, .ref B, .ref B, false, rfl, EU, .inr ⟨d, _, rfl, ed⟩, rfl, (fun u hu => hu), X.iUB, ⟨_, rfl, U, .ref D, .ref D, false, rfl, EU, .inr ⟨d, _, rfl, ed⟩, rfl, (fun u hu => hu), X.iUD, ⟨_, rfl, U, .ref N, .ref N, false, rfl, EU, .inr ⟨d, _, rfl, ed⟩, rfl, (fun u hu => hu), X.iUN, ⟨_, rfl, U, .ref U, .ref U, true, rfl, EU, .inr ⟨d, _, rfl, ed⟩, rfl, (fun u hu => hu), X.iUU, ⟨(by show 4 ≤ sizeLine; decide), fun l nl => ?_⟩⟩⟩⟩⟩
      have u1 := same_upd (o := .lst [.bl false, .bl false, .bl false, .bl true]) nl
      have el : (upd H' l (.lst [.bl false, .bl false, .bl false, .bl true])) l = some (.lst [.bl false, .bl false, .bl false, .bl true]) := upd_same
      refine ⟨_, rfl, _, 1, rfl, rfl, _, rfl, ite2 (fun _ => ?_) (fun c => absurd (by decide) c)⟩
      refine ⟨rfl, U, d, [("place", .ref pp)], .ref pp, rfl, XU, X.pU, rfl, u1 _ _ ed, rfl, (by show 1 ≤ sizeLine; decide), fun t nt => ?_⟩
      have u2 := same_upd (o := .tup [.int 1]) nt
      have uz := u1.trans u2
      have el := u2 _ _ el
      refine ⟨.tuple [.int 1], .tuple [.int 1], .tup (SqT.keeps sp (TupsStay.same uz)) (.cons (.int 1) .nil), .tup (SqT.of upd_same) (.cons (.int 1) .nil), sh1, sh1, _, rfl, ite2 (fun c => absurd c (by decide +kernel)) (fun _ => ?_)⟩
      have hd := uz _ _ ed
      refine ⟨_, rfl, _, rfl, U, .ty "ValueError", .type "ValueError", true, rfl, EU, .inr ⟨d, _, rfl, hd⟩, rfl, (fun u hu => hu), X.iUV, ⟨(by show 1 ≤ sizeLine; decide), fun l2 nl2 => ⟨l, l2, _, _, rfl, rfl, (same_upd nl2) _ _ el, upd_same, (by show 4 + 1 ≤ sizeLine; decide), fun l3 nl3 => q l3 _ upd_same (((s.trans uz).trans (same_upd nl2)).trans (same_upd nl3))⟩⟩⟩
end
/-! ### literals -/
section
variable {K : PySem.W.Frag} {N : List Addr} {σ : L2.St} {H0 : Hp}
def LitT (K : PySem.W.Frag) (N : List Addr) (σ : L2.St) (H0 : Hp) (t : L2.TE) (d : PyData) : Prop := ∀ (H : Hp) (Q : VK), Same H0 H → (∀ v H', Same H H' → Dq K N H' v d → Q v H') → t σ H Q
def LitA (K : PySem.W.Frag) (N : List Addr) (σ : L2.St) (H0 : Hp) (t : TA) (ds : List PyData) : Prop := ∀ (H : Hp) (Q : List V → Hp → Prop), Same H0 H → (∀ vs H', Same H H' → DqAll K N H' vs ds → Q vs H') → t σ H Q
theorem lit_str {x : Str} (h : PyData.strOk x = true ∧ x.length ≤ 1000) : LitT K N σ H0 (tC (.str x)) (.str x) := fun H Q _ q => q _ _ (Same.refl _) (.str h.1 h.2)
theorem lit_int (i : Int) : LitT K N σ H0 (tC (.int i)) (.int i) := fun H Q _ q => q _ _ (Same.refl _) (.int i)
theorem lit_bl (b : Bool) : LitT K N σ H0 (tC (.bl b)) (.bool b) := fun H Q _ q => q _ _ (Same.refl _) (.bl b)
theorem lit_non : LitT K N σ H0 (tC .non) .none := fun H Q _ q => q _ _ (Same.refl _) .non
theorem lit_neg (i : Int) : LitT K N σ H0 (tUn (rU fun i => .int (-i)) (tC (.int i))) (.int (-i)) := fun H Q _ q => ⟨i, rfl, q _ _ (Same.refl _) (.int _)⟩
theorem lit_var {i : Nat} {v : V} {d : PyData} (e : σ[i]? = some (some v)) (h : Dq K N H0 v d) : LitT K N σ H0 (tVar i) d := fun H Q s q => ⟨v, e, q _ _ (Same.refl _) (h.stay (Sty.same s))⟩
theorem lit_nil : LitA K N σ H0 tNil [] := fun H Q _ q => q _ _ (Same.refl _) .nil
theorem lit_cons {t : L2.TE} {r : TA} {d : PyData} {ds : List PyData} (a : LitT K N σ H0 t d) (b : LitA K N σ H0 r ds) : LitA K N σ H0 (tCons t r) (d :: ds) := fun H Q s q =>
  a H _ s fun v H1 s1 h1 => b H1 _ (s.trans s1) fun vs H2 s2 h2 => q _ _ (s1.trans s2) (.cons (h1.stay (Sty.same s2)) h2)
theorem lit_tup {t : TA} {ds : List PyData} (a : LitA K N σ H0 t ds) (l : ds.length ≤ 100 := by first | decide | exact Nat.le_of_ble_eq_true rfl) : LitT K N σ H0 (tTup t) (.tuple ds) := fun H Q s q =>
  a H _ s fun vs H1 s1 h1 => ⟨by rw [h1.len, sizeLine_eq]; omega, fun p np => by
    have u := same_upd (o := .tup vs) np
    exact q _ _ (s1.trans u) (.tup (SqT.of upd_same) (h1.stay (Sty.same u)))⟩
theorem lit_lst (hN : ∀ n ∈ N, H0 n ≠ none) {t : TA} {ds : List PyData} (a : LitA K N σ H0 t ds) (l : ds.length ≤ 100 := by first | decide | exact Nat.le_of_ble_eq_true rfl) : LitT K N σ H0 (tLst t) (.list ds) := fun H Q s q =>
  a H _ s fun vs H1 s1 h1 => ⟨by rw [h1.len, sizeLine_eq]; omega, fun p np => by
    have u := same_upd (o := .lst vs) np
    refine q _ _ (s1.trans u) (.lst upd_same (fun m => ?_) (h1.stay (Sty.same u)))
    cases e : H0 p with
    | none => exact hN p m e
    | some o => rw [(s.trans s1) _ _ e] at np; cases np⟩
theorem lit_cat (hN : ∀ n ∈ N, H0 n ≠ none) {s t : L2.TE} {ds es : List PyData} (a : LitT K N σ H0 s (.list ds)) (b : LitT K N σ H0 t (.list es)) (l : ds.length + es.length ≤ 100 := by first | decide | exact Nat.le_of_ble_eq_true rfl) : LitT K N σ H0 (tOp rCat s t) (.list (ds ++ es)) := fun H Q s q =>
  a H _ s fun v H1 s1 h1 => b H1 _ (s.trans s1) fun u H2 s2 h2 => by
    cases h1 with
    | @lst _ xs1 _ e1 n1 a1 =>
      cases h2 with
      | @lst _ xs2 _ e2 n2 a2 =>
        refine ⟨_, _, _, _, rfl, rfl, s2 _ _ e1, e2, by rw [a1.len, a2.len, sizeLine_eq]; omega, fun p np => ?_⟩
        have u := same_upd (o := .lst (xs1 ++ xs2)) np
        refine q _ _ ((s1.trans s2).trans u) (.lst upd_same (fun m => ?_) (DqAll.app (a2.stay (Sty.same u)) (a1.stay (Sty.same (s2.trans u)))))
        cases e : H0 p with
        | none => exact hN p m e
        | some o => rw [((s.trans s1).trans s2) _ _ e] at np; cases np
end
theorem lit_set {K : PySem.W.Frag} {N : List Addr} {σ : L2.St} {H : Hp} {t : L2.TE} {d : PyData} {i : Nat} {u : TS} {D : Ends} (L : LitT K N σ H t d) (k : ∀ v H', Same H H' → Dq K N H' v d → u D (σ.set i (some v)) H') : tSeq (tAsg t (gName i)) u D σ H := L H _ (Same.refl _) k
theorem lit_op {K : PySem.W.Frag} {N : List Addr} {σ : L2.St} {H : Hp} {t t2 : L2.TE} {r : R2} {d : PyData} {Q : VK} (L : LitT K N σ H t d) (k : ∀ v H', Same H H' → Dq K N H' v d → t2 σ H' fun y H2 => r v y H2 Q) : tOp r t t2 σ H Q := L H _ (Same.refl _) k
theorem lit_ret {K : PySem.W.Frag} {N : List Addr} {σ : L2.St} {H : Hp} {t t2 : L2.TE} {r : R2} {d : PyData} {D : Ends} (L : LitT K N σ H t d) (k : ∀ v H', Same H H' → Dq K N H' v d → t2 σ H' fun y H2 => r v y H2 D.rt) : tRet (tOp r t t2) D σ H := L H _ (Same.refl _) k
theorem dq_pick {K : PySem.W.Frag} {N : List Addr} {H : Hp} {v : V} {ds : List PyData} (h : Dq K N H v (.list ds)) {i : Int} (h0 : 0 ≤ i) (h1 : i < (ds.length : Nat)) :
    ∃ (a : Addr) (xs : List V) (u : V), v = .ref a ∧ SqL K H a xs ∧ atI xs i = some u ∧ Dq K N H u (ds.getD i.toNat .none) ∧ ds.getD i.toNat .none ∈ ds := by
  have hi : i.toNat < ds.length := by omega
  cases h with
  | lst e n ad =>
    obtain ⟨u, eu, du⟩ := at_dq ad hi
    rw [show ((i.toNat : Nat) : Int) = i by omega] at eu
    refine ⟨_, _, u, rfl, SqL.of e, eu, du, ?_⟩
    rw [List.getD_eq_getElem?_getD, List.getElem?_eq_getElem hi]
    exact List.getElem_mem hi
theorem But.sty {h c : Addr} {M : List Addr} {H H' : Hp} {s k : Int} {cs : List Int} (B : But h c H H') (A : HAt H h c s k cs) : Sty (h :: c :: M) H H' := ⟨fun a o e n => B a o e (fun z => n (by simp [z])) (fun z => n (by simp [z])), B.tups A⟩
theorem domM {h c : Addr} {M : List Addr} {H H' : Hp} {s k : Int} {cs : List Int} (hM : ∀ n ∈ M, H n ≠ none) (B : But h c H H') (A : HAt H' h c s k cs) : ∀ n ∈ h :: c :: M, H' n ≠ none := fun n m => by
  by_cases e1 : n = h
  · rw [e1, A.h]; exact fun z => nomatch z
  · by_cases e2 : n = c
    · rw [e2, A.c]; exact fun z => nomatch z
    · have m : n ∈ M := by
        rcases List.mem_cons.mp m with z | z
        · exact absurd z e1
        · rcases List.mem_cons.mp z with z | z
          · exact absurd z e2
          · exact z
      cases e : H n with
      | none => exact absurd e (hM n m)
      | some o => rw [B n o e e1 e2]; exact fun z => nomatch z
def badEs : List PyData := [.tuple [.str "num", .int (-1)], .tuple [.str "num", .int 1000], .tuple [.str "num", .bool true], .tuple [.str "num", .str "1"], .tuple [.str "num"], .tuple [.str "num", .int 1, .int 2], .tuple [.str "name", .str ""],
  .tuple [.str "name", .str "abcdefghi"], .tuple [.str "name", .str "A"], .tuple [.str "name", .str "a1"], .tuple [.str "name", .int 5], .tuple [.str "name"],
  .tuple [.str "less", .tuple [.str "num", .int 1], .tuple [.str "num", .int 1]], .tuple [.str "add", .tuple [.str "num", .int 1]], .tuple [.str "add", .tuple [.str "num", .int 1], .tuple [.str "num", .int 1], .tuple [.str "num", .int 1]], .tuple [.str "times", .int 1, .int 2], .tuple [], .int 7, .none, .list [.str "num", .int 1]]
theorem badEs_bad : ∀ d ∈ badEs, BadEx d := by
  have : ∀ d ∈ badEs, exOk 5 d = false := by decide +kernel
  exact this
theorem lit_ix {K : PySem.W.Frag} {N : List Addr} {σ : L2.St} {H0 : Hp} {t : L2.TE} {ds : List PyData} {k : Nat} (a : LitT K N σ H0 t (.tuple ds)) (l : k < ds.length) : LitT K N σ H0 (tOp (rIxT K) t (tC (.int (k : Nat)))) (ds.getD k .none) := fun H Q s q =>
  a H _ s fun v H1 s1 h1 => by
    cases h1 with
    | tup st ad =>
      obtain ⟨u, eu, du⟩ := at_dq ad l
      exact ⟨_, _, _, u, rfl, rfl, st, eu, q _ _ s1 du⟩
mutual
theorem Dq.more {K : PySem.W.Frag} {N : List Addr} {H : Hp} {p : Addr} (np : H p = none) : ∀ {d : PyData} {v : V}, Dq K N H v d → Dq K (p :: N) H v d
  | .none, _, h => by cases h; exact .non
  | .bool _, _, h => by cases h; exact .bl _
  | .int _, _, h => by cases h; exact .int _
  | .str _, _, h => by cases h with | str q l => exact .str q l
  | .list _, _, h => by cases h with | lst a n q => exact .lst a (fun m => by rcases List.mem_cons.mp m with z | z; · rw [z, np] at a; cases a
                                                                              · exact n z) (DqAll.more np q)
  | .tuple _, _, h => by cases h with | tup a q => exact .tup a (DqAll.more np q)
  | .dict _, _, h => by cases h
theorem DqAll.more {K : PySem.W.Frag} {N : List Addr} {H : Hp} {p : Addr} (np : H p = none) : ∀ {ds : List PyData} {vs : List V}, DqAll K N H vs ds → DqAll K (p :: N) H vs ds
  | [], _, h => by cases h; exact .nil
  | _ :: _, _, h => by cases h with | cons a b => exact .cons (Dq.more np a) (DqAll.more np b)
end
mutual
theorem Dq.less {K : PySem.W.Frag} {N : List Addr} {H : Hp} {p : Addr} : ∀ {d : PyData} {v : V}, Dq K (p :: N) H v d → Dq K N H v d
  | .none, _, h => by cases h; exact .non
  | .bool _, _, h => by cases h; exact .bl _
  | .int _, _, h => by cases h; exact .int _
  | .str _, _, h => by cases h with | str q l => exact .str q l
  | .list _, _, h => by cases h with | lst a n q => exact .lst a (fun m => n (List.mem_cons_of_mem _ m)) (DqAll.less q)
  | .tuple _, _, h => by cases h with | tup a q => exact .tup a (DqAll.less q)
  | .dict _, _, h => by cases h
theorem DqAll.less {K : PySem.W.Frag} {N : List Addr} {H : Hp} {p : Addr} : ∀ {ds : List PyData} {vs : List V}, DqAll K (p :: N) H vs ds → DqAll K N H vs ds
  | [], _, h => by cases h; exact .nil
  | _ :: _, _, h => by cases h with | cons a b => exact .cons (Dq.less a) (DqAll.less b)
end
/-- a list glued anew: its address is new -/
theorem lit_setF {K : PySem.W.Frag} {N : List Addr} {σ : L2.St} {H : Hp} {s t : L2.TE} {ds es : List PyData} {i : Nat} {u : TS} {D : Ends} (hN : ∀ n ∈ N, H n ≠ none) (a : LitT K N σ H s (.list ds)) (b : LitT K N σ H t (.list es)) (l : ds.length + es.length ≤ 100)
    (k : ∀ p xs H', Same H H' → H p = none → H' p = some (.lst xs) → p ∉ N → DqAll K (p :: N) H' xs (ds ++ es) → u D (σ.set i (some (.ref p))) H') : tSeq (tAsg (tOp rCat s t) (gName i)) u D σ H :=
  a H _ (Same.refl _) fun v H1 s1 h1 => b H1 _ s1 fun u H2 s2 h2 => by
    cases h1 with
    | @lst _ xs1 _ e1 n1 a1 =>
      cases h2 with
      | @lst _ xs2 _ e2 n2 a2 =>
        refine ⟨_, _, _, _, rfl, rfl, s2 _ _ e1, e2, by rw [a1.len, a2.len, sizeLine_eq]; omega, fun p np => ?_⟩
        have u := same_upd (o := .lst (xs1 ++ xs2)) np
        have hp : H p = none := by
          cases e : H p with
          | none => rfl
          | some o => rw [(s1.trans s2) _ _ e] at np; cases np
        refine k p _ _ ((s1.trans s2).trans u) hp upd_same (fun m => hN p m hp) ?_
        exact ((DqAll.app a2 (a1.stay (Sty.same s2))).more np).stay (Sty.same u)
theorem gName_go {i : Nat} {v : V} {σ : L2.St} {H : Hp} {Q : L2.St → Hp → Prop} (h : Q (σ.set i (some v)) H) : gName i v σ H Q := h
theorem lit_for {K K' : PySem.W.Frag} {N : List Addr} {σ : L2.St} {H : Hp} {t : L2.TE} {d : PyData} {g : TG} {tb u : TS} {D : Ends} (L : LitT K N σ H t d) (k : ∀ v H', Same H H' → Dq K N H' v d → tSeq (tFor (iList K' (tC v)) g tb) u D σ H') : tSeq (tFor (iList K' t) g tb) u D σ H := L H _ (Same.refl _) k
theorem lit_app {K K' : PySem.W.Frag} {N : List Addr} {σ : L2.St} {H : Hp} {t : L2.TE} {d : PyData} {i : Nat} {D : Ends} {l : Addr} {xs : List V} (e0 : σ[i]? = some (some (.ref l))) (e : H l = some (.lst xs)) (lx : xs.length < sizeLine) (L : LitT K N σ H t d)
    (k : ∀ v H', Same H H' → Dq K N H' v d → D.nx σ (upd H' l (.lst (xs ++ [v])))) : tDrop (tBM K' "list" rAppend (tVar i) (tCons t tNil)) D σ H :=
  ⟨_, e0, .inl ⟨rfl, _, SqL.of e⟩, L H _ (Same.refl _) fun v H' s d => ⟨l, xs, v, rfl, rfl, s _ _ e, lx, k v H' s d⟩⟩
theorem lit_asg {K : PySem.W.Frag} {N : List Addr} {σ : L2.St} {H : Hp} {t : L2.TE} {d : PyData} {i : Nat} {D : Ends} (L : LitT K N σ H t d) (k : ∀ v H', Same H H' → Dq K N H' v d → D.nx (σ.set i (some v)) H') : tAsg t (gName i) D σ H := L H _ (Same.refl _) k
theorem lit_catU {K : PySem.W.Frag} {N : List Addr} {σ : L2.St} {H0 : Hp} {s t : L2.TE} {ds es : List PyData} (a : LitT K N σ H0 s (.tuple ds)) (b : LitT K N σ H0 t (.tuple es)) (l : ds.length + es.length ≤ 1000) : LitT K N σ H0 (tOp (rCatU K) s t) (.tuple (ds ++ es)) := fun H Q s q =>
  a H _ s fun v H1 s1 h1 => b H1 _ (s.trans s1) fun u H2 s2 h2 => by
    cases h1 with
    | @tup _ xs1 _ e1 a1 =>
      cases h2 with
      | @tup _ xs2 _ e2 a2 =>
        refine ⟨_, _, _, _, rfl, rfl, SqT.keeps e1 (TupsStay.same s2), e2, by rw [a1.len, a2.len, sizeLine_eq]; omega, fun p H3 st s3 => ?_⟩
        exact q _ _ ((s1.trans s2).trans s3) (.tup st (DqAll.app (a2.stay (Sty.same s3)) (a1.stay (Sty.same (s2.trans s3)))))
theorem DqAll.take {K : PySem.W.Frag} {N : List Addr} {H : Hp} : ∀ {ds : List PyData} {vs : List V} (n : Nat), DqAll K N H vs ds → DqAll K N H (vs.take n) (ds.take n)
  | [], _, n, h => by cases h; rw [List.take_nil, List.take_nil]; exact .nil
  | _ :: _, _, 0, h => by rw [List.take_zero, List.take_zero]; exact .nil
  | _ :: _, _, n + 1, h => by cases h with | cons a b => exact .cons a (DqAll.take n b)
theorem DqAll.drop {K : PySem.W.Frag} {N : List Addr} {H : Hp} : ∀ {ds : List PyData} {vs : List V} (n : Nat), DqAll K N H vs ds → DqAll K N H (vs.drop n) (ds.drop n)
  | [], _, n, h => by cases h; rw [List.drop_nil, List.drop_nil]; exact .nil
  | _ :: _, _, 0, h => h
  | _ :: _, _, n + 1, h => by cases h with | cons a b => exact DqAll.drop n b
theorem cutV_take (xs : List V) (n : Nat) : cutV xs none (some (n : Int)) = xs.take n := by
  unfold cutV
  rw [HT.sIx_none, HT.sIx_nat, List.drop_zero, Nat.sub_zero, List.take_eq_take_iff]
  omega
theorem cutV_drop (xs : List V) (n : Nat) : cutV xs (some (n : Int)) none = xs.drop n := by
  unfold cutV
  rw [HT.sIx_none, HT.sIx_nat]
  by_cases l : n ≤ xs.length
  · rw [Nat.min_eq_left l, List.take_of_length_le (by rw [List.length_drop]; exact Nat.le_refl _)]
  · rw [Nat.min_eq_right (by omega), Nat.sub_self, List.take_zero, List.drop_eq_nil_of_le (by omega)]
theorem lit_take {K : PySem.W.Frag} {N : List Addr} {σ : L2.St} {H0 : Hp} {t : L2.TE} {ds : List PyData} {n : Nat} {th : TO} (a : LitT K N σ H0 t (.tuple ds)) (hth : ∀ (H : Hp) (Q : Option Int → Hp → Prop), Q (some ((n : Nat) : Int)) H → th σ H Q) : LitT K N σ H0 (tSl (rSlU K) t tNoPart th) (.tuple (ds.take n)) := fun H Q s q =>
  a H _ s fun v H1 s1 h1 => hth H1 _ (by
    cases h1 with
    | tup st ad => exact ⟨_, _, rfl, st, fun p H2 st2 s2 => q _ _ (s1.trans s2) (.tup (by rw [cutV_take] at st2; exact st2) ((ad.take n).stay (Sty.same s2)))⟩)
theorem lit_drop {K : PySem.W.Frag} {N : List Addr} {σ : L2.St} {H0 : Hp} {t : L2.TE} {ds : List PyData} {n : Nat} {tl : TO} (a : LitT K N σ H0 t (.tuple ds)) (htl : ∀ (H : Hp) (Q : Option Int → Hp → Prop), Q (some ((n : Nat) : Int)) H → tl σ H Q) : LitT K N σ H0 (tSl (rSlU K) t tl tNoPart) (.tuple (ds.drop n)) := fun H Q s q =>
  a H _ s fun v H1 s1 h1 => htl H1 _ (by
    cases h1 with
    | tup st ad => exact ⟨_, _, rfl, st, fun p H2 st2 s2 => q _ _ (s1.trans s2) (.tup (by rw [cutV_drop] at st2; exact st2) ((ad.drop n).stay (Sty.same s2)))⟩)
theorem lit_retT {K : PySem.W.Frag} {N : List Addr} {σ : L2.St} {H : Hp} {t : L2.TE} {d : PyData} {D : Ends} (L : LitT K N σ H t d) (k : ∀ v H', Same H H' → Dq K N H' v d → D.rt v H') : tRet t D σ H := L H _ (Same.refl _) k
theorem lit_nm {K : PySem.W.Frag} {N : List Addr} {σ : L2.St} {H0 : Hp} {i k : Nat} {l : Addr} {ns : List Str} {x : Str} (e0 : σ[i]? = some (some (.ref l))) (el : H0 l = some (.lst (ns.map V.str))) (hx : ns[k]? = some x) (t : PyData.strOk x = true ∧ x.length ≤ 1000) : LitT K N σ H0 (tOp (rIxL K) (tVar i) (tC (.int (k : Nat)))) (.str x) := fun H Q s q =>
  ⟨_, e0, l, _, _, _, rfl, rfl, SqL.of (s _ _ el), atI_nat (by rw [List.getElem?_map, hx]; rfl), q _ _ (Same.refl _) (.str t.1 t.2)⟩
/-! ### data that are a program -/
theorem DqAll.two {K : PySem.W.Frag} {N : List Addr} {H : Hp} {vs : List V} {a b : PyData} (h : DqAll K N H vs [a, b]) : ∃ u v, vs = [u, v] ∧ Dq K N H u a ∧ Dq K N H v b := by
  cases h with
  | cons h1 r =>
    cases r with
    | cons h2 r =>
      cases r
      exact ⟨_, _, rfl, h1, h2⟩
theorem DqAll.three {K : PySem.W.Frag} {N : List Addr} {H : Hp} {vs : List V} {a b c : PyData} (h : DqAll K N H vs [a, b, c]) : ∃ u v w, vs = [u, v, w] ∧ Dq K N H u a ∧ Dq K N H v b ∧ Dq K N H w c := by
  cases h with
  | cons h1 r =>
    obtain ⟨v, w, rfl, h2, h3⟩ := r.two
    exact ⟨_, _, _, rfl, h1, h2, h3⟩
theorem DqAll.four {K : PySem.W.Frag} {N : List Addr} {H : Hp} {vs : List V} {a b c d : PyData} (h : DqAll K N H vs [a, b, c, d]) : ∃ t u v w, vs = [t, u, v, w] ∧ Dq K N H t a ∧ Dq K N H u b ∧ Dq K N H v c ∧ Dq K N H w d := by
  cases h with
  | cons h1 r =>
    obtain ⟨u, v, w, rfl, h2, h3, h4⟩ := r.three
    exact ⟨_, _, _, _, rfl, h1, h2, h3, h4⟩
theorem Dq.isTup {K : PySem.W.Frag} {N : List Addr} {H : Hp} {v : V} {ds : List PyData} (h : Dq K N H v (.tuple ds)) : ∃ p xs, v = .ref p ∧ SqT K H p xs ∧ DqAll K N H xs ds := by
  cases h with
  | tup a b => exact ⟨_, _, rfl, a, b⟩
theorem Dq.isStr {K : PySem.W.Frag} {N : List Addr} {H : Hp} {v : V} {x : Str} (h : Dq K N H v (.str x)) : v = .str x := by
  cases h with
  | str a b => rfl
theorem Dq.isInt {K : PySem.W.Frag} {N : List Addr} {H : Hp} {v : V} {x : Int} (h : Dq K N H v (.int x)) : v = .int x := by
  cases h with
  | int a => rfl
theorem Dq.ex {K : PySem.W.Frag} {N : List Addr} {H : Hp} : ∀ {t : Ex} {v : V}, Dq K N H v (dE t) → ∃ p, v = .ref p ∧ ExAt K H p t
  | .num n, v, h => by
    obtain ⟨p, xs, rfl, s, a⟩ := Dq.isTup h
    obtain ⟨u, w, rfl, a1, a2⟩ := a.two
    rw [a1.isStr, a2.isInt] at s
    exact ⟨p, rfl, s⟩
  | .name n, v, h => by
    obtain ⟨p, xs, rfl, s, a⟩ := Dq.isTup h
    obtain ⟨u, w, rfl, a1, a2⟩ := a.two
    rw [a1.isStr, a2.isStr] at s
    exact ⟨p, rfl, s⟩
  | .add e1 e2, v, h => by
    obtain ⟨p, xs, rfl, s, a⟩ := Dq.isTup h
    obtain ⟨u, w, z, rfl, a1, a2, a3⟩ := a.three
    obtain ⟨q, rfl, b1⟩ := Dq.ex a2
    obtain ⟨r, rfl, b2⟩ := Dq.ex a3
    rw [a1.isStr] at s
    exact ⟨p, rfl, q, r, s, b1, b2⟩
  | .mul e1 e2, v, h => by
    obtain ⟨p, xs, rfl, s, a⟩ := Dq.isTup h
    obtain ⟨u, w, z, rfl, a1, a2, a3⟩ := a.three
    obtain ⟨q, rfl, b1⟩ := Dq.ex a2
    obtain ⟨r, rfl, b2⟩ := Dq.ex a3
    rw [a1.isStr] at s
    exact ⟨p, rfl, q, r, s, b1, b2⟩
theorem DqAll.sts {K : PySem.W.Frag} {N : List Addr} {H : Hp} : ∀ {r : Rw} {vs : List V}, DqAll K N H vs (dR r) → ∃ qs : List Addr, vs = qs.map V.ref ∧ StsAt K H r qs
  | .nil, vs, h => by
    cases h
    exact ⟨[], rfl, rfl⟩
  | .set x e r, vs, h => by
    cases h with
    | cons h1 h2 =>
      obtain ⟨p, xs, rfl, s, a⟩ := h1.isTup
      obtain ⟨u, w, z, rfl, a1, a2, a3⟩ := a.three
      obtain ⟨q, rfl, b1⟩ := a3.ex
      obtain ⟨qs, rfl, b2⟩ := DqAll.sts h2
      rw [a1.isStr, a2.isStr] at s
      exact ⟨p :: qs, rfl, p, qs, q, rfl, s, b1, b2⟩
  | .say e r, vs, h => by
    cases h with
    | cons h1 h2 =>
      obtain ⟨p, xs, rfl, s, a⟩ := h1.isTup
      obtain ⟨u, w, rfl, a1, a2⟩ := a.two
      obtain ⟨q, rfl, b1⟩ := a2.ex
      obtain ⟨qs, rfl, b2⟩ := DqAll.sts h2
      rw [a1.isStr] at s
      exact ⟨p :: qs, rfl, p, qs, q, rfl, s, b1, b2⟩
  | .lap x m b r, vs, h => by
    cases h with
    | cons h1 h2 =>
      obtain ⟨p, xs, rfl, s, a⟩ := h1.isTup
      obtain ⟨u, w, z, y, rfl, a1, a2, a3, a4⟩ := a.four
      obtain ⟨q, rfl, b1⟩ := a3.ex
      obtain ⟨pb, ys, rfl, s2, c⟩ := a4.isTup
      obtain ⟨u2, w2, rfl, c1, c2⟩ := c.two
      obtain ⟨pt, zs, rfl, s3, d⟩ := c2.isTup
      obtain ⟨qb, rfl, b3⟩ := DqAll.sts d
      obtain ⟨qs, rfl, b2⟩ := DqAll.sts h2
      rw [a1.isStr, a2.isStr] at s
      rw [c1.isStr] at s2
      exact ⟨p :: qs, rfl, p, qs, q, pb, pt, qb, rfl, s, b1, s2, s3, b3, b2⟩
theorem Dq.rw {K : PySem.W.Frag} {N : List Addr} {H : Hp} {v : V} {r : Rw} (h : Dq K N H v (dP r)) : ∃ p, v = .ref p ∧ RwAt K H p r := by
  obtain ⟨p, xs, rfl, s, a⟩ := Dq.isTup h
  obtain ⟨u, w, rfl, a1, a2⟩ := a.two
  obtain ⟨pt, zs, rfl, s3, d⟩ := a2.isTup
  obtain ⟨qs, rfl, b⟩ := d.sts
  rw [a1.isStr] at s
  exact ⟨p, rfl, pt, qs, s, s3, b⟩
mutual
theorem Dq.sub {K : PySem.W.Frag} {N N' : List Addr} {H : Hp} (s : ∀ n ∈ N, n ∈ N') : ∀ {d : PyData} {v : V}, Dq K N' H v d → Dq K N H v d
  | .none, _, h => by cases h; exact .non
  | .bool _, _, h => by cases h; exact .bl _
  | .int _, _, h => by cases h; exact .int _
  | .str _, _, h => by cases h with | str q l => exact .str q l
  | .list _, _, h => by cases h with | lst a n q => exact .lst a (fun m => n (s _ m)) (DqAll.sub s q)
  | .tuple _, _, h => by cases h with | tup a q => exact .tup a (DqAll.sub s q)
  | .dict _, _, h => by cases h
theorem DqAll.sub {K : PySem.W.Frag} {N N' : List Addr} {H : Hp} (s : ∀ n ∈ N, n ∈ N') : ∀ {ds : List PyData} {vs : List V}, DqAll K N' H vs ds → DqAll K N H vs ds
  | [], _, h => by cases h; exact .nil
  | _ :: _, _, h => by cases h with | cons a b => exact .cons (Dq.sub s a) (DqAll.sub s b)
end
mutual
theorem Dq.apart {K : PySem.W.Frag} {N : List Addr} {H : Hp} {z : Addr} (e : H z = none) : ∀ {d : PyData} {v : V}, Dq K N H v d → Dq K (z :: N) H v d
  | .none, _, h => by cases h; exact .non
  | .bool _, _, h => by cases h; exact .bl _
  | .int _, _, h => by cases h; exact .int _
  | .str _, _, h => by cases h with | str q l => exact .str q l
  | .list _, _, h => by
    cases h with
    | lst a n q =>
      refine .lst a (fun m => ?_) (DqAll.apart e q)
      rcases List.mem_cons.mp m with m | m
      · rw [m, e] at a
        cases a
      · exact n m
  | .tuple _, _, h => by cases h with | tup a q => exact .tup a (DqAll.apart e q)
  | .dict _, _, h => by cases h
theorem DqAll.apart {K : PySem.W.Frag} {N : List Addr} {H : Hp} {z : Addr} (e : H z = none) : ∀ {ds : List PyData} {vs : List V}, DqAll K N H vs ds → DqAll K (z :: N) H vs ds
  | [], _, h => by cases h; exact .nil
  | _ :: _, _, h => by cases h with | cons a b => exact .cons (Dq.apart e a) (DqAll.apart e b)
end
theorem dicts_same {L M : Pr} (hL : (L.map (·.1)).Nodup) (hM : (M.map (·.1)).Nodup) (hk : ∀ x, x ∈ L.map (·.1) ↔ x ∈ M.map (·.1)) (hv : ∀ x, expo L x = expo M x) : (dSI L).length = (dSI M).length ∧ ∀ p ∈ dSI L, valV (dSI M) p.1 = some p.2 ∧ flatB p.2 = true := by
  constructor
  · have a := nodup_len hL fun x hx => (hk x).mp hx
    have b := nodup_len hM fun x hx => (hk x).mpr hx
    rw [List.length_map, List.length_map] at a b
    rw [dSI_len, dSI_len]
    omega
  · intro p hp
    obtain ⟨e, he, rfl⟩ := List.mem_map.mp hp
    have hx : e.1 ∈ L.map (·.1) := List.mem_map_of_mem he
    have i1 := valV_some hM ((hk _).mp hx)
    refine ⟨?_, rfl⟩
    show valV (dSI M) (Sum.inr e.1) = some (.int e.2)
    rw [i1, ← hv]
    have e1 : valV (dSI L) (Sum.inr e.1) = some (.int e.2) := by
      clear hp hk hv i1 hM
      induction L with
      | nil => cases he
      | cons f r ih =>
        rw [List.map_cons, List.nodup_cons] at hL
        have e2 : dSI (f :: r) = (Sum.inr f.1, V.int f.2) :: dSI r := rfl
        rw [e2]
        rcases List.mem_cons.mp he with z | z
        · rw [← z]
          exact valV_pos rfl
        · have ne : ¬ (Sum.inr f.1 : L2.Key) = Sum.inr e.1 := fun k => hL.1 (by
            have : f.1 = e.1 := by injection k
            rw [this]
            exact List.mem_map_of_mem z)
          rw [valV_neg ne]
          exact ih hL.2 z (List.mem_map_of_mem z)
    rw [valV_some hL hx] at e1
    exact e1
def kindsD (way : Nat) : PyData := .list [.bool (decide (way = 0)), .bool (decide (way = 1)), .bool (decide (way = 2)), .bool (decide (way = 3)), .bool true]
theorem kindsDp {K : PySem.W.Frag} {H : Hp} {l : Addr} {way : Nat} (h : H l = some (.lst (kindsL way))) : Dp K H (.ref l) (kindsD way) := .lst (SqL.of h) (.cons (.bl _) (.cons (.bl _) (.cons (.bl _) (.cons (.bl _) (.cons (.bl _) .nil)))))
theorem kinds_sh (way : Nat) : SeqAt.shaped (kindsD way) = true := by simp [kindsD, SeqAt.shaped, PyData.canLay0, PyData.canLayAll0, PyData.depth, PyData.depthAll]
theorem kinds_eqv (way : Nat) : PyData.eqv (kindsD way) (kindsD way) = true := SeqAt.eqv_refl _ (by simp [kindsD, PyData.canLay0, PyData.canLayAll0])
theorem kinds_is : ∀ {j : Nat}, j < 4 → [V.bl (decide (V.int (j : Int) = V.int 0)), V.bl (decide (V.int (j : Int) = V.int 1)), V.bl (decide (V.int (j : Int) = V.int 2)), V.bl (decide (V.int (j : Int) = V.int 3)), V.bl true] = kindsL j
  | 0, _ => rfl
  | 1, _ => rfl
  | 2, _ => rfl
  | 3, _ => rfl
  | j + 4, h => absurd h (by omega)
/-! ### the law -/
theorem merge_two {x y : Str} (h : x ≠ y) (i j : Int) : mergeK [] [((.inr x : L2.Key), V.int i), (.inr y, V.int j)] = dSI [(x, i), (y, j)] := by
  have e : ¬ (Sum.inr x : L2.Key) = Sum.inr y := fun z => h (Sum.inr.inj z)
  simp [mergeK, putK, dSI, e]
theorem under_bad {x : Str} (h : x.length ≤ 8) : nameOk (.str (x ++ Str.ofString "_")) = false := by
  show (decide (1 ≤ (x ++ Str.ofString "_").length) && (decide ((x ++ Str.ofString "_").length ≤ 8) && !(x ++ Str.ofString "_").cps.toList.any badC)) = false
  have e : (x ++ Str.ofString "_").cps.toList.any badC = true := by
    rw [List.any_eq_true]
    refine ⟨95, ?_, by decide⟩
    show 95 ∈ (x.cps ++ (Str.ofString "_").cps).toList
    rw [Array.toList_append]
    exact List.mem_append_right _ (by decide +kernel)
  rw [e]
  simp
theorem under_txt {nm : List Str} (no : NamesOk nm) {x : Str} (h : x ∈ nm) : PyData.strOk (x ++ Str.ofString "_") = true ∧ (x ++ Str.ofString "_").length ≤ 1000 := by
  have a := texts_names no x h
  have b := (no.ok x h).2.1
  refine ⟨?_, ?_⟩
  · unfold PyData.strOk at a ⊢
    show (x.cps ++ (Str.ofString "_").cps).all _ = true
    rw [Array.all_append, a]
    decide +kernel
  · rw [strLen_append]
    have : (Str.ofString "_").length = 1 := by decide +kernel
    omega
section
variable {P : Program} {w : World} {K : PySem.W.Frag} {mg : Str → Option Value} {base : Heap} {C : Addr}
def spLaw (K : PySem.W.Frag) : Sp := fun vs H Q _ => ∃ (a : Addr) (ns : List Int), vs = [.ref a] ∧ SqL K H a (ns.map V.int) ∧ ns.length ≤ 63 ∧ ∀ H', Q (.bl true) H'
set_option maxHeartbeats 4000000 in
theorem ok_law {f : Addr} {fd : FuncData} (T : Txt K mg C) (FF : DefAt K mg "law" "law" s_law ["_law_script"] f fd) : FnOk P w K mg base CX0 90 f fd ["_law_script"] (spLaw K) := by
  obtain ⟨Lp, B, D, N, U, X⟩ := id T.ex
  obtain ⟨f0, fd0, D_law_names⟩ := T.d_law_names
  have G_law_names : FnOk P w K mg base CX0 2 f0 fd0 ["_law_h"] (spNames K) := ok_law_names T D_law_names
  obtain ⟨f1, fd1, D_law_kinds⟩ := T.d_law_kinds
  have G_law_kinds : FnOk P w K mg base CX0 22 f1 fd1 ["_law_way", "_law_program", "_law_bad", "_law_names_here"] (spKinds K) := ok_law_kinds T D_law_kinds
  obtain ⟨f5, fd5, D_need_program⟩ := T.d_need_program
  have G_need_program : FnOk P w K mg base (L2.CX P w) 16 f5 fd5 ["program"] (spProgram K B) := ok_need_program X T D_need_program
  obtain ⟨f6, fd6, D_law_next⟩ := T.d_law_next
  have G_law_next : FnOk P w K mg base CX0 1 f6 fd6 ["_law_h", "_law_many"] spNext := ok_law_next T D_law_next
  refine FF.F.ok sc_law (fun vs H Q E h => ?_) (fun cdv A outer s H vs Q E hr h => ?_)
  · obtain ⟨a, ns, rfl, _⟩ := h
    rfl
  · obtain ⟨a0, ns, rfl, hS, hlen, q⟩ := h
    refine ⟨_, (pss_cons (ps_set (i := 1) sc_law.nd rfl (.inl rfl) (pe_lst (pa_cons pe_int (pa_cons (pe_callTy call_list_of (by rfl) T.m_list (by decide +kernel) (pa_cons (pv 0) pa_nil)) (pa_cons pe_int pa_nil)))))
      (pss_cons (ps_asg (pe_slice sl_list (pe_call G_law_names (hr.mono (by decide)) (by rfl) D_law_names.g D_law_names.F.kp D_law_names.b .nil pass0 (pa_cons (pv 1) pa_nil)) po_none (po_some pe_int)) (pg_unl rfl (pgs_cons (pg_name (i := 2) sc_law.nd rfl (.inl rfl)) (pgs_cons (pg_name (i := 3) sc_law.nd rfl (.inl rfl)) pgs_nil))))
      (pss_cons (ps_set (i := 4) sc_law.nd rfl (.inl rfl) (pe_tup (pa_cons pe_str (pa_cons (pv 2) (pa_cons (pe_tup (pa_cons pe_str (pa_cons (pe_call G_law_next (hr.mono (by decide)) (by rfl) D_law_next.g D_law_next.F.kp D_law_next.b .nil pass0 (pa_cons (pv 1) (pa_cons pe_int pa_nil))) pa_nil))) (pa_cons (pe_tup (pa_cons pe_str (pa_cons (pe_tup (pa_cons (pe_tup (pa_cons pe_str (pa_cons (pv 2) (pa_cons (pe_tup (pa_cons pe_str (pa_cons (pe_tup (pa_cons pe_str (pa_cons (pv 2) pa_nil))) (pa_cons (pe_tup (pa_cons pe_str (pa_cons (pv 3) pa_nil))) pa_nil)))) pa_nil)))) pa_nil)) pa_nil))) pa_nil))))))
      (pss_cons (ps_set (i := 5) sc_law.nd rfl (.inl rfl) (pe_tup (pa_cons pe_str (pa_cons (pe_tup (pa_cons (pe_tup (pa_cons pe_str (pa_cons (pe_tup (pa_cons pe_str (pa_cons (pe_call G_law_next (hr.mono (by decide)) (by rfl) D_law_next.g D_law_next.F.kp D_law_next.b .nil pass0 (pa_cons (pv 1) (pa_cons pe_int pa_nil))) pa_nil))) pa_nil))) (pa_cons (pv 4) pa_nil))) pa_nil))))
      (pss_cons (ps_set (i := 6) sc_law.nd rfl (.inl rfl) (pe_tup (pa_cons pe_str (pa_cons (pe_tup (pa_cons (pv 4) (pa_cons (pe_tup (pa_cons pe_str (pa_cons (pe_op op_add_str (pv 2) pe_str) (pa_cons (pe_tup (pa_cons pe_str (pa_cons pe_int pa_nil))) pa_nil)))) pa_nil))) pa_nil))))
      (pss_cons (ps_set (i := 7) sc_law.nd rfl (.inl rfl) (pe_disp (pps_cons (pv 2) (pe_op op_add pe_int (pe_call G_law_next (hr.mono (by decide)) (by rfl) D_law_next.g D_law_next.F.kp D_law_next.b .nil pass0 (pa_cons (pv 1) (pa_cons pe_int pa_nil)))) (pps_cons (pv 3) (pe_call G_law_next (hr.mono (by decide)) (by rfl) D_law_next.g D_law_next.F.kp D_law_next.b .nil pass0 (pa_cons (pv 1) (pa_cons pe_int pa_nil))) pps_nil)) rfl rfl (by simp) (by simp)))
      (pss_cons (ps_set (i := 8) sc_law.nd rfl (.inl rfl) (pe_callTy call_dictD (by rfl) T.m_dict (by decide +kernel) (pa_cons (pv 7) pa_nil)))
      (pss_cons (ps_for PassesOwn.never rfl (pi_range1 rfl T.m_range (pa_cons pe_int pa_nil)) (pg_name (i := 9) sc_law.nd rfl (.inl rfl)) (pss_cons (ps_for PassesOwn.never rfl (pi_range1 rfl T.m_range (pa_cons pe_int pa_nil)) (pg_name (i := 10) sc_law.nd rfl (.inl rfl)) (pss_one (ps_if (pt_cmpR (op_neD hr.units) (pe_call G_law_kinds (hr.mono (by decide)) (by rfl) D_law_kinds.g D_law_kinds.F.kp D_law_kinds.b .nil pass0 (pa_cons (pv 10) (pa_cons (pv 5) (pa_cons (pv 6) (pa_cons (pv 7) pa_nil))))) (pe_lst (pa_cons (pe_cmpR op_eq (pv 10) pe_int (nomark _)) (pa_cons (pe_cmpR op_eq (pv 10) pe_int (nomark _)) (pa_cons (pe_cmpR op_eq (pv 10) pe_int (nomark _)) (pa_cons (pe_cmpR op_eq (pv 10) pe_int (nomark _)) (pa_cons pe_bl pa_nil)))))) (nomark _)) (pss_one (ps_ret pe_bl)) pss_nil))) (pss_one (ps_if (PW.pt (pw_or (pt_cmpR (op_ne_dictA (Nat.lt_of_le_of_lt (Nat.le_add_right _ _) (room1 hr))) (pv 7) (pv 8) (nomark _)) (pw_or1 (pt_cmp (pc_notN (pe_callS G_need_program (hr.mono (by decide)) (by rfl) D_need_program.g D_need_program.F.kp D_need_program.b (fun σ => passAt takes0 σ) (pa_cons (pv 5) pa_nil))) (by rfl))))) (pss_one (ps_ret pe_bl)) pss_nil))))
      (pss_one (ps_ret pe_bl)))))))))), ?_⟩
    refine ⟨_, rfl, a0, _, rfl, .inl hS, fun c hc => ⟨(by show 3 ≤ sizeLine; decide), fun h hh => ?_⟩⟩
    have A0 : HAt (upd (upd H c (.lst (ns.map V.int))) h (.lst [.int 101, .ref c, .int 0])) h c 101 0 ns := by
      have nhc : c ≠ h := ne_of_none upd_same hh
      exact ⟨upd_same, by rw [upd_ne nhc]; exact upd_same, hlen⟩
    refine ⟨_, rfl, h, c, _, _, _, rfl, A0, fun s2 k2 cs2 nm ln H3 nok A3 B3 nl nlh nlc el => ?_⟩
    refine ⟨2, rfl, ln, _, rfl, SqL.of el, fun l4 nl4 => ?_⟩
    obtain ⟨x, y, rest, enm⟩ : ∃ x y r, nm = x :: y :: r := by
      match nm, nok.len with
      | x :: y :: r, _ => exact ⟨x, y, r, rfl⟩
    have ec : cutV (nm.map V.str) none (some 2) = [.str x, .str y] := by
      have e2 : ((2 : Nat) : Int) = 2 := rfl
      unfold cutV
      rw [HT.sIx_none, ← e2, HT.sIx_nat, List.drop_zero, Nat.sub_zero, enm]
      have : min 2 ((x :: y :: rest).map V.str).length = 2 := by simp
      rw [this]
      rfl
    rw [ec]
    have u4 := same_upd (o := .lst [.str x, .str y]) nl4
    have A4 := A3.same u4
    have hx : x ∈ nm := by rw [enm]; exact List.mem_cons_self
    have hy : y ∈ nm := by rw [enm]; exact List.mem_cons_of_mem _ List.mem_cons_self
    have gx : x ∈ gsOf nm := by rw [enm]; unfold gsOf; simp
    have gy : y ∈ gsOf nm := by rw [enm]; unfold gsOf; simp
    have nxy : x ≠ y := fun z => by
      have := nok.nd
      rw [enm, z] at this
      exact absurd List.mem_cons_self (List.nodup_cons.mp this).1
    refine ⟨l4, _, rfl, SqL.of upd_same, rfl, _, [.str y], rfl, _, [], rfl, rfl, ?_⟩
    dsimp only
    refine ⟨_, rfl, _, rfl, h, c, _, _, 1000, _, rfl, by decide, by decide, A4, fun s5 k5 cs5 m H5 m0 m1 A5 B5 => ⟨(by show 2 ≤ sizeLine; decide), fun t1 n1 => ?_⟩⟩
    have u1 := same_upd (o := .tup [.str "num", .int m]) n1
    have A6 := A5.same u1
    have dm : Dq K [h, c] (upd H5 t1 (.tup [.str "num", .int m])) (.ref t1) (dE (.num m)) := .tup (SqT.of upd_same) (.cons (.word (by decide)) (.cons (.int m) .nil))
    have tx : PyData.strOk x = true ∧ x.length ≤ 1000 := nok.txt hx
    have ty : PyData.strOk y = true ∧ y.length ≤ 1000 := nok.txt hy
    have LR : LitA K [h, c] [some (.ref a0), some (.ref h), some (.str x), some (.str y), none, none, none, none, none, none, none] (upd H5 t1 (.tup [.str "num", .int m])) _ [dP (b22 x y)] :=
      lit_cons (lit_tup (lit_cons (lit_str (wordOk (x := "row") (by decide))) (lit_cons (lit_tup (lit_cons (lit_tup (lit_cons (lit_str (wordOk (x := "set") (by decide))) (lit_cons (lit_var (i := 2) rfl (.str tx.1 tx.2)) (lit_cons (lit_tup (lit_cons (lit_str (wordOk (x := "add") (by decide))) (lit_cons (lit_tup (lit_cons (lit_str (wordOk (x := "name") (by decide))) (lit_cons (lit_var (i := 2) rfl (.str tx.1 tx.2)) lit_nil))) (lit_cons (lit_tup (lit_cons (lit_str (wordOk (x := "name") (by decide))) (lit_cons (lit_var (i := 3) rfl (.str ty.1 ty.2)) lit_nil))) lit_nil)))) lit_nil)))) lit_nil)) lit_nil))) lit_nil
    refine LR _ _ (Same.refl _) fun vs7 H7 s7 d7 => ?_
    cases d7 with
    | @cons v7 _ _ _ d7 r7 =>
      cases r7
      refine ⟨(by show 4 ≤ sizeLine; decide), fun t8 n8 => gName_go ?_⟩
      have u8 := same_upd (o := .tup [.str "lap", .str x, .ref t1, v7]) n8
      have A8 := (A6.same s7).same u8
      have dl : Dq K [h, c] _ (.ref t8) (.tuple [.str "lap", .str x, dE (.num m), dP (b22 x y)]) := .tup (SqT.of upd_same) (.cons (.word (by decide)) (.cons (.str tx.1 tx.2) (.cons (dm.stay (Sty.same (s7.trans u8))) (.cons (d7.stay (Sty.same u8)) .nil))))
      clear A0 A3 B3 A4 A5 B5 A6 LR d7 dm el u1 s7 n8 n1 u4 ec
      generalize upd H7 t8 _ = H8 at *
      dsimp only
      refine ⟨_, rfl, h, c, _, _, 1000, _, rfl, by decide, by decide, A8, fun s9 k9 cs9 n H9 n0 n1 A9 B9 => ⟨(by show 2 ≤ sizeLine; decide), fun e1 m1' => ⟨(by show 2 ≤ sizeLine; decide), fun e2 m2 => ⟨_, rfl, (by show 2 ≤ sizeLine; decide), fun e3 m3 => ⟨(by show 2 ≤ sizeLine; decide), fun e4 m4 => gName_go ?_⟩⟩⟩⟩⟩
      have w1 := same_upd (o := .tup [.str "num", .int n]) m1'
      have w2 := same_upd (o := .tup [.str "say", .ref e1]) m2
      have w3 := same_upd (o := .tup [.ref e2, .ref t8]) m3
      have w4 := same_upd (o := .tup [.str "row", .ref e3]) m4
      have st9 : Sty [h, c] H8 H9 := B9.sty A8
      have c1 : Dq K [h, c] (upd H9 e1 (.tup [.str "num", .int n])) (.ref e1) (dE (.num n)) := .tup (SqT.of upd_same) (.cons (.word (by decide)) (.cons (.int n) .nil))
      have c2 : Dq K [h, c] (upd (upd H9 e1 (.tup [.str "num", .int n])) e2 (.tup [.str "say", .ref e1])) (.ref e2) (.tuple [.str "say", dE (.num n)]) := .tup (SqT.of upd_same) (.cons (.word (by decide)) (.cons (c1.stay (Sty.same w2)) .nil))
      have dl9 := (dl.stay st9).stay (Sty.same (w1.trans w2))
      have c3 : Dq K [h, c] (upd (upd (upd H9 e1 (.tup [.str "num", .int n])) e2 (.tup [.str "say", .ref e1])) e3 (.tup [.ref e2, .ref t8])) (.ref e3) (.tuple (dR (pr22 x y n m))) := .tup (SqT.of upd_same) (.cons (c2.stay (Sty.same w3)) (.cons (dl9.stay (Sty.same w3)) .nil))
      have c4 : Dq K [h, c] (upd (upd (upd (upd H9 e1 (.tup [.str "num", .int n])) e2 (.tup [.str "say", .ref e1])) e3 (.tup [.ref e2, .ref t8])) e4 (.tup [.str "row", .ref e3])) (.ref e4) (dP (pr22 x y n m)) := .tup (SqT.of upd_same) (.cons (.word (by decide)) (.cons (c3.stay (Sty.same w4)) .nil))
      have dlA := (dl9.stay (Sty.same w3)).stay (Sty.same w4)
      have AA := A9.same (((w1.trans w2).trans w3).trans w4)
      clear A8 B9 A9 st9 c1 c2 c3 dl9 dl w1 w2 w3 w4 m1' m2 m3 m4
      generalize (upd (upd (upd (upd H9 e1 (.tup [.str "num", .int n])) e2 (.tup [.str "say", .ref e1])) e3 (.tup [.ref e2, .ref t8])) e4 (.tup [.str "row", .ref e3])) = HA at *
      dsimp only
      have ut := under_txt nok hx
      refine lit_set (K := K) (N := [h, c]) (d := .tuple [.str "row", .tuple [.tuple [.str "lap", .str x, dE (.num m), dP (b22 x y)], .tuple [.str "set", .str (x ++ Str.ofString "_"), .tuple [.str "num", .int 1]]]])
        (lit_tup (lit_cons (lit_str (wordOk (x := "row") (by decide))) (lit_cons (lit_tup (lit_cons (lit_var (i := 4) rfl dlA) (lit_cons (lit_tup (lit_cons (lit_str (wordOk (x := "set") (by decide))) (lit_cons (fun H Q _ q => ⟨_, rfl, x, Str.ofString "_", rfl, rfl, (by have := tx.2; have e : (Str.ofString "_").length = 1 := (by decide +kernel); rw [sizeLine_eq]; omega), q _ _ (Same.refl _) (.str ut.1 ut.2)⟩) (lit_cons (lit_tup (lit_cons (lit_str (wordOk (x := "num") (by decide))) (lit_cons (lit_int 1) lit_nil))) lit_nil)))) lit_nil))) lit_nil))) fun vb HB sB dB => ?_
      have AB := AA.same sB
      have cB := c4.stay (Sty.same sB)
      obtain ⟨pb, xb, rfl, _, _⟩ := dB.isTup
      clear c4 dlA sB AA
      refine fun d nd => ⟨_, rfl, _, rfl, h, c, _, _, 9, _, rfl, by decide, by decide, AB.same (same_upd nd), fun s10 k10 cs10 r1 H10 r10 r11 A10 B10 => ⟨2, r1, rfl, rfl, _, rfl, _, rfl, h, c, _, _, 9, _, rfl, by decide, by decide, A10, fun s11 k11 cs11 r2 H11 r20 r21 A11 B11 => ?_⟩⟩
      have ed0 : (upd HB d (.dK [])) d = some (.dK []) := upd_same
      have ndh : d ≠ h := fun z => by rw [z, AB.h] at nd; cases nd
      have ndc : d ≠ c := fun z => by rw [z, AB.c] at nd; cases nd
      have ed11 : H11 d = some (.dK []) := B11 _ _ (B10 _ _ ed0 ndh ndc) ndh ndc
      refine ⟨ed11, [(.inr x, .int (2+r1)), (.inr y, .int r2)], rfl, (by show 2 ≤ 15; decide), gName_go ?_⟩
      rw [merge_two nxy]
      dsimp only
      have st : Sty (h :: c :: [d]) HB H11 := ⟨fun a o e n => B11 a o (B10 a o (same_upd nd _ _ e) (fun z => n (by simp [z])) (fun z => n (by simp [z]))) (fun z => n (by simp [z])) (fun z => n (by simp [z])), (TupsStay.same (same_upd nd)).trans ((B10.tups (AB.same (same_upd nd))).trans (B11.tups A10))⟩
      have sd : Sty (d :: [h, c]) HB H11 := ⟨fun a o e n => st.but a o e (fun z => n (by simp at z ⊢; rcases z with z | z | z <;> simp [z])), st.tup⟩
      have cC := (cB.apart nd).stay sd
      have dC := (dB.apart nd).stay sd
      have sdU : Sty (d :: [h, c]) H11 (upd H11 d (.dK (dSI [(x, 2 + r1), (y, r2)]))) := ⟨fun a o e n => by rw [upd_ne (fun z => n (by simp [z]))]; exact e, TupsStay.upd ed11 True.intro⟩
      have cD := cC.stay sdU
      have dD := dC.stay sdU
      have eD : (upd H11 d (.dK (dSI [(x, 2 + r1), (y, r2)]))) d = some (.dK (dSI [(x, 2 + r1), (y, r2)])) := upd_same
      clear cC dC sdU sd st ed0 ed11 A11 B11 A10 B10 AB cB dB nd ndh ndc
      generalize upd H11 d (.dK (dSI [(x, 2 + r1), (y, r2)])) = H12 at *
      refine ⟨_, rfl, d, _, rfl, .inl eD, fun kd nk => gName_go ?_⟩
      have sk := same_upd (o := .dK (dSI [(x, 2 + r1), (y, r2)])) nk
      have eK : (upd H12 kd (.dK (dSI [(x, 2 + r1), (y, r2)]))) kd = some (.dK (dSI [(x, 2 + r1), (y, r2)])) := upd_same
      have cE := cD.stay (Sty.same sk)
      have dE' := dD.stay (Sty.same sk)
      have eE := sk _ _ eD
      have inn : In22 nm x y n m := ⟨nok, gx, gy, nxy, ⟨n0, n1⟩, ⟨m0, m1⟩⟩
      obtain ⟨e4', z4, rw4⟩ := cE.rw
      injection z4 with z4
      subst z4
      have at0 : At22 K _ e4 pb d nm x y n m (2 + r1) r2 _ := ⟨inn, rw4, dE'.sub (fun _ z => absurd z List.not_mem_nil), bad_prog (ps := [_]) (bad_set (.inl (under_bad (nok.ok x hx).2.1))), eE, by omega, by omega⟩
      clear sk nk cD dD eD dE' eE
      generalize upd H12 kd (.dK (dSI [(x, 2 + r1), (y, r2)])) = HC at *
      dsimp only
      refine ⟨2, rfl, by decide, by decide, for_range (n := 2) (fun i σ Hc => ∃ (v9 v10 : Option V), σ = [some (.ref a0), some (.ref h), some (.str x), some (.str y), some (.ref t8), some (.ref e4), some (.ref pb), some (.ref d), some (.ref kd), v9, v10] ∧ Same HC Hc) ⟨none, none, rfl, Same.refl _⟩ (fun i σ Hc hi ⟨v9, v10, hs, sm⟩ => ?_) (fun _ _ _ => q _)⟩
      subst hs
      dsimp only
      refine ⟨4, rfl, by decide, by decide, for_range (n := 4) (fun j σ Hd => ∃ (v10 : Option V), σ = [some (.ref a0), some (.ref h), some (.str x), some (.str y), some (.ref t8), some (.ref e4), some (.ref pb), some (.ref d), some (.ref kd), some (.int (0 + (i : Int))), v10] ∧ Same HC Hd) ⟨v10, rfl, sm⟩ (fun j σ Hd hj ⟨w10, hs, sd⟩ => ?_) (fun σ Hd ⟨w10, hs, sd⟩ => ?_)⟩
      · subst hs
        dsimp only
        have ej : (0 + (j : Int)) = (j : Int) := Int.zero_add _
        rw [ej]
        refine ⟨_, rfl, _, rfl, _, rfl, _, rfl, e4, pb, d, nm, x, y, n, m, 2 + r1, r2, _, j, rfl, hj, at0.same sd, fun l He el se => ?_⟩
        refine ⟨_, rfl, rfl, _, rfl, rfl, _, rfl, rfl, _, rfl, rfl, (by show 5 ≤ sizeLine; decide), fun l2 nl2 => ?_⟩
        rw [kinds_is hj]
        have s2 := same_upd (o := .lst (kindsL j)) nl2
        have el2 : (upd He l2 (.lst (kindsL j))) l2 = some (.lst (kindsL j)) := upd_same
        refine ⟨kindsD j, kindsD j, kindsDp (s2 _ _ el), kindsDp el2, kinds_sh j, kinds_sh j, _, rfl, ite2 (fun c => ?_) (fun _ => ⟨_, rfl, (sd.trans se).trans s2⟩)⟩
        rw [kinds_eqv] at c
        exact absurd c (by decide)
      · subst hs
        dsimp only
        have dd : (dSI [(x, 2 + r1), (y, r2)]).length = (dSI [(x, 2 + r1), (y, r2)]).length ∧ ∀ p ∈ dSI [(x, 2 + r1), (y, r2)], valV (dSI [(x, 2 + r1), (y, r2)]) p.1 = some p.2 ∧ flatB p.2 = true := dicts_same (by simpa using nxy) (by simpa using nxy) (fun _ => Iff.rfl) (fun _ => rfl)
        refine ⟨_, rfl, _, rfl, d, kd, _, _, rfl, rfl, sd _ _ at0.dn, sd _ _ eK, rfl, dd.2, _, rfl, ite2 (fun c => absurd c (by decide)) (fun _ => ?_)⟩
        refine ⟨_, rfl, _, [], _, rfl, RwAt.dq nok inn.ok (at0.same sd).rat, fun _ H' s' => ?_, fun z => ?_⟩
        · refine ⟨_, rfl, ite2 (fun c => absurd c (by decide)) (fun _ => ⟨_, _, rfl, sd.trans s'⟩)⟩
        · rw [inn.prog] at z
          cases z
end
set_option maxHeartbeats 4000000 in
theorem all_mk {l : PySem.W.OpenLaw} {w : World} {K : PySem.W.Frag} {h : Heap} {mg : Str → Option Value} {fa : Addr} (X : K.In h) (G : h.Ns mainGlobals mg) (hfa : mg "law" = some (.ref fa))
    {f0 : Addr} {od0 an0 : Option Addr} {sl0 : Array (Option Value)} {oc0 kV0 dc0 pm0 cd0 ct0 : Value}
    (a0 : PySem.W.nsIn K mainGlobals "share" = some (some (.ref f0))) (l0 : K.lookup f0 = some ⟨oc0, od0, .func (PySem.W.fnOf "share" "share" (defArgs s_share) (defBody s_share) (defScope s_share) .none kV0 dc0 pm0 an0 cd0 ct0), sl0⟩) (c0 : PySem.W.codeIn K cd0 "share" = true) (k0 : PySem.W.keepIn K (.ref f0) = true)
    {f1 : Addr} {od1 an1 : Option Addr} {sl1 : Array (Option Value)} {oc1 kV1 dc1 pm1 cd1 ct1 : Value}
    (a1 : PySem.W.nsIn K mainGlobals "plus" = some (some (.ref f1))) (l1 : K.lookup f1 = some ⟨oc1, od1, .func (PySem.W.fnOf "plus" "plus" (defArgs s_plus) (defBody s_plus) (defScope s_plus) .none kV1 dc1 pm1 an1 cd1 ct1), sl1⟩) (c1 : PySem.W.codeIn K cd1 "plus" = true) (k1 : PySem.W.keepIn K (.ref f1) = true)
    {f2 : Addr} {od2 an2 : Option Addr} {sl2 : Array (Option Value)} {oc2 kV2 dc2 pm2 cd2 ct2 : Value}
    (a2 : PySem.W.nsIn K mainGlobals "minus" = some (some (.ref f2))) (l2 : K.lookup f2 = some ⟨oc2, od2, .func (PySem.W.fnOf "minus" "minus" (defArgs s_minus) (defBody s_minus) (defScope s_minus) .none kV2 dc2 pm2 an2 cd2 ct2), sl2⟩) (c2 : PySem.W.codeIn K cd2 "minus" = true) (k2 : PySem.W.keepIn K (.ref f2) = true)
    {f3 : Addr} {od3 an3 : Option Addr} {sl3 : Array (Option Value)} {oc3 kV3 dc3 pm3 cd3 ct3 : Value}
    (a3 : PySem.W.nsIn K mainGlobals "times" = some (some (.ref f3))) (l3 : K.lookup f3 = some ⟨oc3, od3, .func (PySem.W.fnOf "times" "times" (defArgs s_times) (defBody s_times) (defScope s_times) .none kV3 dc3 pm3 an3 cd3 ct3), sl3⟩) (c3 : PySem.W.codeIn K cd3 "times" = true) (k3 : PySem.W.keepIn K (.ref f3) = true)
    {f4 : Addr} {od4 an4 : Option Addr} {sl4 : Array (Option Value)} {oc4 kV4 dc4 pm4 cd4 ct4 : Value}
    (a4 : PySem.W.nsIn K mainGlobals "sum_of_number" = some (some (.ref f4))) (l4 : K.lookup f4 = some ⟨oc4, od4, .func (PySem.W.fnOf "sum_of_number" "sum_of_number" (defArgs s_sum_of_number) (defBody s_sum_of_number) (defScope s_sum_of_number) .none kV4 dc4 pm4 an4 cd4 ct4), sl4⟩) (c4 : PySem.W.codeIn K cd4 "sum_of_number" = true) (k4 : PySem.W.keepIn K (.ref f4) = true)
    {f5 : Addr} {od5 an5 : Option Addr} {sl5 : Array (Option Value)} {oc5 kV5 dc5 pm5 cd5 ct5 : Value}
    (a5 : PySem.W.nsIn K mainGlobals "sum_of_name" = some (some (.ref f5))) (l5 : K.lookup f5 = some ⟨oc5, od5, .func (PySem.W.fnOf "sum_of_name" "sum_of_name" (defArgs s_sum_of_name) (defBody s_sum_of_name) (defScope s_sum_of_name) .none kV5 dc5 pm5 an5 cd5 ct5), sl5⟩) (c5 : PySem.W.codeIn K cd5 "sum_of_name" = true) (k5 : PySem.W.keepIn K (.ref f5) = true)
    {f6 : Addr} {od6 an6 : Option Addr} {sl6 : Array (Option Value)} {oc6 kV6 dc6 pm6 cd6 ct6 : Value}
    (a6 : PySem.W.nsIn K mainGlobals "added" = some (some (.ref f6))) (l6 : K.lookup f6 = some ⟨oc6, od6, .func (PySem.W.fnOf "added" "added" (defArgs s_added) (defBody s_added) (defScope s_added) .none kV6 dc6 pm6 an6 cd6 ct6), sl6⟩) (c6 : PySem.W.codeIn K cd6 "added" = true) (k6 : PySem.W.keepIn K (.ref f6) = true)
    {f7 : Addr} {od7 an7 : Option Addr} {sl7 : Array (Option Value)} {oc7 kV7 dc7 pm7 cd7 ct7 : Value}
    (a7 : PySem.W.nsIn K mainGlobals "lessened" = some (some (.ref f7))) (l7 : K.lookup f7 = some ⟨oc7, od7, .func (PySem.W.fnOf "lessened" "lessened" (defArgs s_lessened) (defBody s_lessened) (defScope s_lessened) .none kV7 dc7 pm7 an7 cd7 ct7), sl7⟩) (c7 : PySem.W.codeIn K cd7 "lessened" = true) (k7 : PySem.W.keepIn K (.ref f7) = true)
    {f8 : Addr} {od8 an8 : Option Addr} {sl8 : Array (Option Value)} {oc8 kV8 dc8 pm8 cd8 ct8 : Value}
    (a8 : PySem.W.nsIn K mainGlobals "timed" = some (some (.ref f8))) (l8 : K.lookup f8 = some ⟨oc8, od8, .func (PySem.W.fnOf "timed" "timed" (defArgs s_timed) (defBody s_timed) (defScope s_timed) .none kV8 dc8 pm8 an8 cd8 ct8), sl8⟩) (c8 : PySem.W.codeIn K cd8 "timed" = true) (k8 : PySem.W.keepIn K (.ref f8) = true)
    {f9 : Addr} {od9 an9 : Option Addr} {sl9 : Array (Option Value)} {oc9 kV9 dc9 pm9 cd9 ct9 : Value}
    (a9 : PySem.W.nsIn K mainGlobals "put_in" = some (some (.ref f9))) (l9 : K.lookup f9 = some ⟨oc9, od9, .func (PySem.W.fnOf "put_in" "put_in" (defArgs s_put_in) (defBody s_put_in) (defScope s_put_in) .none kV9 dc9 pm9 an9 cd9 ct9), sl9⟩) (c9 : PySem.W.codeIn K cd9 "put_in" = true) (k9 : PySem.W.keepIn K (.ref f9) = true)
    {f10 : Addr} {od10 an10 : Option Addr} {sl10 : Array (Option Value)} {oc10 kV10 dc10 pm10 cd10 ct10 : Value}
    (a10 : PySem.W.nsIn K mainGlobals "totalled" = some (some (.ref f10))) (l10 : K.lookup f10 = some ⟨oc10, od10, .func (PySem.W.fnOf "totalled" "totalled" (defArgs s_totalled) (defBody s_totalled) (defScope s_totalled) .none kV10 dc10 pm10 an10 cd10 ct10), sl10⟩) (c10 : PySem.W.codeIn K cd10 "totalled" = true) (k10 : PySem.W.keepIn K (.ref f10) = true)
    {f11 : Addr} {od11 an11 : Option Addr} {sl11 : Array (Option Value)} {oc11 kV11 dc11 pm11 cd11 ct11 : Value}
    (a11 : PySem.W.nsIn K mainGlobals "is_natural" = some (some (.ref f11))) (l11 : K.lookup f11 = some ⟨oc11, od11, .func (PySem.W.fnOf "is_natural" "is_natural" (defArgs s_is_natural) (defBody s_is_natural) (defScope s_is_natural) .none kV11 dc11 pm11 an11 cd11 ct11), sl11⟩) (c11 : PySem.W.codeIn K cd11 "is_natural" = true) (k11 : PySem.W.keepIn K (.ref f11) = true)
    {f12 : Addr} {od12 an12 : Option Addr} {sl12 : Array (Option Value)} {oc12 kV12 dc12 pm12 cd12 ct12 : Value}
    (a12 : PySem.W.nsIn K mainGlobals "same" = some (some (.ref f12))) (l12 : K.lookup f12 = some ⟨oc12, od12, .func (PySem.W.fnOf "same" "same" (defArgs s_same) (defBody s_same) (defScope s_same) .none kV12 dc12 pm12 an12 cd12 ct12), sl12⟩) (c12 : PySem.W.codeIn K cd12 "same" = true) (k12 : PySem.W.keepIn K (.ref f12) = true)
    {f13 : Addr} {od13 an13 : Option Addr} {sl13 : Array (Option Value)} {oc13 kV13 dc13 pm13 cd13 ct13 : Value}
    (a13 : PySem.W.nsIn K mainGlobals "names_in" = some (some (.ref f13))) (l13 : K.lookup f13 = some ⟨oc13, od13, .func (PySem.W.fnOf "names_in" "names_in" (defArgs s_names_in) (defBody s_names_in) (defScope s_names_in) .none kV13 dc13 pm13 an13 cd13 ct13), sl13⟩) (c13 : PySem.W.codeIn K cd13 "names_in" = true) (k13 : PySem.W.keepIn K (.ref f13) = true)
    {f14 : Addr} {od14 an14 : Option Addr} {sl14 : Array (Option Value)} {oc14 kV14 dc14 pm14 cd14 ct14 : Value}
    (a14 : PySem.W.nsIn K mainGlobals "_put_to" = some (some (.ref f14))) (l14 : K.lookup f14 = some ⟨oc14, od14, .func (PySem.W.fnOf "_put_to" "_put_to" (defArgs s_put_to) (defBody s_put_to) (defScope s_put_to) .none kV14 dc14 pm14 an14 cd14 ct14), sl14⟩) (c14 : PySem.W.codeIn K cd14 "_put_to" = true) (k14 : PySem.W.keepIn K (.ref f14) = true)
    {f15 : Addr} {od15 an15 : Option Addr} {sl15 : Array (Option Value)} {oc15 kV15 dc15 pm15 cd15 ct15 : Value}
    (a15 : PySem.W.nsIn K mainGlobals "_put_all_to" = some (some (.ref f15))) (l15 : K.lookup f15 = some ⟨oc15, od15, .func (PySem.W.fnOf "_put_all_to" "_put_all_to" (defArgs s_put_all_to) (defBody s_put_all_to) (defScope s_put_all_to) .none kV15 dc15 pm15 an15 cd15 ct15), sl15⟩) (c15 : PySem.W.codeIn K cd15 "_put_all_to" = true) (k15 : PySem.W.keepIn K (.ref f15) = true)
    {f16 : Addr} {od16 an16 : Option Addr} {sl16 : Array (Option Value)} {oc16 kV16 dc16 pm16 cd16 ct16 : Value}
    (a16 : PySem.W.nsIn K mainGlobals "_joined" = some (some (.ref f16))) (l16 : K.lookup f16 = some ⟨oc16, od16, .func (PySem.W.fnOf "_joined" "_joined" (defArgs s_joined) (defBody s_joined) (defScope s_joined) .none kV16 dc16 pm16 an16 cd16 ct16), sl16⟩) (c16 : PySem.W.codeIn K cd16 "_joined" = true) (k16 : PySem.W.keepIn K (.ref f16) = true)
    {f17 : Addr} {od17 an17 : Option Addr} {sl17 : Array (Option Value)} {oc17 kV17 dc17 pm17 cd17 ct17 : Value}
    (a17 : PySem.W.nsIn K mainGlobals "_number_raised" = some (some (.ref f17))) (l17 : K.lookup f17 = some ⟨oc17, od17, .func (PySem.W.fnOf "_number_raised" "_number_raised" (defArgs s_number_raised) (defBody s_number_raised) (defScope s_number_raised) .none kV17 dc17 pm17 an17 cd17 ct17), sl17⟩) (c17 : PySem.W.codeIn K cd17 "_number_raised" = true) (k17 : PySem.W.keepIn K (.ref f17) = true)
    {f18 : Addr} {od18 an18 : Option Addr} {sl18 : Array (Option Value)} {oc18 kV18 dc18 pm18 cd18 ct18 : Value}
    (a18 : PySem.W.nsIn K mainGlobals "_powers_of" = some (some (.ref f18))) (l18 : K.lookup f18 = some ⟨oc18, od18, .func (PySem.W.fnOf "_powers_of" "_powers_of" (defArgs s_powers_of) (defBody s_powers_of) (defScope s_powers_of) .none kV18 dc18 pm18 an18 cd18 ct18), sl18⟩) (c18 : PySem.W.codeIn K cd18 "_powers_of" = true) (k18 : PySem.W.keepIn K (.ref f18) = true)
    {f19 : Addr} {od19 an19 : Option Addr} {sl19 : Array (Option Value)} {oc19 kV19 dc19 pm19 cd19 ct19 : Value}
    (a19 : PySem.W.nsIn K mainGlobals "_part_raised" = some (some (.ref f19))) (l19 : K.lookup f19 = some ⟨oc19, od19, .func (PySem.W.fnOf "_part_raised" "_part_raised" (defArgs s_part_raised) (defBody s_part_raised) (defScope s_part_raised) .none kV19 dc19 pm19 an19 cd19 ct19), sl19⟩) (c19 : PySem.W.codeIn K cd19 "_part_raised" = true) (k19 : PySem.W.keepIn K (.ref f19) = true)
    {f20 : Addr} {od20 an20 : Option Addr} {sl20 : Array (Option Value)} {oc20 kV20 dc20 pm20 cd20 ct20 : Value}
    (a20 : PySem.W.nsIn K mainGlobals "_risen_fillings" = some (some (.ref f20))) (l20 : K.lookup f20 = some ⟨oc20, od20, .func (PySem.W.fnOf "_risen_fillings" "_risen_fillings" (defArgs s_risen_fillings) (defBody s_risen_fillings) (defScope s_risen_fillings) .none kV20 dc20 pm20 an20 cd20 ct20), sl20⟩) (c20 : PySem.W.codeIn K cd20 "_risen_fillings" = true) (k20 : PySem.W.keepIn K (.ref f20) = true)
    {f21 : Addr} {od21 an21 : Option Addr} {sl21 : Array (Option Value)} {oc21 kV21 dc21 pm21 cd21 ct21 : Value}
    (a21 : PySem.W.nsIn K mainGlobals "_filled" = some (some (.ref f21))) (l21 : K.lookup f21 = some ⟨oc21, od21, .func (PySem.W.fnOf "_filled" "_filled" (defArgs s_filled) (defBody s_filled) (defScope s_filled) .none kV21 dc21 pm21 an21 cd21 ct21), sl21⟩) (c21 : PySem.W.codeIn K cd21 "_filled" = true) (k21 : PySem.W.keepIn K (.ref f21) = true)
    {f22 : Addr} {od22 an22 : Option Addr} {sl22 : Array (Option Value)} {oc22 kV22 dc22 pm22 cd22 ct22 : Value}
    (a22 : PySem.W.nsIn K mainGlobals "_power_in" = some (some (.ref f22))) (l22 : K.lookup f22 = some ⟨oc22, od22, .func (PySem.W.fnOf "_power_in" "_power_in" (defArgs s_power_in) (defBody s_power_in) (defScope s_power_in) .none kV22 dc22 pm22 an22 cd22 ct22), sl22⟩) (c22 : PySem.W.codeIn K cd22 "_power_in" = true) (k22 : PySem.W.keepIn K (.ref f22) = true)
    {f23 : Addr} {od23 an23 : Option Addr} {sl23 : Array (Option Value)} {oc23 kV23 dc23 pm23 cd23 ct23 : Value}
    (a23 : PySem.W.nsIn K mainGlobals "_totals_by_power" = some (some (.ref f23))) (l23 : K.lookup f23 = some ⟨oc23, od23, .func (PySem.W.fnOf "_totals_by_power" "_totals_by_power" (defArgs s_totals_by_power) (defBody s_totals_by_power) (defScope s_totals_by_power) .none kV23 dc23 pm23 an23 cd23 ct23), sl23⟩) (c23 : PySem.W.codeIn K cd23 "_totals_by_power" = true) (k23 : PySem.W.keepIn K (.ref f23) = true)
    {f24 : Addr} {od24 an24 : Option Addr} {sl24 : Array (Option Value)} {oc24 kV24 dc24 pm24 cd24 ct24 : Value}
    (a24 : PySem.W.nsIn K mainGlobals "_sums_of_powers" = some (some (.ref f24))) (l24 : K.lookup f24 = some ⟨oc24, od24, .func (PySem.W.fnOf "_sums_of_powers" "_sums_of_powers" (defArgs s_sums_of_powers) (defBody s_sums_of_powers) (defScope s_sums_of_powers) .none kV24 dc24 pm24 an24 cd24 ct24), sl24⟩) (c24 : PySem.W.codeIn K cd24 "_sums_of_powers" = true) (k24 : PySem.W.keepIn K (.ref f24) = true)
    {f25 : Addr} {od25 an25 : Option Addr} {sl25 : Array (Option Value)} {oc25 kV25 dc25 pm25 cd25 ct25 : Value}
    (a25 : PySem.W.nsIn K mainGlobals "_next_sum_of_powers" = some (some (.ref f25))) (l25 : K.lookup f25 = some ⟨oc25, od25, .func (PySem.W.fnOf "_next_sum_of_powers" "_next_sum_of_powers" (defArgs s_next_sum_of_powers) (defBody s_next_sum_of_powers) (defScope s_next_sum_of_powers) .none kV25 dc25 pm25 an25 cd25 ct25), sl25⟩) (c25 : PySem.W.codeIn K cd25 "_next_sum_of_powers" = true) (k25 : PySem.W.keepIn K (.ref f25) = true)
    {f26 : Addr} {od26 an26 : Option Addr} {sl26 : Array (Option Value)} {oc26 kV26 dc26 pm26 cd26 ct26 : Value}
    (a26 : PySem.W.nsIn K mainGlobals "need_program" = some (some (.ref f26))) (l26 : K.lookup f26 = some ⟨oc26, od26, .func (PySem.W.fnOf "need_program" "need_program" (defArgs s_need_program) (defBody s_need_program) (defScope s_need_program) .none kV26 dc26 pm26 an26 cd26 ct26), sl26⟩) (c26 : PySem.W.codeIn K cd26 "need_program" = true) (k26 : PySem.W.keepIn K (.ref f26) = true)
    {f27 : Addr} {od27 an27 : Option Addr} {sl27 : Array (Option Value)} {oc27 kV27 dc27 pm27 cd27 ct27 : Value}
    (a27 : PySem.W.nsIn K mainGlobals "names_of" = some (some (.ref f27))) (l27 : K.lookup f27 = some ⟨oc27, od27, .func (PySem.W.fnOf "names_of" "names_of" (defArgs s_names_of) (defBody s_names_of) (defScope s_names_of) .none kV27 dc27 pm27 an27 cd27 ct27), sl27⟩) (c27 : PySem.W.codeIn K cd27 "names_of" = true) (k27 : PySem.W.keepIn K (.ref f27) = true)
    {f28 : Addr} {od28 an28 : Option Addr} {sl28 : Array (Option Value)} {oc28 kV28 dc28 pm28 cd28 ct28 : Value}
    (a28 : PySem.W.nsIn K mainGlobals "sum_told" = some (some (.ref f28))) (l28 : K.lookup f28 = some ⟨oc28, od28, .func (PySem.W.fnOf "sum_told" "sum_told" (defArgs s_sum_told) (defBody s_sum_told) (defScope s_sum_told) .none kV28 dc28 pm28 an28 cd28 ct28), sl28⟩) (c28 : PySem.W.codeIn K cd28 "sum_told" = true) (k28 : PySem.W.keepIn K (.ref f28) = true)
    {f29 : Addr} {od29 an29 : Option Addr} {sl29 : Array (Option Value)} {oc29 kV29 dc29 pm29 cd29 ct29 : Value}
    (a29 : PySem.W.nsIn K mainGlobals "_word_of" = some (some (.ref f29))) (l29 : K.lookup f29 = some ⟨oc29, od29, .func (PySem.W.fnOf "_word_of" "_word_of" (defArgs s_word_of) (defBody s_word_of) (defScope s_word_of) .none kV29 dc29 pm29 an29 cd29 ct29), sl29⟩) (c29 : PySem.W.codeIn K cd29 "_word_of" = true) (k29 : PySem.W.keepIn K (.ref f29) = true)
    {f30 : Addr} {od30 an30 : Option Addr} {sl30 : Array (Option Value)} {oc30 kV30 dc30 pm30 cd30 ct30 : Value}
    (a30 : PySem.W.nsIn K mainGlobals "_need_row" = some (some (.ref f30))) (l30 : K.lookup f30 = some ⟨oc30, od30, .func (PySem.W.fnOf "_need_row" "_need_row" (defArgs s_need_row) (defBody s_need_row) (defScope s_need_row) .none kV30 dc30 pm30 an30 cd30 ct30), sl30⟩) (c30 : PySem.W.codeIn K cd30 "_need_row" = true) (k30 : PySem.W.keepIn K (.ref f30) = true)
    {f31 : Addr} {od31 an31 : Option Addr} {sl31 : Array (Option Value)} {oc31 kV31 dc31 pm31 cd31 ct31 : Value}
    (a31 : PySem.W.nsIn K mainGlobals "_need_statement" = some (some (.ref f31))) (l31 : K.lookup f31 = some ⟨oc31, od31, .func (PySem.W.fnOf "_need_statement" "_need_statement" (defArgs s_need_statement) (defBody s_need_statement) (defScope s_need_statement) .none kV31 dc31 pm31 an31 cd31 ct31), sl31⟩) (c31 : PySem.W.codeIn K cd31 "_need_statement" = true) (k31 : PySem.W.keepIn K (.ref f31) = true)
    {f32 : Addr} {od32 an32 : Option Addr} {sl32 : Array (Option Value)} {oc32 kV32 dc32 pm32 cd32 ct32 : Value}
    (a32 : PySem.W.nsIn K mainGlobals "_need_expression" = some (some (.ref f32))) (l32 : K.lookup f32 = some ⟨oc32, od32, .func (PySem.W.fnOf "_need_expression" "_need_expression" (defArgs s_need_expression) (defBody s_need_expression) (defScope s_need_expression) .none kV32 dc32 pm32 an32 cd32 ct32), sl32⟩) (c32 : PySem.W.codeIn K cd32 "_need_expression" = true) (k32 : PySem.W.keepIn K (.ref f32) = true)
    {f33 : Addr} {od33 an33 : Option Addr} {sl33 : Array (Option Value)} {oc33 kV33 dc33 pm33 cd33 ct33 : Value}
    (a33 : PySem.W.nsIn K mainGlobals "_need_number" = some (some (.ref f33))) (l33 : K.lookup f33 = some ⟨oc33, od33, .func (PySem.W.fnOf "_need_number" "_need_number" (defArgs s_need_number) (defBody s_need_number) (defScope s_need_number) .none kV33 dc33 pm33 an33 cd33 ct33), sl33⟩) (c33 : PySem.W.codeIn K cd33 "_need_number" = true) (k33 : PySem.W.keepIn K (.ref f33) = true)
    {f34 : Addr} {od34 an34 : Option Addr} {sl34 : Array (Option Value)} {oc34 kV34 dc34 pm34 cd34 ct34 : Value}
    (a34 : PySem.W.nsIn K mainGlobals "_need_name" = some (some (.ref f34))) (l34 : K.lookup f34 = some ⟨oc34, od34, .func (PySem.W.fnOf "_need_name" "_need_name" (defArgs s_need_name) (defBody s_need_name) (defScope s_need_name) .none kV34 dc34 pm34 an34 cd34 ct34), sl34⟩) (c34 : PySem.W.codeIn K cd34 "_need_name" = true) (k34 : PySem.W.keepIn K (.ref f34) = true)
    {f35 : Addr} {od35 an35 : Option Addr} {sl35 : Array (Option Value)} {oc35 kV35 dc35 pm35 cd35 ct35 : Value}
    (a35 : PySem.W.nsIn K mainGlobals "_find_in_row" = some (some (.ref f35))) (l35 : K.lookup f35 = some ⟨oc35, od35, .func (PySem.W.fnOf "_find_in_row" "_find_in_row" (defArgs s_find_in_row) (defBody s_find_in_row) (defScope s_find_in_row) .none kV35 dc35 pm35 an35 cd35 ct35), sl35⟩) (c35 : PySem.W.codeIn K cd35 "_find_in_row" = true) (k35 : PySem.W.keepIn K (.ref f35) = true)
    {f36 : Addr} {od36 an36 : Option Addr} {sl36 : Array (Option Value)} {oc36 kV36 dc36 pm36 cd36 ct36 : Value}
    (a36 : PySem.W.nsIn K mainGlobals "_find_in_expression" = some (some (.ref f36))) (l36 : K.lookup f36 = some ⟨oc36, od36, .func (PySem.W.fnOf "_find_in_expression" "_find_in_expression" (defArgs s_find_in_expression) (defBody s_find_in_expression) (defScope s_find_in_expression) .none kV36 dc36 pm36 an36 cd36 ct36), sl36⟩) (c36 : PySem.W.codeIn K cd36 "_find_in_expression" = true) (k36 : PySem.W.keepIn K (.ref f36) = true)
    {f37 : Addr} {od37 an37 : Option Addr} {sl37 : Array (Option Value)} {oc37 kV37 dc37 pm37 cd37 ct37 : Value}
    (a37 : PySem.W.nsIn K mainGlobals "hangs_on_blurred" = some (some (.ref f37))) (l37 : K.lookup f37 = some ⟨oc37, od37, .func (PySem.W.fnOf "hangs_on_blurred" "hangs_on_blurred" (defArgs s_hangs_on_blurred) (defBody s_hangs_on_blurred) (defScope s_hangs_on_blurred) .none kV37 dc37 pm37 an37 cd37 ct37), sl37⟩) (c37 : PySem.W.codeIn K cd37 "hangs_on_blurred" = true) (k37 : PySem.W.keepIn K (.ref f37) = true)
    {f38 : Addr} {od38 an38 : Option Addr} {sl38 : Array (Option Value)} {oc38 kV38 dc38 pm38 cd38 ct38 : Value}
    (a38 : PySem.W.nsIn K mainGlobals "at_first" = some (some (.ref f38))) (l38 : K.lookup f38 = some ⟨oc38, od38, .func (PySem.W.fnOf "at_first" "at_first" (defArgs s_at_first) (defBody s_at_first) (defScope s_at_first) .none kV38 dc38 pm38 an38 cd38 ct38), sl38⟩) (c38 : PySem.W.codeIn K cd38 "at_first" = true) (k38 : PySem.W.keepIn K (.ref f38) = true)
    {f39 : Addr} {od39 an39 : Option Addr} {sl39 : Array (Option Value)} {oc39 kV39 dc39 pm39 cd39 ct39 : Value}
    (a39 : PySem.W.nsIn K mainGlobals "names_of_lap" = some (some (.ref f39))) (l39 : K.lookup f39 = some ⟨oc39, od39, .func (PySem.W.fnOf "names_of_lap" "names_of_lap" (defArgs s_names_of_lap) (defBody s_names_of_lap) (defScope s_names_of_lap) .none kV39 dc39 pm39 an39 cd39 ct39), sl39⟩) (c39 : PySem.W.codeIn K cd39 "names_of_lap" = true) (k39 : PySem.W.keepIn K (.ref f39) = true)
    {f40 : Addr} {od40 an40 : Option Addr} {sl40 : Array (Option Value)} {oc40 kV40 dc40 pm40 cd40 ct40 : Value}
    (a40 : PySem.W.nsIn K mainGlobals "behind_turn" = some (some (.ref f40))) (l40 : K.lookup f40 = some ⟨oc40, od40, .func (PySem.W.fnOf "behind_turn" "behind_turn" (defArgs s_behind_turn) (defBody s_behind_turn) (defScope s_behind_turn) .none kV40 dc40 pm40 an40 cd40 ct40), sl40⟩) (c40 : PySem.W.codeIn K cd40 "behind_turn" = true) (k40 : PySem.W.keepIn K (.ref f40) = true)
    {f41 : Addr} {od41 an41 : Option Addr} {sl41 : Array (Option Value)} {oc41 kV41 dc41 pm41 cd41 ct41 : Value}
    (a41 : PySem.W.nsIn K mainGlobals "do_set" = some (some (.ref f41))) (l41 : K.lookup f41 = some ⟨oc41, od41, .func (PySem.W.fnOf "do_set" "do_set" (defArgs s_do_set) (defBody s_do_set) (defScope s_do_set) .none kV41 dc41 pm41 an41 cd41 ct41), sl41⟩) (c41 : PySem.W.codeIn K cd41 "do_set" = true) (k41 : PySem.W.keepIn K (.ref f41) = true)
    {f42 : Addr} {od42 an42 : Option Addr} {sl42 : Array (Option Value)} {oc42 kV42 dc42 pm42 cd42 ct42 : Value}
    (a42 : PySem.W.nsIn K mainGlobals "do_lap" = some (some (.ref f42))) (l42 : K.lookup f42 = some ⟨oc42, od42, .func (PySem.W.fnOf "do_lap" "do_lap" (defArgs s_do_lap) (defBody s_do_lap) (defScope s_do_lap) .none kV42 dc42 pm42 an42 cd42 ct42), sl42⟩) (c42 : PySem.W.codeIn K cd42 "do_lap" = true) (k42 : PySem.W.keepIn K (.ref f42) = true)
    {f43 : Addr} {od43 an43 : Option Addr} {sl43 : Array (Option Value)} {oc43 kV43 dc43 pm43 cd43 ct43 : Value}
    (a43 : PySem.W.nsIn K mainGlobals "is_even" = some (some (.ref f43))) (l43 : K.lookup f43 = some ⟨oc43, od43, .func (PySem.W.fnOf "is_even" "is_even" (defArgs s_is_even) (defBody s_is_even) (defScope s_is_even) .none kV43 dc43 pm43 an43 cd43 ct43), sl43⟩) (c43 : PySem.W.codeIn K cd43 "is_even" = true) (k43 : PySem.W.keepIn K (.ref f43) = true)
    {f44 : Addr} {od44 an44 : Option Addr} {sl44 : Array (Option Value)} {oc44 kV44 dc44 pm44 cd44 ct44 : Value}
    (a44 : PySem.W.nsIn K mainGlobals "told_in_turns" = some (some (.ref f44))) (l44 : K.lookup f44 = some ⟨oc44, od44, .func (PySem.W.fnOf "told_in_turns" "told_in_turns" (defArgs s_told_in_turns) (defBody s_told_in_turns) (defScope s_told_in_turns) .none kV44 dc44 pm44 an44 cd44 ct44), sl44⟩) (c44 : PySem.W.codeIn K cd44 "told_in_turns" = true) (k44 : PySem.W.keepIn K (.ref f44) = true)
    {f45 : Addr} {od45 an45 : Option Addr} {sl45 : Array (Option Value)} {oc45 kV45 dc45 pm45 cd45 ct45 : Value}
    (a45 : PySem.W.nsIn K mainGlobals "all_told" = some (some (.ref f45))) (l45 : K.lookup f45 = some ⟨oc45, od45, .func (PySem.W.fnOf "all_told" "all_told" (defArgs s_all_told) (defBody s_all_told) (defScope s_all_told) .none kV45 dc45 pm45 an45 cd45 ct45), sl45⟩) (c45 : PySem.W.codeIn K cd45 "all_told" = true) (k45 : PySem.W.keepIn K (.ref f45) = true)
    {f46 : Addr} {od46 an46 : Option Addr} {sl46 : Array (Option Value)} {oc46 kV46 dc46 pm46 cd46 ct46 : Value}
    (a46 : PySem.W.nsIn K mainGlobals "grown" = some (some (.ref f46))) (l46 : K.lookup f46 = some ⟨oc46, od46, .func (PySem.W.fnOf "grown" "grown" (defArgs s_grown) (defBody s_grown) (defScope s_grown) .none kV46 dc46 pm46 an46 cd46 ct46), sl46⟩) (c46 : PySem.W.codeIn K cd46 "grown" = true) (k46 : PySem.W.keepIn K (.ref f46) = true)
    {f47 : Addr} {od47 an47 : Option Addr} {sl47 : Array (Option Value)} {oc47 kV47 dc47 pm47 cd47 ct47 : Value}
    (a47 : PySem.W.nsIn K mainGlobals "in_turn" = some (some (.ref f47))) (l47 : K.lookup f47 = some ⟨oc47, od47, .func (PySem.W.fnOf "in_turn" "in_turn" (defArgs s_in_turn) (defBody s_in_turn) (defScope s_in_turn) .none kV47 dc47 pm47 an47 cd47 ct47), sl47⟩) (c47 : PySem.W.codeIn K cd47 "in_turn" = true) (k47 : PySem.W.keepIn K (.ref f47) = true)
    {f48 : Addr} {od48 an48 : Option Addr} {sl48 : Array (Option Value)} {oc48 kV48 dc48 pm48 cd48 ct48 : Value}
    (a48 : PySem.W.nsIn K mainGlobals "_behind" = some (some (.ref f48))) (l48 : K.lookup f48 = some ⟨oc48, od48, .func (PySem.W.fnOf "_behind" "_behind" (defArgs s_behind) (defBody s_behind) (defScope s_behind) .none kV48 dc48 pm48 an48 cd48 ct48), sl48⟩) (c48 : PySem.W.codeIn K cd48 "_behind" = true) (k48 : PySem.W.keepIn K (.ref f48) = true)
    {f49 : Addr} {od49 an49 : Option Addr} {sl49 : Array (Option Value)} {oc49 kV49 dc49 pm49 cd49 ct49 : Value}
    (a49 : PySem.W.nsIn K mainGlobals "_keep" = some (some (.ref f49))) (l49 : K.lookup f49 = some ⟨oc49, od49, .func (PySem.W.fnOf "_keep" "_keep" (defArgs s_keep) (defBody s_keep) (defScope s_keep) .none kV49 dc49 pm49 an49 cd49 ct49), sl49⟩) (c49 : PySem.W.codeIn K cd49 "_keep" = true) (k49 : PySem.W.keepIn K (.ref f49) = true)
    {f50 : Addr} {od50 an50 : Option Addr} {sl50 : Array (Option Value)} {oc50 kV50 dc50 pm50 cd50 ct50 : Value}
    (a50 : PySem.W.nsIn K mainGlobals "_blurred" = some (some (.ref f50))) (l50 : K.lookup f50 = some ⟨oc50, od50, .func (PySem.W.fnOf "_blurred" "_blurred" (defArgs s_blurred) (defBody s_blurred) (defScope s_blurred) .none kV50 dc50 pm50 an50 cd50 ct50), sl50⟩) (c50 : PySem.W.codeIn K cd50 "_blurred" = true) (k50 : PySem.W.keepIn K (.ref f50) = true)
    {f51 : Addr} {od51 an51 : Option Addr} {sl51 : Array (Option Value)} {oc51 kV51 dc51 pm51 cd51 ct51 : Value}
    (a51 : PySem.W.nsIn K mainGlobals "_may_set" = some (some (.ref f51))) (l51 : K.lookup f51 = some ⟨oc51, od51, .func (PySem.W.fnOf "_may_set" "_may_set" (defArgs s_may_set) (defBody s_may_set) (defScope s_may_set) .none kV51 dc51 pm51 an51 cd51 ct51), sl51⟩) (c51 : PySem.W.codeIn K cd51 "_may_set" = true) (k51 : PySem.W.keepIn K (.ref f51) = true)
    {f52 : Addr} {od52 an52 : Option Addr} {sl52 : Array (Option Value)} {oc52 kV52 dc52 pm52 cd52 ct52 : Value}
    (a52 : PySem.W.nsIn K mainGlobals "_ends_of_even" = some (some (.ref f52))) (l52 : K.lookup f52 = some ⟨oc52, od52, .func (PySem.W.fnOf "_ends_of_even" "_ends_of_even" (defArgs s_ends_of_even) (defBody s_ends_of_even) (defScope s_ends_of_even) .none kV52 dc52 pm52 an52 cd52 ct52), sl52⟩) (c52 : PySem.W.codeIn K cd52 "_ends_of_even" = true) (k52 : PySem.W.keepIn K (.ref f52) = true)
    {f53 : Addr} {od53 an53 : Option Addr} {sl53 : Array (Option Value)} {oc53 kV53 dc53 pm53 cd53 ct53 : Value}
    (a53 : PySem.W.nsIn K mainGlobals "looked" = some (some (.ref f53))) (l53 : K.lookup f53 = some ⟨oc53, od53, .func (PySem.W.fnOf "looked" "looked" (defArgs s_looked) (defBody s_looked) (defScope s_looked) .none kV53 dc53 pm53 an53 cd53 ct53), sl53⟩) (c53 : PySem.W.codeIn K cd53 "looked" = true) (k53 : PySem.W.keepIn K (.ref f53) = true)
    {f54 : Addr} {od54 an54 : Option Addr} {sl54 : Array (Option Value)} {oc54 kV54 dc54 pm54 cd54 ct54 : Value}
    (a54 : PySem.W.nsIn K mainGlobals "_look_at_row" = some (some (.ref f54))) (l54 : K.lookup f54 = some ⟨oc54, od54, .func (PySem.W.fnOf "_look_at_row" "_look_at_row" (defArgs s_look_at_row) (defBody s_look_at_row) (defScope s_look_at_row) .none kV54 dc54 pm54 an54 cd54 ct54), sl54⟩) (c54 : PySem.W.codeIn K cd54 "_look_at_row" = true) (k54 : PySem.W.keepIn K (.ref f54) = true)
    {f55 : Addr} {od55 an55 : Option Addr} {sl55 : Array (Option Value)} {oc55 kV55 dc55 pm55 cd55 ct55 : Value}
    (a55 : PySem.W.nsIn K mainGlobals "_falls" = some (some (.ref f55))) (l55 : K.lookup f55 = some ⟨oc55, od55, .func (PySem.W.fnOf "_falls" "_falls" (defArgs s_falls) (defBody s_falls) (defScope s_falls) .none kV55 dc55 pm55 an55 cd55 ct55), sl55⟩) (c55 : PySem.W.codeIn K cd55 "_falls" = true) (k55 : PySem.W.keepIn K (.ref f55) = true)
    {f56 : Addr} {od56 an56 : Option Addr} {sl56 : Array (Option Value)} {oc56 kV56 dc56 pm56 cd56 ct56 : Value}
    (a56 : PySem.W.nsIn K mainGlobals "count_of" = some (some (.ref f56))) (l56 : K.lookup f56 = some ⟨oc56, od56, .func (PySem.W.fnOf "count_of" "count_of" (defArgs s_count_of) (defBody s_count_of) (defScope s_count_of) .none kV56 dc56 pm56 an56 cd56 ct56), sl56⟩) (c56 : PySem.W.codeIn K cd56 "count_of" = true) (k56 : PySem.W.keepIn K (.ref f56) = true)
    {f57 : Addr} {od57 an57 : Option Addr} {sl57 : Array (Option Value)} {oc57 kV57 dc57 pm57 cd57 ct57 : Value}
    (a57 : PySem.W.nsIn K mainGlobals "_counted" = some (some (.ref f57))) (l57 : K.lookup f57 = some ⟨oc57, od57, .func (PySem.W.fnOf "_counted" "_counted" (defArgs s_counted) (defBody s_counted) (defScope s_counted) .none kV57 dc57 pm57 an57 cd57 ct57), sl57⟩) (c57 : PySem.W.codeIn K cd57 "_counted" = true) (k57 : PySem.W.keepIn K (.ref f57) = true)
    {f58 : Addr} {od58 an58 : Option Addr} {sl58 : Array (Option Value)} {oc58 kV58 dc58 pm58 cd58 ct58 : Value}
    (a58 : PySem.W.nsIn K mainGlobals "_count_of_lap" = some (some (.ref f58))) (l58 : K.lookup f58 = some ⟨oc58, od58, .func (PySem.W.fnOf "_count_of_lap" "_count_of_lap" (defArgs s_count_of_lap) (defBody s_count_of_lap) (defScope s_count_of_lap) .none kV58 dc58 pm58 an58 cd58 ct58), sl58⟩) (c58 : PySem.W.codeIn K cd58 "_count_of_lap" = true) (k58 : PySem.W.keepIn K (.ref f58) = true)
    {f59 : Addr} {od59 an59 : Option Addr} {sl59 : Array (Option Value)} {oc59 kV59 dc59 pm59 cd59 ct59 : Value}
    (a59 : PySem.W.nsIn K mainGlobals "ran" = some (some (.ref f59))) (l59 : K.lookup f59 = some ⟨oc59, od59, .func (PySem.W.fnOf "ran" "ran" (defArgs s_ran) (defBody s_ran) (defScope s_ran) .none kV59 dc59 pm59 an59 cd59 ct59), sl59⟩) (c59 : PySem.W.codeIn K cd59 "ran" = true) (k59 : PySem.W.keepIn K (.ref f59) = true)
    {f60 : Addr} {od60 an60 : Option Addr} {sl60 : Array (Option Value)} {oc60 kV60 dc60 pm60 cd60 ct60 : Value}
    (a60 : PySem.W.nsIn K mainGlobals "_do_row" = some (some (.ref f60))) (l60 : K.lookup f60 = some ⟨oc60, od60, .func (PySem.W.fnOf "_do_row" "_do_row" (defArgs s_do_row) (defBody s_do_row) (defScope s_do_row) .none kV60 dc60 pm60 an60 cd60 ct60), sl60⟩) (c60 : PySem.W.codeIn K cd60 "_do_row" = true) (k60 : PySem.W.keepIn K (.ref f60) = true)
    {f61 : Addr} {od61 an61 : Option Addr} {sl61 : Array (Option Value)} {oc61 kV61 dc61 pm61 cd61 ct61 : Value}
    (a61 : PySem.W.nsIn K mainGlobals "_do_lap" = some (some (.ref f61))) (l61 : K.lookup f61 = some ⟨oc61, od61, .func (PySem.W.fnOf "_do_lap" "_do_lap" (defArgs s_u_do_lap) (defBody s_u_do_lap) (defScope s_u_do_lap) .none kV61 dc61 pm61 an61 cd61 ct61), sl61⟩) (c61 : PySem.W.codeIn K cd61 "_do_lap" = true) (k61 : PySem.W.keepIn K (.ref f61) = true)
    {f62 : Addr} {od62 an62 : Option Addr} {sl62 : Array (Option Value)} {oc62 kV62 dc62 pm62 cd62 ct62 : Value}
    (a62 : PySem.W.nsIn K mainGlobals "_reckoned" = some (some (.ref f62))) (l62 : K.lookup f62 = some ⟨oc62, od62, .func (PySem.W.fnOf "_reckoned" "_reckoned" (defArgs s_reckoned) (defBody s_reckoned) (defScope s_reckoned) .none kV62 dc62 pm62 an62 cd62 ct62), sl62⟩) (c62 : PySem.W.codeIn K cd62 "_reckoned" = true) (k62 : PySem.W.keepIn K (.ref f62) = true)
    {f63 : Addr} {od63 an63 : Option Addr} {sl63 : Array (Option Value)} {oc63 kV63 dc63 pm63 cd63 ct63 : Value}
    (a63 : PySem.W.nsIn K mainGlobals "_law_next" = some (some (.ref f63))) (l63 : K.lookup f63 = some ⟨oc63, od63, .func (PySem.W.fnOf "_law_next" "_law_next" (defArgs s_law_next) (defBody s_law_next) (defScope s_law_next) .none kV63 dc63 pm63 an63 cd63 ct63), sl63⟩) (c63 : PySem.W.codeIn K cd63 "_law_next" = true) (k63 : PySem.W.keepIn K (.ref f63) = true)
    {f64 : Addr} {od64 an64 : Option Addr} {sl64 : Array (Option Value)} {oc64 kV64 dc64 pm64 cd64 ct64 : Value}
    (a64 : PySem.W.nsIn K mainGlobals "_law_names" = some (some (.ref f64))) (l64 : K.lookup f64 = some ⟨oc64, od64, .func (PySem.W.fnOf "_law_names" "_law_names" (defArgs s_law_names) (defBody s_law_names) (defScope s_law_names) .none kV64 dc64 pm64 an64 cd64 ct64), sl64⟩) (c64 : PySem.W.codeIn K cd64 "_law_names" = true) (k64 : PySem.W.keepIn K (.ref f64) = true)
    {f65 : Addr} {od65 an65 : Option Addr} {sl65 : Array (Option Value)} {oc65 kV65 dc65 pm65 cd65 ct65 : Value}
    (a65 : PySem.W.nsIn K mainGlobals "_law_refuse" = some (some (.ref f65))) (l65 : K.lookup f65 = some ⟨oc65, od65, .func (PySem.W.fnOf "_law_refuse" "_law_refuse" (defArgs s_law_refuse) (defBody s_law_refuse) (defScope s_law_refuse) .none kV65 dc65 pm65 an65 cd65 ct65), sl65⟩) (c65 : PySem.W.codeIn K cd65 "_law_refuse" = true) (k65 : PySem.W.keepIn K (.ref f65) = true)
    {f66 : Addr} {od66 an66 : Option Addr} {sl66 : Array (Option Value)} {oc66 kV66 dc66 pm66 cd66 ct66 : Value}
    (a66 : PySem.W.nsIn K mainGlobals "_law_kinds" = some (some (.ref f66))) (l66 : K.lookup f66 = some ⟨oc66, od66, .func (PySem.W.fnOf "_law_kinds" "_law_kinds" (defArgs s_law_kinds) (defBody s_law_kinds) (defScope s_law_kinds) .none kV66 dc66 pm66 an66 cd66 ct66), sl66⟩) (c66 : PySem.W.codeIn K cd66 "_law_kinds" = true) (k66 : PySem.W.keepIn K (.ref f66) = true)
    {f67 : Addr} {od67 an67 : Option Addr} {sl67 : Array (Option Value)} {oc67 kV67 dc67 pm67 cd67 ct67 : Value}
    (a67 : PySem.W.nsIn K mainGlobals "law" = some (some (.ref f67))) (l67 : K.lookup f67 = some ⟨oc67, od67, .func (PySem.W.fnOf "law" "law" (defArgs s_law) (defBody s_law) (defScope s_law) .none kV67 dc67 pm67 an67 cd67 ct67), sl67⟩) (c67 : PySem.W.codeIn K cd67 "law" = true) (k67 : PySem.W.keepIn K (.ref f67) = true)
    {C_Sum : Addr} (aC_Sum : PySem.W.nsIn K mainGlobals "Sum" = some (some (.ref C_Sum)))
    {f_Sum_init : Addr} {od_Sum_init an_Sum_init : Option Addr} {sl_Sum_init : Array (Option Value)} {oc_Sum_init kV_Sum_init dc_Sum_init pm_Sum_init cd_Sum_init ct_Sum_init : Value}
    (a_Sum_init : PySem.W.findIn K (.ref C_Sum) "__init__" = some (some (.ref f_Sum_init))) (i_Sum_init : PySem.W.isFn K (.ref f_Sum_init) = true) (l_Sum_init : K.lookup f_Sum_init = some ⟨oc_Sum_init, od_Sum_init, .func (PySem.W.fnOf "__init__" "Sum.__init__" (defArgs s_Sum_init) (defBody s_Sum_init) (defScope s_Sum_init) .none kV_Sum_init dc_Sum_init pm_Sum_init an_Sum_init cd_Sum_init ct_Sum_init), sl_Sum_init⟩) (c_Sum_init : PySem.W.codeIn K cd_Sum_init "Sum.__init__" = true) (k_Sum_init : PySem.W.keepIn K (.ref f_Sum_init) = true)
    (pg_Sum : PySem.W.plainGet K C_Sum Str.empty = true) (hd_Sum : PySem.W.hasDictIn K C_Sum = true) (po_Sum : PySem.W.plainOver K C_Sum = true) (sa_Sum : PySem.W.findIn K (.ref C_Sum) "__setattr__" = some (some (.builtin "object.__setattr__"))) (mk_Sum : PySem.W.makesIn K C_Sum = true) (kc_Sum : PySem.W.keepIn K (.ref C_Sum) = true)
    (na_Sum_parts : PySem.W.findIn K (.ref C_Sum) "parts" = some none)
    {C_Run : Addr} (aC_Run : PySem.W.nsIn K mainGlobals "Run" = some (some (.ref C_Run)))
    {f_Run_init : Addr} {od_Run_init an_Run_init : Option Addr} {sl_Run_init : Array (Option Value)} {oc_Run_init kV_Run_init dc_Run_init pm_Run_init cd_Run_init ct_Run_init : Value}
    (a_Run_init : PySem.W.findIn K (.ref C_Run) "__init__" = some (some (.ref f_Run_init))) (i_Run_init : PySem.W.isFn K (.ref f_Run_init) = true) (l_Run_init : K.lookup f_Run_init = some ⟨oc_Run_init, od_Run_init, .func (PySem.W.fnOf "__init__" "Run.__init__" (defArgs s_Run_init) (defBody s_Run_init) (defScope s_Run_init) .none kV_Run_init dc_Run_init pm_Run_init an_Run_init cd_Run_init ct_Run_init), sl_Run_init⟩) (c_Run_init : PySem.W.codeIn K cd_Run_init "Run.__init__" = true) (k_Run_init : PySem.W.keepIn K (.ref f_Run_init) = true)
    (pg_Run : PySem.W.plainGet K C_Run Str.empty = true) (hd_Run : PySem.W.hasDictIn K C_Run = true) (po_Run : PySem.W.plainOver K C_Run = true) (sa_Run : PySem.W.findIn K (.ref C_Run) "__setattr__" = some (some (.builtin "object.__setattr__"))) (mk_Run : PySem.W.makesIn K C_Run = true) (kc_Run : PySem.W.keepIn K (.ref C_Run) = true)
    (na_Run_entries : PySem.W.findIn K (.ref C_Run) "entries" = some none)
    (na_Run_most : PySem.W.findIn K (.ref C_Run) "most" = some none)
    (na_Run_names : PySem.W.findIn K (.ref C_Run) "names" = some none)
    (na_Run_told : PySem.W.findIn K (.ref C_Run) "told" = some none)
    (na_Run_turns : PySem.W.findIn K (.ref C_Run) "turns" = some none)
    {v_NOUGHT : Addr} {o_NOUGHT : Option Addr} {n_NOUGHT : Nat} {s_NOUGHT : Array (Option Value)} {t0_NOUGHT t1_NOUGHT : Tok}
    (av_NOUGHT : PySem.W.nsIn K mainGlobals "NOUGHT" = some (some (.ref v_NOUGHT))) (lv_NOUGHT : K.lookup v_NOUGHT = some ⟨.type "tuple", o_NOUGHT, .seq #[.int 0 t0_NOUGHT, .int 1 t1_NOUGHT] n_NOUGHT, s_NOUGHT⟩)
    {v_ONE : Addr} {o_ONE : Option Addr} {n_ONE : Nat} {s_ONE : Array (Option Value)} {t0_ONE t1_ONE : Tok}
    (av_ONE : PySem.W.nsIn K mainGlobals "ONE" = some (some (.ref v_ONE))) (lv_ONE : K.lookup v_ONE = some ⟨.type "tuple", o_ONE, .seq #[.int 1 t0_ONE, .int 1 t1_ONE] n_ONE, s_ONE⟩)
    {u_TURN : Tok} (av_TURN : PySem.W.nsIn K mainGlobals "TURN" = some (some (.str "the turn" u_TURN)))
    {u_BLURRED : Tok} (av_BLURRED : PySem.W.nsIn K mainGlobals "BLURRED" = some (some (.str "blurred " u_BLURRED)))
    {u_MOST_LETTERS : Tok} (av_MOST_LETTERS : PySem.W.nsIn K mainGlobals "MOST_LETTERS" = some (some (.int 8 u_MOST_LETTERS)))
    {u_HIGHEST_NUMBER : Tok} (av_HIGHEST_NUMBER : PySem.W.nsIn K mainGlobals "HIGHEST_NUMBER" = some (some (.int 999 u_HIGHEST_NUMBER)))
    {u_MOST_DEEP : Tok} (av_MOST_DEEP : PySem.W.nsIn K mainGlobals "MOST_DEEP" = some (some (.int 5 u_MOST_DEEP)))
    {u_MOST_STATEMENTS : Tok} (av_MOST_STATEMENTS : PySem.W.nsIn K mainGlobals "MOST_STATEMENTS" = some (some (.int 40 u_MOST_STATEMENTS)))
    {u_MOST_LAPS : Tok} (av_MOST_LAPS : PySem.W.nsIn K mainGlobals "MOST_LAPS" = some (some (.int 3 u_MOST_LAPS)))
    {v_ROWS : Addr} {o_ROWS : Option Addr} {n_ROWS : Nat} {s_ROWS : Array (Option Value)} {i0_ROWS : Addr}
    (av_ROWS : PySem.W.nsIn K mainGlobals "ROWS" = some (some (.ref v_ROWS))) (lv_ROWS : K.lookup v_ROWS = some ⟨.type "tuple", o_ROWS, .seq #[.ref i0_ROWS] n_ROWS, s_ROWS⟩)
    {o0_ROWS : Option Addr} {n0_ROWS : Nat} {s0_ROWS : Array (Option Value)} {t0_0_ROWS t0_1_ROWS : Tok} (lv0_ROWS : K.lookup i0_ROWS = some ⟨.type "tuple", o0_ROWS, .seq #[.str "row" t0_0_ROWS, .int 2 t0_1_ROWS] n0_ROWS, s0_ROWS⟩)
    {v_STATEMENTS : Addr} {o_STATEMENTS : Option Addr} {n_STATEMENTS : Nat} {s_STATEMENTS : Array (Option Value)} {i0_STATEMENTS i1_STATEMENTS i2_STATEMENTS : Addr}
    (av_STATEMENTS : PySem.W.nsIn K mainGlobals "STATEMENTS" = some (some (.ref v_STATEMENTS))) (lv_STATEMENTS : K.lookup v_STATEMENTS = some ⟨.type "tuple", o_STATEMENTS, .seq #[.ref i0_STATEMENTS, .ref i1_STATEMENTS, .ref i2_STATEMENTS] n_STATEMENTS, s_STATEMENTS⟩)
    {o0_STATEMENTS : Option Addr} {n0_STATEMENTS : Nat} {s0_STATEMENTS : Array (Option Value)} {t0_0_STATEMENTS t0_1_STATEMENTS : Tok} (lv0_STATEMENTS : K.lookup i0_STATEMENTS = some ⟨.type "tuple", o0_STATEMENTS, .seq #[.str "set" t0_0_STATEMENTS, .int 3 t0_1_STATEMENTS] n0_STATEMENTS, s0_STATEMENTS⟩)
    {o1_STATEMENTS : Option Addr} {n1_STATEMENTS : Nat} {s1_STATEMENTS : Array (Option Value)} {t1_0_STATEMENTS t1_1_STATEMENTS : Tok} (lv1_STATEMENTS : K.lookup i1_STATEMENTS = some ⟨.type "tuple", o1_STATEMENTS, .seq #[.str "say" t1_0_STATEMENTS, .int 2 t1_1_STATEMENTS] n1_STATEMENTS, s1_STATEMENTS⟩)
    {o2_STATEMENTS : Option Addr} {n2_STATEMENTS : Nat} {s2_STATEMENTS : Array (Option Value)} {t2_0_STATEMENTS t2_1_STATEMENTS : Tok} (lv2_STATEMENTS : K.lookup i2_STATEMENTS = some ⟨.type "tuple", o2_STATEMENTS, .seq #[.str "lap" t2_0_STATEMENTS, .int 4 t2_1_STATEMENTS] n2_STATEMENTS, s2_STATEMENTS⟩)
    {v_EXPRESSIONS : Addr} {o_EXPRESSIONS : Option Addr} {n_EXPRESSIONS : Nat} {s_EXPRESSIONS : Array (Option Value)} {i0_EXPRESSIONS i1_EXPRESSIONS i2_EXPRESSIONS i3_EXPRESSIONS : Addr}
    (av_EXPRESSIONS : PySem.W.nsIn K mainGlobals "EXPRESSIONS" = some (some (.ref v_EXPRESSIONS))) (lv_EXPRESSIONS : K.lookup v_EXPRESSIONS = some ⟨.type "tuple", o_EXPRESSIONS, .seq #[.ref i0_EXPRESSIONS, .ref i1_EXPRESSIONS, .ref i2_EXPRESSIONS, .ref i3_EXPRESSIONS] n_EXPRESSIONS, s_EXPRESSIONS⟩)
    {o0_EXPRESSIONS : Option Addr} {n0_EXPRESSIONS : Nat} {s0_EXPRESSIONS : Array (Option Value)} {t0_0_EXPRESSIONS t0_1_EXPRESSIONS : Tok} (lv0_EXPRESSIONS : K.lookup i0_EXPRESSIONS = some ⟨.type "tuple", o0_EXPRESSIONS, .seq #[.str "num" t0_0_EXPRESSIONS, .int 2 t0_1_EXPRESSIONS] n0_EXPRESSIONS, s0_EXPRESSIONS⟩)
    {o1_EXPRESSIONS : Option Addr} {n1_EXPRESSIONS : Nat} {s1_EXPRESSIONS : Array (Option Value)} {t1_0_EXPRESSIONS t1_1_EXPRESSIONS : Tok} (lv1_EXPRESSIONS : K.lookup i1_EXPRESSIONS = some ⟨.type "tuple", o1_EXPRESSIONS, .seq #[.str "name" t1_0_EXPRESSIONS, .int 2 t1_1_EXPRESSIONS] n1_EXPRESSIONS, s1_EXPRESSIONS⟩)
    {o2_EXPRESSIONS : Option Addr} {n2_EXPRESSIONS : Nat} {s2_EXPRESSIONS : Array (Option Value)} {t2_0_EXPRESSIONS t2_1_EXPRESSIONS : Tok} (lv2_EXPRESSIONS : K.lookup i2_EXPRESSIONS = some ⟨.type "tuple", o2_EXPRESSIONS, .seq #[.str "add" t2_0_EXPRESSIONS, .int 3 t2_1_EXPRESSIONS] n2_EXPRESSIONS, s2_EXPRESSIONS⟩)
    {o3_EXPRESSIONS : Option Addr} {n3_EXPRESSIONS : Nat} {s3_EXPRESSIONS : Array (Option Value)} {t3_0_EXPRESSIONS t3_1_EXPRESSIONS : Tok} (lv3_EXPRESSIONS : K.lookup i3_EXPRESSIONS = some ⟨.type "tuple", o3_EXPRESSIONS, .seq #[.str "times" t3_0_EXPRESSIONS, .int 3 t3_1_EXPRESSIONS] n3_EXPRESSIONS, s3_EXPRESSIONS⟩)
    {L B D N U : Addr}
    (e_gL : PySem.W.nsIn K mainGlobals "LapError" = some (some (.ref L)))
    (e_gB : PySem.W.nsIn K mainGlobals "BadForm" = some (some (.ref B)))
    (e_gD : PySem.W.nsIn K mainGlobals "Dry" = some (some (.ref D)))
    (e_gN : PySem.W.nsIn K mainGlobals "NeedntFall" = some (some (.ref N)))
    (e_gU : PySem.W.nsIn K mainGlobals "Uneven" = some (some (.ref U)))
    (e_rL : PySem.W.readsIn K L (.type "type") = true)
    (e_yL : PySem.W.specialIn K (.ref L) "__getattribute__" = some (some (.builtin "type.__getattribute__")))
    (e_vL : PySem.W.findCls K (.ref L) (.type "type") "__init__" = some (.val (.builtin "ValueError.__init__")))
    (e_kL : PySem.W.keepIn K (.ref L) = true)
    (e_pN : PySem.W.findIn K (.ref N) "place" = some none)
    (e_zN : PySem.W.findIn K (.ref N) "__setattr__" = some (some (.builtin "object.__setattr__")))
    (e_pU : PySem.W.findIn K (.ref U) "place" = some none)
    (e_zU : PySem.W.findIn K (.ref U) "__setattr__" = some (some (.builtin "object.__setattr__")))
    (e_xB : PySem.W.excIn K B [.type "ValueError", .type "Exception", .type "BaseException", .type "object"] "ValueError.__new__" = true)
    (e_kB : PySem.W.keepIn K (.ref B) = true)
    (e_bB : PySem.W.subIn K (.ref B) (.type "BaseException") = some true)
    (e_tB : PySem.W.typeIn K (.ref B) = some (.type "type"))
    (e_bL : PySem.W.subIn K (.ref L) (.type "BaseException") = some true)
    (e_hL : PySem.W.hasDictIn K L = true)
    (e_tL : PySem.W.typeIn K (.ref L) = some (.type "type"))
    (e_sBL : PySem.W.subIn K (.ref B) (.ref L) = some true)
    (e_hgB : PySem.W.findIn K (.ref B) "__getattribute__" = some (some (.builtin "BaseException.__getattribute__")))
    (e_hkB : PySem.W.findIn K (.ref B) "__getattr__" = some none)
    (e_hdB : PySem.W.hasDictIn K B = true)
    (e_haB : PySem.W.findIn K (.ref B) "__class__" = some (some (.builtin "object.__class__")))
    (e_hnB : PySem.W.specialIn K (.builtin "object.__class__") "__get__" = some (some (.builtin "getset_descriptor.__get__")))
    (e_htB : PySem.W.takesIn K (.builtin "object.__class__") = some true)
    (e_hmB : PySem.W.mroIn K B (.type "object") = some true)
    (e_sBB : PySem.W.subIn K (.ref B) (.ref B) = some true)
    (e_iBB : PySem.W.kitOne K (.ref B) (.ref B) = some true)
    (e_iBV : PySem.W.kitOne K (.ref B) (.type "ValueError") = some true)
    (e_iBD : PySem.W.kitOne K (.ref B) (.ref D) = some false)
    (e_iBN : PySem.W.kitOne K (.ref B) (.ref N) = some false)
    (e_iBU : PySem.W.kitOne K (.ref B) (.ref U) = some false)
    (e_xD : PySem.W.excIn K D [.type "ValueError", .type "Exception", .type "BaseException", .type "object"] "ValueError.__new__" = true)
    (e_kD : PySem.W.keepIn K (.ref D) = true)
    (e_bD : PySem.W.subIn K (.ref D) (.type "BaseException") = some true)
    (e_tD : PySem.W.typeIn K (.ref D) = some (.type "type"))
    (e_sDL : PySem.W.subIn K (.ref D) (.ref L) = some true)
    (e_hgD : PySem.W.findIn K (.ref D) "__getattribute__" = some (some (.builtin "BaseException.__getattribute__")))
    (e_hkD : PySem.W.findIn K (.ref D) "__getattr__" = some none)
    (e_hdD : PySem.W.hasDictIn K D = true)
    (e_haD : PySem.W.findIn K (.ref D) "__class__" = some (some (.builtin "object.__class__")))
    (e_hmD : PySem.W.mroIn K D (.type "object") = some true)
    (e_sDD : PySem.W.subIn K (.ref D) (.ref D) = some true)
    (e_iDD : PySem.W.kitOne K (.ref D) (.ref D) = some true)
    (e_iDV : PySem.W.kitOne K (.ref D) (.type "ValueError") = some true)
    (e_iDB : PySem.W.kitOne K (.ref D) (.ref B) = some false)
    (e_iDN : PySem.W.kitOne K (.ref D) (.ref N) = some false)
    (e_iDU : PySem.W.kitOne K (.ref D) (.ref U) = some false)
    (e_kN : PySem.W.keepIn K (.ref N) = true)
    (e_bN : PySem.W.subIn K (.ref N) (.type "BaseException") = some true)
    (e_tN : PySem.W.typeIn K (.ref N) = some (.type "type"))
    (e_sNL : PySem.W.subIn K (.ref N) (.ref L) = some true)
    (e_hgN : PySem.W.findIn K (.ref N) "__getattribute__" = some (some (.builtin "BaseException.__getattribute__")))
    (e_hkN : PySem.W.findIn K (.ref N) "__getattr__" = some none)
    (e_hdN : PySem.W.hasDictIn K N = true)
    (e_haN : PySem.W.findIn K (.ref N) "__class__" = some (some (.builtin "object.__class__")))
    (e_hmN : PySem.W.mroIn K N (.type "object") = some true)
    (e_sNN : PySem.W.subIn K (.ref N) (.ref N) = some true)
    (e_iNN : PySem.W.kitOne K (.ref N) (.ref N) = some true)
    (e_iNV : PySem.W.kitOne K (.ref N) (.type "ValueError") = some true)
    (e_iNB : PySem.W.kitOne K (.ref N) (.ref B) = some false)
    (e_iND : PySem.W.kitOne K (.ref N) (.ref D) = some false)
    (e_iNU : PySem.W.kitOne K (.ref N) (.ref U) = some false)
    (e_kU : PySem.W.keepIn K (.ref U) = true)
    (e_bU : PySem.W.subIn K (.ref U) (.type "BaseException") = some true)
    (e_tU : PySem.W.typeIn K (.ref U) = some (.type "type"))
    (e_sUL : PySem.W.subIn K (.ref U) (.ref L) = some true)
    (e_hgU : PySem.W.findIn K (.ref U) "__getattribute__" = some (some (.builtin "BaseException.__getattribute__")))
    (e_hkU : PySem.W.findIn K (.ref U) "__getattr__" = some none)
    (e_hdU : PySem.W.hasDictIn K U = true)
    (e_haU : PySem.W.findIn K (.ref U) "__class__" = some (some (.builtin "object.__class__")))
    (e_hmU : PySem.W.mroIn K U (.type "object") = some true)
    (e_sUU : PySem.W.subIn K (.ref U) (.ref U) = some true)
    (e_iUU : PySem.W.kitOne K (.ref U) (.ref U) = some true)
    (e_iUV : PySem.W.kitOne K (.ref U) (.type "ValueError") = some true)
    (e_iUB : PySem.W.kitOne K (.ref U) (.ref B) = some false)
    (e_iUD : PySem.W.kitOne K (.ref U) (.ref D) = some false)
    (e_iUN : PySem.W.kitOne K (.ref U) (.ref N) = some false)
    {nmN qN : Str} {NN : Addr} {bsN bmN : List Value} {snN : List Str} {subN : List Value} {abN : Bool} {colN : Option Bool} {ddN : Option Addr} {k0N k1N k2N k3N k5N : Option Value}
    (xlN : K.lookup N = some (excClassObj nmN qN N NN bsN bmN true snN subN abN colN ddN k0N k1N k2N k3N k5N "ValueError.__new__")) (hbN : PySem.HandSPX.refsVE bmN = true)
    {f_NeedntFall_init : Addr} {od_NeedntFall_init an_NeedntFall_init : Option Addr} {sl_NeedntFall_init : Array (Option Value)} {oc_NeedntFall_init kV_NeedntFall_init dc_NeedntFall_init pm_NeedntFall_init cd_NeedntFall_init ct_NeedntFall_init : Value}
    (a_NeedntFall_init : PySem.W.findIn K (.ref N) "__init__" = some (some (.ref f_NeedntFall_init))) (i_NeedntFall_init : PySem.W.typeIn K (.ref f_NeedntFall_init) = some (.type "function")) (l_NeedntFall_init : K.lookup f_NeedntFall_init = some ⟨oc_NeedntFall_init, od_NeedntFall_init, .func (PySem.W.fnOf "__init__" "NeedntFall.__init__" (defArgs s_NeedntFall_init) (defBody s_NeedntFall_init) (defScope s_NeedntFall_init) .none kV_NeedntFall_init dc_NeedntFall_init pm_NeedntFall_init an_NeedntFall_init cd_NeedntFall_init ct_NeedntFall_init), sl_NeedntFall_init⟩) (c_NeedntFall_init : PySem.W.codeIn K cd_NeedntFall_init "NeedntFall.__init__" = true) (k_NeedntFall_init : PySem.W.keepIn K (.ref f_NeedntFall_init) = true)
    {nmU qU : Str} {NU : Addr} {bsU bmU : List Value} {snU : List Str} {subU : List Value} {abU : Bool} {colU : Option Bool} {ddU : Option Addr} {k0U k1U k2U k3U k5U : Option Value}
    (xlU : K.lookup U = some (excClassObj nmU qU U NU bsU bmU true snU subU abU colU ddU k0U k1U k2U k3U k5U "ValueError.__new__")) (hbU : PySem.HandSPX.refsVE bmU = true)
    {f_Uneven_init : Addr} {od_Uneven_init an_Uneven_init : Option Addr} {sl_Uneven_init : Array (Option Value)} {oc_Uneven_init kV_Uneven_init dc_Uneven_init pm_Uneven_init cd_Uneven_init ct_Uneven_init : Value}
    (a_Uneven_init : PySem.W.findIn K (.ref U) "__init__" = some (some (.ref f_Uneven_init))) (i_Uneven_init : PySem.W.typeIn K (.ref f_Uneven_init) = some (.type "function")) (l_Uneven_init : K.lookup f_Uneven_init = some ⟨oc_Uneven_init, od_Uneven_init, .func (PySem.W.fnOf "__init__" "Uneven.__init__" (defArgs s_Uneven_init) (defBody s_Uneven_init) (defScope s_Uneven_init) .none kV_Uneven_init dc_Uneven_init pm_Uneven_init an_Uneven_init cd_Uneven_init ct_Uneven_init), sl_Uneven_init⟩) (c_Uneven_init : PySem.W.codeIn K cd_Uneven_init "Uneven.__init__" = true) (k_Uneven_init : PySem.W.keepIn K (.ref f_Uneven_init) = true)
    (z_sorted : PySem.W.nsIn K mainGlobals "sorted" = some none)
    (z_all : PySem.W.nsIn K mainGlobals "all" = some none)
    (z_set : PySem.W.nsIn K mainGlobals "set" = some none)
    (z_tuple : PySem.W.nsIn K mainGlobals "tuple" = some none)
    (z_len : PySem.W.nsIn K mainGlobals "len" = some none)
    (z_range : PySem.W.nsIn K mainGlobals "range" = some none)
    (z_max : PySem.W.nsIn K mainGlobals "max" = some none)
    (z_type : PySem.W.nsIn K mainGlobals "type" = some none)
    (z_str : PySem.W.nsIn K mainGlobals "str" = some none)
    (z_int : PySem.W.nsIn K mainGlobals "int" = some none)
    (z_any : PySem.W.nsIn K mainGlobals "any" = some none)
    (z_enumerate : PySem.W.nsIn K mainGlobals "enumerate" = some none)
    (z_isinstance : PySem.W.nsIn K mainGlobals "isinstance" = some none)
    (z_ValueError : PySem.W.nsIn K mainGlobals "ValueError" = some none)
    (z_list : PySem.W.nsIn K mainGlobals "list" = some none)
    (z_dict : PySem.W.nsIn K mainGlobals "dict" = some none)
    (y_gcd : PySem.W.nsIn K mainGlobals "gcd" = some (some (.builtin "math.gcd"))) :
    ∃ fd : FuncData, (∀ (s : Shared) (v : Value), BindsTo s fd ⟨[v], []⟩ [("_law_script", v)]) ∧ ∀ base : Heap, K.In base → base.Ns mainGlobals mg → FnOk l.prog w K mg base CX0 90 fa fd ["_law_script"] (spLaw K) := by
  have e := hfa.symm.trans (PySem.W.mg_of X G a67)
  cases e
  have F0 := fun_mk (st := s_share) l0 c0 k0
  have D0 : DefAt K mg "share" "share" s_share ["top", "bottom"] _ _ := ⟨F0, PySem.W.mg_of X G a0, F0.binds (ps := ["top", "bottom"]) fun _ _ _ _ _ _ us hl => match us, hl with | [_, _], _ => rfl⟩
  have F1 := fun_mk (st := s_plus) l1 c1 k1
  have D1 : DefAt K mg "plus" "plus" s_plus ["one", "other"] _ _ := ⟨F1, PySem.W.mg_of X G a1, F1.binds (ps := ["one", "other"]) fun _ _ _ _ _ _ us hl => match us, hl with | [_, _], _ => rfl⟩
  have F2 := fun_mk (st := s_minus) l2 c2 k2
  have D2 : DefAt K mg "minus" "minus" s_minus ["one", "other"] _ _ := ⟨F2, PySem.W.mg_of X G a2, F2.binds (ps := ["one", "other"]) fun _ _ _ _ _ _ us hl => match us, hl with | [_, _], _ => rfl⟩
  have F3 := fun_mk (st := s_times) l3 c3 k3
  have D3 : DefAt K mg "times" "times" s_times ["one", "other"] _ _ := ⟨F3, PySem.W.mg_of X G a3, F3.binds (ps := ["one", "other"]) fun _ _ _ _ _ _ us hl => match us, hl with | [_, _], _ => rfl⟩
  have F4 := fun_mk (st := s_sum_of_number) l4 c4 k4
  have D4 : DefAt K mg "sum_of_number" "sum_of_number" s_sum_of_number ["n"] _ _ := ⟨F4, PySem.W.mg_of X G a4, F4.binds (ps := ["n"]) fun _ _ _ _ _ _ us hl => match us, hl with | [_], _ => rfl⟩
  have F5 := fun_mk (st := s_sum_of_name) l5 c5 k5
  have D5 : DefAt K mg "sum_of_name" "sum_of_name" s_sum_of_name ["x"] _ _ := ⟨F5, PySem.W.mg_of X G a5, F5.binds (ps := ["x"]) fun _ _ _ _ _ _ us hl => match us, hl with | [_], _ => rfl⟩
  have F6 := fun_mk (st := s_added) l6 c6 k6
  have D6 : DefAt K mg "added" "added" s_added ["one", "other"] _ _ := ⟨F6, PySem.W.mg_of X G a6, F6.binds (ps := ["one", "other"]) fun _ _ _ _ _ _ us hl => match us, hl with | [_, _], _ => rfl⟩
  have F7 := fun_mk (st := s_lessened) l7 c7 k7
  have D7 : DefAt K mg "lessened" "lessened" s_lessened ["one", "other"] _ _ := ⟨F7, PySem.W.mg_of X G a7, F7.binds (ps := ["one", "other"]) fun _ _ _ _ _ _ us hl => match us, hl with | [_, _], _ => rfl⟩
  have F8 := fun_mk (st := s_timed) l8 c8 k8
  have D8 : DefAt K mg "timed" "timed" s_timed ["one", "other"] _ _ := ⟨F8, PySem.W.mg_of X G a8, F8.binds (ps := ["one", "other"]) fun _ _ _ _ _ _ us hl => match us, hl with | [_, _], _ => rfl⟩
  have F9 := fun_mk (st := s_put_in) l9 c9 k9
  have D9 : DefAt K mg "put_in" "put_in" s_put_in ["given", "filling"] _ _ := ⟨F9, PySem.W.mg_of X G a9, F9.binds (ps := ["given", "filling"]) fun _ _ _ _ _ _ us hl => match us, hl with | [_, _], _ => rfl⟩
  have F10 := fun_mk (st := s_totalled) l10 c10 k10
  have D10 : DefAt K mg "totalled" "totalled" s_totalled ["given", "x", "many"] _ _ := ⟨F10, PySem.W.mg_of X G a10, F10.binds (ps := ["given", "x", "many"]) fun _ _ _ _ _ _ us hl => match us, hl with | [_, _, _], _ => rfl⟩
  have F11 := fun_mk (st := s_is_natural) l11 c11 k11
  have D11 : DefAt K mg "is_natural" "is_natural" s_is_natural ["given"] _ _ := ⟨F11, PySem.W.mg_of X G a11, F11.binds (ps := ["given"]) fun _ _ _ _ _ _ us hl => match us, hl with | [_], _ => rfl⟩
  have F12 := fun_mk (st := s_same) l12 c12 k12
  have D12 : DefAt K mg "same" "same" s_same ["one", "other"] _ _ := ⟨F12, PySem.W.mg_of X G a12, F12.binds (ps := ["one", "other"]) fun _ _ _ _ _ _ us hl => match us, hl with | [_, _], _ => rfl⟩
  have F13 := fun_mk (st := s_names_in) l13 c13 k13
  have D13 : DefAt K mg "names_in" "names_in" s_names_in ["given"] _ _ := ⟨F13, PySem.W.mg_of X G a13, F13.binds (ps := ["given"]) fun _ _ _ _ _ _ us hl => match us, hl with | [_], _ => rfl⟩
  have F14 := fun_mk (st := s_put_to) l14 c14 k14
  have D14 : DefAt K mg "_put_to" "_put_to" s_put_to ["shares", "key", "part"] _ _ := ⟨F14, PySem.W.mg_of X G a14, F14.binds (ps := ["shares", "key", "part"]) fun _ _ _ _ _ _ us hl => match us, hl with | [_, _, _], _ => rfl⟩
  have F15 := fun_mk (st := s_put_all_to) l15 c15 k15
  have D15 : DefAt K mg "_put_all_to" "_put_all_to" s_put_all_to ["parts", "other"] _ _ := ⟨F15, PySem.W.mg_of X G a15, F15.binds (ps := ["parts", "other"]) fun _ _ _ _ _ _ us hl => match us, hl with | [_, _], _ => rfl⟩
  have F16 := fun_mk (st := s_joined) l16 c16 k16
  have D16 : DefAt K mg "_joined" "_joined" s_joined ["one", "other"] _ _ := ⟨F16, PySem.W.mg_of X G a16, F16.binds (ps := ["one", "other"]) fun _ _ _ _ _ _ us hl => match us, hl with | [_, _], _ => rfl⟩
  have F17 := fun_mk (st := s_number_raised) l17 c17 k17
  have D17 : DefAt K mg "_number_raised" "_number_raised" s_number_raised ["number", "power"] _ _ := ⟨F17, PySem.W.mg_of X G a17, F17.binds (ps := ["number", "power"]) fun _ _ _ _ _ _ us hl => match us, hl with | [_, _], _ => rfl⟩
  have F18 := fun_mk (st := s_powers_of) l18 c18 k18
  have D18 : DefAt K mg "_powers_of" "_powers_of" s_powers_of ["base", "wanted"] _ _ := ⟨F18, PySem.W.mg_of X G a18, F18.binds (ps := ["base", "wanted"]) fun _ _ _ _ _ _ us hl => match us, hl with | [_, _], _ => rfl⟩
  have F19 := fun_mk (st := s_part_raised) l19 c19 k19
  have D19 : DefAt K mg "_part_raised" "_part_raised" s_part_raised ["base", "power"] _ _ := ⟨F19, PySem.W.mg_of X G a19, F19.binds (ps := ["base", "power"]) fun _ _ _ _ _ _ us hl => match us, hl with | [_, _], _ => rfl⟩
  have F20 := fun_mk (st := s_risen_fillings) l20 c20 k20
  have D20 : DefAt K mg "_risen_fillings" "_risen_fillings" s_risen_fillings ["given", "filling"] _ _ := ⟨F20, PySem.W.mg_of X G a20, F20.binds (ps := ["given", "filling"]) fun _ _ _ _ _ _ us hl => match us, hl with | [_, _], _ => rfl⟩
  have F21 := fun_mk (st := s_filled) l21 c21 k21
  have D21 : DefAt K mg "_filled" "_filled" s_filled ["product", "part", "risen"] _ _ := ⟨F21, PySem.W.mg_of X G a21, F21.binds (ps := ["product", "part", "risen"]) fun _ _ _ _ _ _ us hl => match us, hl with | [_, _, _], _ => rfl⟩
  have F22 := fun_mk (st := s_power_in) l22 c22 k22
  have D22 : DefAt K mg "_power_in" "_power_in" s_power_in ["product", "x"] _ _ := ⟨F22, PySem.W.mg_of X G a22, F22.binds (ps := ["product", "x"]) fun _ _ _ _ _ _ us hl => match us, hl with | [_, _], _ => rfl⟩
  have F23 := fun_mk (st := s_totals_by_power) l23 c23 k23
  have D23 : DefAt K mg "_totals_by_power" "_totals_by_power" s_totals_by_power ["given", "x"] _ _ := ⟨F23, PySem.W.mg_of X G a23, F23.binds (ps := ["given", "x"]) fun _ _ _ _ _ _ us hl => match us, hl with | [_, _], _ => rfl⟩
  have F24 := fun_mk (st := s_sums_of_powers) l24 c24 k24
  have D24 : DefAt K mg "_sums_of_powers" "_sums_of_powers" s_sums_of_powers ["highest"] _ _ := ⟨F24, PySem.W.mg_of X G a24, F24.binds (ps := ["highest"]) fun _ _ _ _ _ _ us hl => match us, hl with | [_], _ => rfl⟩
  have F25 := fun_mk (st := s_next_sum_of_powers) l25 c25 k25
  have D25 : DefAt K mg "_next_sum_of_powers" "_next_sum_of_powers" s_next_sum_of_powers ["row", "k"] _ _ := ⟨F25, PySem.W.mg_of X G a25, F25.binds (ps := ["row", "k"]) fun _ _ _ _ _ _ us hl => match us, hl with | [_, _], _ => rfl⟩
  have F26 := fun_mk (st := s_need_program) l26 c26 k26
  have D26 : DefAt K mg "need_program" "need_program" s_need_program ["program"] _ _ := ⟨F26, PySem.W.mg_of X G a26, F26.binds (ps := ["program"]) fun _ _ _ _ _ _ us hl => match us, hl with | [_], _ => rfl⟩
  have F27 := fun_mk (st := s_names_of) l27 c27 k27
  have D27 : DefAt K mg "names_of" "names_of" s_names_of ["program"] _ _ := ⟨F27, PySem.W.mg_of X G a27, F27.binds (ps := ["program"]) fun _ _ _ _ _ _ us hl => match us, hl with | [_], _ => rfl⟩
  have F28 := fun_mk (st := s_sum_told) l28 c28 k28
  have D28 : DefAt K mg "sum_told" "sum_told" s_sum_told ["expression"] _ _ := ⟨F28, PySem.W.mg_of X G a28, F28.binds (ps := ["expression"]) fun _ _ _ _ _ _ us hl => match us, hl with | [_], _ => rfl⟩
  have F29 := fun_mk (st := s_word_of) l29 c29 k29
  have D29 : DefAt K mg "_word_of" "_word_of" s_word_of ["thing", "forms"] _ _ := ⟨F29, PySem.W.mg_of X G a29, F29.binds (ps := ["thing", "forms"]) fun _ _ _ _ _ _ us hl => match us, hl with | [_, _], _ => rfl⟩
  have F30 := fun_mk (st := s_need_row) l30 c30 k30
  have D30 : DefAt K mg "_need_row" "_need_row" s_need_row ["row", "statements", "laps"] _ _ := ⟨F30, PySem.W.mg_of X G a30, F30.binds (ps := ["row", "statements", "laps"]) fun _ _ _ _ _ _ us hl => match us, hl with | [_, _, _], _ => rfl⟩
  have F31 := fun_mk (st := s_need_statement) l31 c31 k31
  have D31 : DefAt K mg "_need_statement" "_need_statement" s_need_statement ["statement", "statements", "laps"] _ _ := ⟨F31, PySem.W.mg_of X G a31, F31.binds (ps := ["statement", "statements", "laps"]) fun _ _ _ _ _ _ us hl => match us, hl with | [_, _, _], _ => rfl⟩
  have F32 := fun_mk (st := s_need_expression) l32 c32 k32
  have D32 : DefAt K mg "_need_expression" "_need_expression" s_need_expression ["expression", "deep"] _ _ := ⟨F32, PySem.W.mg_of X G a32, F32.binds (ps := ["expression", "deep"]) fun _ _ _ _ _ _ us hl => match us, hl with | [_, _], _ => rfl⟩
  have F33 := fun_mk (st := s_need_number) l33 c33 k33
  have D33 : DefAt K mg "_need_number" "_need_number" s_need_number ["n"] _ _ := ⟨F33, PySem.W.mg_of X G a33, F33.binds (ps := ["n"]) fun _ _ _ _ _ _ us hl => match us, hl with | [_], _ => rfl⟩
  have F34 := fun_mk (st := s_need_name) l34 c34 k34
  have D34 : DefAt K mg "_need_name" "_need_name" s_need_name ["x"] _ _ := ⟨F34, PySem.W.mg_of X G a34, F34.binds (ps := ["x"]) fun _ _ _ _ _ _ us hl => match us, hl with | [_], _ => rfl⟩
  have F35 := fun_mk (st := s_find_in_row) l35 c35 k35
  have D35 : DefAt K mg "_find_in_row" "_find_in_row" s_find_in_row ["row", "found"] _ _ := ⟨F35, PySem.W.mg_of X G a35, F35.binds (ps := ["row", "found"]) fun _ _ _ _ _ _ us hl => match us, hl with | [_, _], _ => rfl⟩
  have F36 := fun_mk (st := s_find_in_expression) l36 c36 k36
  have D36 : DefAt K mg "_find_in_expression" "_find_in_expression" s_find_in_expression ["expression", "found"] _ _ := ⟨F36, PySem.W.mg_of X G a36, F36.binds (ps := ["expression", "found"]) fun _ _ _ _ _ _ us hl => match us, hl with | [_, _], _ => rfl⟩
  have F37 := fun_mk (st := s_hangs_on_blurred) l37 c37 k37
  have D37 : DefAt K mg "hangs_on_blurred" "hangs_on_blurred" s_hangs_on_blurred ["given"] _ _ := ⟨F37, PySem.W.mg_of X G a37, F37.binds (ps := ["given"]) fun _ _ _ _ _ _ us hl => match us, hl with | [_], _ => rfl⟩
  have F38 := fun_mk (st := s_at_first) l38 c38 k38
  have D38 : DefAt K mg "at_first" "at_first" s_at_first ["names"] _ _ := ⟨F38, PySem.W.mg_of X G a38, F38.binds (ps := ["names"]) fun _ _ _ _ _ _ us hl => match us, hl with | [_], _ => rfl⟩
  have F39 := fun_mk (st := s_names_of_lap) l39 c39 k39
  have D39 : DefAt K mg "names_of_lap" "names_of_lap" s_names_of_lap ["lap"] _ _ := ⟨F39, PySem.W.mg_of X G a39, F39.binds (ps := ["lap"]) fun _ _ _ _ _ _ us hl => match us, hl with | [_], _ => rfl⟩
  have F40 := fun_mk (st := s_behind_turn) l40 c40 k40
  have D40 : DefAt K mg "behind_turn" "behind_turn" s_behind_turn ["lap"] _ _ := ⟨F40, PySem.W.mg_of X G a40, F40.binds (ps := ["lap"]) fun _ _ _ _ _ _ us hl => match us, hl with | [_], _ => rfl⟩
  have F41 := fun_mk (st := s_do_set) l41 c41 k41
  have D41 : DefAt K mg "do_set" "do_set" s_do_set ["sums", "statement"] _ _ := ⟨F41, PySem.W.mg_of X G a41, F41.binds (ps := ["sums", "statement"]) fun _ _ _ _ _ _ us hl => match us, hl with | [_, _], _ => rfl⟩
  have F42 := fun_mk (st := s_do_lap) l42 c42 k42
  have D42 : DefAt K mg "do_lap" "do_lap" s_do_lap ["sums", "lap", "turn"] _ _ := ⟨F42, PySem.W.mg_of X G a42, F42.binds (ps := ["sums", "lap", "turn"]) fun _ _ _ _ _ _ us hl => match us, hl with | [_, _, _], _ => rfl⟩
  have F43 := fun_mk (st := s_is_even) l43 c43 k43
  have D43 : DefAt K mg "is_even" "is_even" s_is_even ["guard", "turn"] _ _ := ⟨F43, PySem.W.mg_of X G a43, F43.binds (ps := ["guard", "turn"]) fun _ _ _ _ _ _ us hl => match us, hl with | [_, _], _ => rfl⟩
  have F44 := fun_mk (st := s_told_in_turns) l44 c44 k44
  have D44 : DefAt K mg "told_in_turns" "told_in_turns" s_told_in_turns ["guard", "turn"] _ _ := ⟨F44, PySem.W.mg_of X G a44, F44.binds (ps := ["guard", "turn"]) fun _ _ _ _ _ _ us hl => match us, hl with | [_, _], _ => rfl⟩
  have F45 := fun_mk (st := s_all_told) l45 c45 k45
  have D45 : DefAt K mg "all_told" "all_told" s_all_told ["given", "told"] _ _ := ⟨F45, PySem.W.mg_of X G a45, F45.binds (ps := ["given", "told"]) fun _ _ _ _ _ _ us hl => match us, hl with | [_, _], _ => rfl⟩
  have F46 := fun_mk (st := s_grown) l46 c46 k46
  have D46 : DefAt K mg "grown" "grown" s_grown ["growth", "told"] _ _ := ⟨F46, PySem.W.mg_of X G a46, F46.binds (ps := ["growth", "told"]) fun _ _ _ _ _ _ us hl => match us, hl with | [_, _], _ => rfl⟩
  have F47 := fun_mk (st := s_in_turn) l47 c47 k47
  have D47 : DefAt K mg "in_turn" "in_turn" s_in_turn ["given", "number", "ahead"] _ _ := ⟨F47, PySem.W.mg_of X G a47, F47.binds (ps := ["given", "number", "ahead"]) fun _ _ _ _ _ _ us hl => match us, hl with | [_, _, _], _ => rfl⟩
  have F48 := fun_mk (st := s_behind) l48 c48 k48
  have D48 : DefAt K mg "_behind" "_behind" s_behind ["row", "names"] _ _ := ⟨F48, PySem.W.mg_of X G a48, F48.binds (ps := ["row", "names"]) fun _ _ _ _ _ _ us hl => match us, hl with | [_, _], _ => rfl⟩
  have F49 := fun_mk (st := s_keep) l49 c49 k49
  have D49 : DefAt K mg "_keep" "_keep" s_keep ["sums", "name", "told"] _ _ := ⟨F49, PySem.W.mg_of X G a49, F49.binds (ps := ["sums", "name", "told"]) fun _ _ _ _ _ _ us hl => match us, hl with | [_, _, _], _ => rfl⟩
  have F50 := fun_mk (st := s_blurred) l50 c50 k50
  have D50 : DefAt K mg "_blurred" "_blurred" s_blurred ["name"] _ _ := ⟨F50, PySem.W.mg_of X G a50, F50.binds (ps := ["name"]) fun _ _ _ _ _ _ us hl => match us, hl with | [_], _ => rfl⟩
  have F51 := fun_mk (st := s_may_set) l51 c51 k51
  have D51 : DefAt K mg "_may_set" "_may_set" s_may_set ["row"] _ _ := ⟨F51, PySem.W.mg_of X G a51, F51.binds (ps := ["row"]) fun _ _ _ _ _ _ us hl => match us, hl with | [_], _ => rfl⟩
  have F52 := fun_mk (st := s_ends_of_even) l52 c52 k52
  have D52 : DefAt K mg "_ends_of_even" "_ends_of_even" s_ends_of_even ["guard", "turn", "ahead"] _ _ := ⟨F52, PySem.W.mg_of X G a52, F52.binds (ps := ["guard", "turn", "ahead"]) fun _ _ _ _ _ _ us hl => match us, hl with | [_, _, _], _ => rfl⟩
  have F53 := fun_mk (st := s_looked) l53 c53 k53
  have D53 : DefAt K mg "looked" "looked" s_looked ["program"] _ _ := ⟨F53, PySem.W.mg_of X G a53, F53.binds (ps := ["program"]) fun _ _ _ _ _ _ us hl => match us, hl with | [_], _ => rfl⟩
  have F54 := fun_mk (st := s_look_at_row) l54 c54 k54
  have D54 : DefAt K mg "_look_at_row" "_look_at_row" s_look_at_row ["row", "place"] _ _ := ⟨F54, PySem.W.mg_of X G a54, F54.binds (ps := ["row", "place"]) fun _ _ _ _ _ _ us hl => match us, hl with | [_, _], _ => rfl⟩
  have F55 := fun_mk (st := s_falls) l55 c55 k55
  have D55 : DefAt K mg "_falls" "_falls" s_falls ["lap"] _ _ := ⟨F55, PySem.W.mg_of X G a55, F55.binds (ps := ["lap"]) fun _ _ _ _ _ _ us hl => match us, hl with | [_], _ => rfl⟩
  have F56 := fun_mk (st := s_count_of) l56 c56 k56
  have D56 : DefAt K mg "count_of" "count_of" s_count_of ["program"] _ _ := ⟨F56, PySem.W.mg_of X G a56, F56.binds (ps := ["program"]) fun _ _ _ _ _ _ us hl => match us, hl with | [_], _ => rfl⟩
  have F57 := fun_mk (st := s_counted) l57 c57 k57
  have D57 : DefAt K mg "_counted" "_counted" s_counted ["row", "names", "place"] _ _ := ⟨F57, PySem.W.mg_of X G a57, F57.binds (ps := ["row", "names", "place"]) fun _ _ _ _ _ _ us hl => match us, hl with | [_, _, _], _ => rfl⟩
  have F58 := fun_mk (st := s_count_of_lap) l58 c58 k58
  have D58 : DefAt K mg "_count_of_lap" "_count_of_lap" s_count_of_lap ["guard", "in_row", "turn", "ahead", "place"] _ _ := ⟨F58, PySem.W.mg_of X G a58, F58.binds (ps := ["guard", "in_row", "turn", "ahead", "place"]) fun _ _ _ _ _ _ us hl => match us, hl with | [_, _, _, _, _], _ => rfl⟩
  have F59 := fun_mk (st := s_ran) l59 c59 k59
  have D59 : DefAt K mg "ran" "ran" s_ran ["program", "names", "most"] _ _ := ⟨F59, PySem.W.mg_of X G a59, F59.binds (ps := ["program", "names", "most"]) fun _ _ _ _ _ _ us hl => match us, hl with | [_, _, _], _ => rfl⟩
  have F60 := fun_mk (st := s_do_row) l60 c60 k60
  have D60 : DefAt K mg "_do_row" "_do_row" s_do_row ["run", "row", "place"] _ _ := ⟨F60, PySem.W.mg_of X G a60, F60.binds (ps := ["run", "row", "place"]) fun _ _ _ _ _ _ us hl => match us, hl with | [_, _, _], _ => rfl⟩
  have F61 := fun_mk (st := s_u_do_lap) l61 c61 k61
  have D61 : DefAt K mg "_do_lap" "_do_lap" s_u_do_lap ["run", "lap", "place"] _ _ := ⟨F61, PySem.W.mg_of X G a61, F61.binds (ps := ["run", "lap", "place"]) fun _ _ _ _ _ _ us hl => match us, hl with | [_, _, _], _ => rfl⟩
  have F62 := fun_mk (st := s_reckoned) l62 c62 k62
  have D62 : DefAt K mg "_reckoned" "_reckoned" s_reckoned ["expression", "names"] _ _ := ⟨F62, PySem.W.mg_of X G a62, F62.binds (ps := ["expression", "names"]) fun _ _ _ _ _ _ us hl => match us, hl with | [_, _], _ => rfl⟩
  have F63 := fun_mk (st := s_law_next) l63 c63 k63
  have D63 : DefAt K mg "_law_next" "_law_next" s_law_next ["_law_h", "_law_many"] _ _ := ⟨F63, PySem.W.mg_of X G a63, F63.binds (ps := ["_law_h", "_law_many"]) fun _ _ _ _ _ _ us hl => match us, hl with | [_, _], _ => rfl⟩
  have F64 := fun_mk (st := s_law_names) l64 c64 k64
  have D64 : DefAt K mg "_law_names" "_law_names" s_law_names ["_law_h"] _ _ := ⟨F64, PySem.W.mg_of X G a64, F64.binds (ps := ["_law_h"]) fun _ _ _ _ _ _ us hl => match us, hl with | [_], _ => rfl⟩
  have F65 := fun_mk (st := s_law_refuse) l65 c65 k65
  have D65 : DefAt K mg "_law_refuse" "_law_refuse" s_law_refuse ["_law_way", "_law_program", "_law_bad", "_law_names_here"] _ _ := ⟨F65, PySem.W.mg_of X G a65, F65.binds (ps := ["_law_way", "_law_program", "_law_bad", "_law_names_here"]) fun _ _ _ _ _ _ us hl => match us, hl with | [_, _, _, _], _ => rfl⟩
  have F66 := fun_mk (st := s_law_kinds) l66 c66 k66
  have D66 : DefAt K mg "_law_kinds" "_law_kinds" s_law_kinds ["_law_way", "_law_program", "_law_bad", "_law_names_here"] _ _ := ⟨F66, PySem.W.mg_of X G a66, F66.binds (ps := ["_law_way", "_law_program", "_law_bad", "_law_names_here"]) fun _ _ _ _ _ _ us hl => match us, hl with | [_, _, _, _], _ => rfl⟩
  have F67 := fun_mk (st := s_law) l67 c67 k67
  have D67 : DefAt K mg "law" "law" s_law ["_law_script"] _ _ := ⟨F67, PySem.W.mg_of X G a67, F67.binds (ps := ["_law_script"]) fun _ _ _ _ _ _ us hl => match us, hl with | [_], _ => rfl⟩
  have FI_Sum := fun_mk (st := s_Sum_init) l_Sum_init c_Sum_init k_Sum_init
  have FI_Run := fun_mk (st := s_Run_init) l_Run_init c_Run_init k_Run_init
  have FI_NeedntFall := fun_mk (st := s_NeedntFall_init) l_NeedntFall_init c_NeedntFall_init k_NeedntFall_init
  have FI_Uneven := fun_mk (st := s_Uneven_init) l_Uneven_init c_Uneven_init k_Uneven_init
  have T : Txt K mg C_Sum := ⟨⟨_, ⟨⟨pg_Run, hd_Run, po_Run, sa_Run⟩, PySem.W.mg_of X G aC_Run, na_Run_entries, na_Run_most, na_Run_names, na_Run_told, na_Run_turns, ⟨_, _, ⟨mk_Run, a_Run_init, i_Run_init, kc_Run⟩, FI_Run, FI_Run.binds (ps := ["self", "names", "most"]) fun _ _ _ _ _ _ us hl => match us, hl with | [_, _, _], _ => rfl⟩⟩⟩, ⟨pg_Sum, hd_Sum, po_Sum, sa_Sum⟩, PySem.W.mg_of X G aC_Sum, na_Sum_parts, ⟨_, _, ⟨mk_Sum, a_Sum_init, i_Sum_init, kc_Sum⟩, FI_Sum, FI_Sum.binds (ps := ["self", "parts"]) fun _ _ _ _ _ _ us hl => match us, hl with | [_, _], _ => rfl⟩, ⟨_, PySem.W.mg_of X G av_NOUGHT, fun H => .inr ⟨_, _, _, lv_NOUGHT, rfl, rfl, (by show 2 ≤ sizeLine; decide), .cons ⟨_, rfl⟩ (.cons ⟨_, rfl⟩ ( .nil))⟩⟩, ⟨_, PySem.W.mg_of X G av_ONE, fun H => .inr ⟨_, _, _, lv_ONE, rfl, rfl, (by show 2 ≤ sizeLine; decide), .cons ⟨_, rfl⟩ (.cons ⟨_, rfl⟩ ( .nil))⟩⟩, ⟨_, PySem.W.mg_of X G av_TURN, ⟨_, rfl⟩⟩, ⟨_, PySem.W.mg_of X G av_BLURRED, ⟨_, rfl⟩⟩, ⟨_, PySem.W.mg_of X G av_MOST_LETTERS, ⟨_, rfl⟩⟩, ⟨_, PySem.W.mg_of X G av_HIGHEST_NUMBER, ⟨_, rfl⟩⟩, ⟨_, PySem.W.mg_of X G av_MOST_DEEP, ⟨_, rfl⟩⟩, ⟨_, PySem.W.mg_of X G av_MOST_STATEMENTS, ⟨_, rfl⟩⟩, ⟨_, PySem.W.mg_of X G av_MOST_LAPS, ⟨_, rfl⟩⟩, ⟨_, PySem.W.mg_of X G av_ROWS, fun H => Dp.tup (xs := [.ref i0_ROWS]) (.inr ⟨_, _, _, lv_ROWS, rfl, rfl, (by show 1 ≤ sizeLine; decide), .cons rfl ( .nil)⟩) (.cons (Dp.tup (xs := [.str "row", .int 2]) (.inr ⟨_, _, _, lv0_ROWS, rfl, rfl, (by show 2 ≤ sizeLine; decide), .cons ⟨_, rfl⟩ (.cons ⟨_, rfl⟩ ( .nil))⟩) (.cons (.str _) (.cons (.int _) (.nil)))) (.nil))⟩, ⟨_, PySem.W.mg_of X G av_STATEMENTS, fun H => Dp.tup (xs := [.ref i0_STATEMENTS, .ref i1_STATEMENTS, .ref i2_STATEMENTS]) (.inr ⟨_, _, _, lv_STATEMENTS, rfl, rfl, (by show 3 ≤ sizeLine; decide), .cons rfl (.cons rfl (.cons rfl ( .nil)))⟩) (.cons (Dp.tup (xs := [.str "set", .int 3]) (.inr ⟨_, _, _, lv0_STATEMENTS, rfl, rfl, (by show 2 ≤ sizeLine; decide), .cons ⟨_, rfl⟩ (.cons ⟨_, rfl⟩ ( .nil))⟩) (.cons (.str _) (.cons (.int _) (.nil)))) (.cons (Dp.tup (xs := [.str "say", .int 2]) (.inr ⟨_, _, _, lv1_STATEMENTS, rfl, rfl, (by show 2 ≤ sizeLine; decide), .cons ⟨_, rfl⟩ (.cons ⟨_, rfl⟩ ( .nil))⟩) (.cons (.str _) (.cons (.int _) (.nil)))) (.cons (Dp.tup (xs := [.str "lap", .int 4]) (.inr ⟨_, _, _, lv2_STATEMENTS, rfl, rfl, (by show 2 ≤ sizeLine; decide), .cons ⟨_, rfl⟩ (.cons ⟨_, rfl⟩ ( .nil))⟩) (.cons (.str _) (.cons (.int _) (.nil)))) (.nil))))⟩, ⟨_, PySem.W.mg_of X G av_EXPRESSIONS, fun H => Dp.tup (xs := [.ref i0_EXPRESSIONS, .ref i1_EXPRESSIONS, .ref i2_EXPRESSIONS, .ref i3_EXPRESSIONS]) (.inr ⟨_, _, _, lv_EXPRESSIONS, rfl, rfl, (by show 4 ≤ sizeLine; decide), .cons rfl (.cons rfl (.cons rfl (.cons rfl ( .nil))))⟩) (.cons (Dp.tup (xs := [.str "num", .int 2]) (.inr ⟨_, _, _, lv0_EXPRESSIONS, rfl, rfl, (by show 2 ≤ sizeLine; decide), .cons ⟨_, rfl⟩ (.cons ⟨_, rfl⟩ ( .nil))⟩) (.cons (.str _) (.cons (.int _) (.nil)))) (.cons (Dp.tup (xs := [.str "name", .int 2]) (.inr ⟨_, _, _, lv1_EXPRESSIONS, rfl, rfl, (by show 2 ≤ sizeLine; decide), .cons ⟨_, rfl⟩ (.cons ⟨_, rfl⟩ ( .nil))⟩) (.cons (.str _) (.cons (.int _) (.nil)))) (.cons (Dp.tup (xs := [.str "add", .int 3]) (.inr ⟨_, _, _, lv2_EXPRESSIONS, rfl, rfl, (by show 2 ≤ sizeLine; decide), .cons ⟨_, rfl⟩ (.cons ⟨_, rfl⟩ ( .nil))⟩) (.cons (.str _) (.cons (.int _) (.nil)))) (.cons (Dp.tup (xs := [.str "times", .int 3]) (.inr ⟨_, _, _, lv3_EXPRESSIONS, rfl, rfl, (by show 2 ≤ sizeLine; decide), .cons ⟨_, rfl⟩ (.cons ⟨_, rfl⟩ ( .nil))⟩) (.cons (.str _) (.cons (.int _) (.nil)))) (.nil)))))⟩, ⟨_, _, _, _, _, ⟨PySem.W.mg_of X G e_gL, PySem.W.mg_of X G e_gB, PySem.W.mg_of X G e_gD, PySem.W.mg_of X G e_gN, PySem.W.mg_of X G e_gU, e_rL, e_yL, e_vL, e_kL, e_pN, e_zN, e_pU, e_zU, e_xB, e_kB, e_bB, e_tB, e_bL, e_hL, e_tL, e_sBL, e_hgB, e_hkB, e_hdB, e_haB, e_hnB, e_htB, e_hmB, e_sBB, e_iBB, e_iBV, e_iBD, e_iBN, e_iBU, e_xD, e_kD, e_bD, e_tD, e_sDL, e_hgD, e_hkD, e_hdD, e_haD, e_hmD, e_sDD, e_iDD, e_iDV, e_iDB, e_iDN, e_iDU, e_kN, e_bN, e_tN, e_sNL, e_hgN, e_hkN, e_hdN, e_haN, e_hmN, e_sNN, e_iNN, e_iNV, e_iNB, e_iND, e_iNU, e_kU, e_bU, e_tU, e_sUL, e_hgU, e_hkU, e_hdU, e_haU, e_hmU, e_sUU, e_iUU, e_iUV, e_iUB, e_iUD, e_iUN, ⟨⟨_, _, _, _, _, _, _, _, _, _, _, _, _, _, _, xlN, hbN⟩, e_zN, e_bN, e_tN, e_kN⟩, ⟨_, _, a_NeedntFall_init, i_NeedntFall_init, FI_NeedntFall, FI_NeedntFall.binds (ps := ["self", "place"]) fun _ _ _ _ _ _ us hl => match us, hl with | [_, _], _ => rfl⟩, ⟨⟨_, _, _, _, _, _, _, _, _, _, _, _, _, _, _, xlU, hbU⟩, e_zU, e_bU, e_tU, e_kU⟩, ⟨_, _, a_Uneven_init, i_Uneven_init, FI_Uneven, FI_Uneven.binds (ps := ["self", "place"]) fun _ _ _ _ _ _ us hl => match us, hl with | [_, _], _ => rfl⟩⟩⟩, ⟨_, _, D0⟩, ⟨_, _, D1⟩, ⟨_, _, D2⟩, ⟨_, _, D3⟩, ⟨_, _, D4⟩, ⟨_, _, D5⟩, ⟨_, _, D6⟩, ⟨_, _, D7⟩, ⟨_, _, D8⟩, ⟨_, _, D9⟩, ⟨_, _, D10⟩, ⟨_, _, D11⟩, ⟨_, _, D12⟩, ⟨_, _, D13⟩, ⟨_, _, D14⟩, ⟨_, _, D15⟩, ⟨_, _, D16⟩, ⟨_, _, D17⟩, ⟨_, _, D18⟩, ⟨_, _, D19⟩, ⟨_, _, D20⟩, ⟨_, _, D21⟩, ⟨_, _, D22⟩, ⟨_, _, D23⟩, ⟨_, _, D24⟩, ⟨_, _, D25⟩, ⟨_, _, D26⟩, ⟨_, _, D27⟩, ⟨_, _, D28⟩, ⟨_, _, D29⟩, ⟨_, _, D30⟩, ⟨_, _, D31⟩, ⟨_, _, D32⟩, ⟨_, _, D33⟩, ⟨_, _, D34⟩, ⟨_, _, D35⟩, ⟨_, _, D36⟩, ⟨_, _, D37⟩, ⟨_, _, D38⟩, ⟨_, _, D39⟩, ⟨_, _, D40⟩, ⟨_, _, D41⟩, ⟨_, _, D42⟩, ⟨_, _, D43⟩, ⟨_, _, D44⟩, ⟨_, _, D45⟩, ⟨_, _, D46⟩, ⟨_, _, D47⟩, ⟨_, _, D48⟩, ⟨_, _, D49⟩, ⟨_, _, D50⟩, ⟨_, _, D51⟩, ⟨_, _, D52⟩, ⟨_, _, D53⟩, ⟨_, _, D54⟩, ⟨_, _, D55⟩, ⟨_, _, D56⟩, ⟨_, _, D57⟩, ⟨_, _, D58⟩, ⟨_, _, D59⟩, ⟨_, _, D60⟩, ⟨_, _, D61⟩, ⟨_, _, D62⟩, ⟨_, _, D63⟩, ⟨_, _, D64⟩, ⟨_, _, D65⟩, ⟨_, _, D66⟩, PySem.W.mg_none_of X G z_sorted, PySem.W.mg_none_of X G z_all, PySem.W.mg_none_of X G z_set, PySem.W.mg_none_of X G z_tuple, PySem.W.mg_none_of X G z_len, PySem.W.mg_none_of X G z_range, PySem.W.mg_none_of X G z_max, PySem.W.mg_none_of X G z_type, PySem.W.mg_none_of X G z_str, PySem.W.mg_none_of X G z_int, PySem.W.mg_none_of X G z_any, PySem.W.mg_none_of X G z_enumerate, PySem.W.mg_none_of X G z_isinstance, PySem.W.mg_none_of X G z_ValueError, PySem.W.mg_none_of X G z_list, PySem.W.mg_none_of X G z_dict, PySem.W.mg_of X G y_gcd⟩
  exact ⟨PySem.W.fnOf "law" "law" (defArgs s_law) (defBody s_law) (defScope s_law) .none kV67 dc67 pm67 an67 cd67 ct67, fun s v => .of_eq rfl, fun base _ _ => ok_law T D67⟩
end K22
open PySem PySem.W PyProof.Rows
set_option maxHeartbeats 0 in
theorem PySem.Challenge.cw_lapfold_k22_refusals_stand_apart_holds : PySem.Challenge.rw_lapfold_k22_refusals_stand_apart.Holds := by
  w_on; o_law; k_head; (case hw => w_witness2)
  k_fill
  refine L2.walk_of (l := PySem.Challenge.rw_lapfold_k22_refusals_stand_apart) (n := 63) (k := 90) (x := "_law_script") (CX := fun _ => L2.CX0) (sp := fun w => K22.spLaw _) rfl (by decide) rfl ⟨rfl, by decide, by decide⟩ (fun w h Y => PySem.W.kIn_of Y) ?F (fun _ _ a ns hl _ hS => ⟨a, ns, rfl, hS, hl, fun _ => rfl⟩) (fun _ _ _ _ _ h => h)
  case F =>
    intro w mg fa h KX G hmg
    refine' K22.all_mk KX G hmg ?a0 ?l0 ?c0 ?k0 ?a1 ?l1 ?c1 ?k1 ?a2 ?l2 ?c2 ?k2 ?a3 ?l3 ?c3 ?k3 ?a4 ?l4 ?c4 ?k4 ?a5 ?l5 ?c5 ?k5 ?a6 ?l6 ?c6 ?k6 ?a7 ?l7 ?c7 ?k7 ?a8 ?l8 ?c8 ?k8 ?a9 ?l9 ?c9 ?k9 ?a10 ?l10 ?c10 ?k10 ?a11 ?l11 ?c11 ?k11 ?a12 ?l12 ?c12 ?k12 ?a13 ?l13 ?c13 ?k13 ?a14 ?l14 ?c14 ?k14 ?a15 ?l15 ?c15 ?k15 ?a16 ?l16 ?c16 ?k16 ?a17 ?l17 ?c17 ?k17 ?a18 ?l18 ?c18 ?k18 ?a19 ?l19 ?c19 ?k19 ?a20 ?l20 ?c20 ?k20 ?a21 ?l21 ?c21 ?k21 ?a22 ?l22 ?c22 ?k22 ?a23 ?l23 ?c23 ?k23 ?a24 ?l24 ?c24 ?k24 ?a25 ?l25 ?c25 ?k25 ?a26 ?l26 ?c26 ?k26 ?a27 ?l27 ?c27 ?k27 ?a28 ?l28 ?c28 ?k28 ?a29 ?l29 ?c29 ?k29 ?a30 ?l30 ?c30 ?k30 ?a31 ?l31 ?c31 ?k31 ?a32 ?l32 ?c32 ?k32 ?a33 ?l33 ?c33 ?k33 ?a34 ?l34 ?c34 ?k34 ?a35 ?l35 ?c35 ?k35 ?a36 ?l36 ?c36 ?k36 ?a37 ?l37 ?c37 ?k37 ?a38 ?l38 ?c38 ?k38 ?a39 ?l39 ?c39 ?k39 ?a40 ?l40 ?c40 ?k40 ?a41 ?l41 ?c41 ?k41 ?a42 ?l42 ?c42 ?k42 ?a43 ?l43 ?c43 ?k43 ?a44 ?l44 ?c44 ?k44 ?a45 ?l45 ?c45 ?k45 ?a46 ?l46 ?c46 ?k46 ?a47 ?l47 ?c47 ?k47 ?a48 ?l48 ?c48 ?k48 ?a49 ?l49 ?c49 ?k49 ?a50 ?l50 ?c50 ?k50 ?a51 ?l51 ?c51 ?k51 ?a52 ?l52 ?c52 ?k52 ?a53 ?l53 ?c53 ?k53 ?a54 ?l54 ?c54 ?k54 ?a55 ?l55 ?c55 ?k55 ?a56 ?l56 ?c56 ?k56 ?a57 ?l57 ?c57 ?k57 ?a58 ?l58 ?c58 ?k58 ?a59 ?l59 ?c59 ?k59 ?a60 ?l60 ?c60 ?k60 ?a61 ?l61 ?c61 ?k61 ?a62 ?l62 ?c62 ?k62 ?a63 ?l63 ?c63 ?k63 ?a64 ?l64 ?c64 ?k64 ?a65 ?l65 ?c65 ?k65 ?a66 ?l66 ?c66 ?k66 ?a67 ?l67 ?c67 ?k67 ?aC_Sum ?a_Sum_init ?i_Sum_init ?l_Sum_init ?c_Sum_init ?k_Sum_init ?pg_Sum ?hd_Sum ?po_Sum ?sa_Sum ?mk_Sum ?kc_Sum ?na_Sum_parts ?aC_Run ?a_Run_init ?i_Run_init ?l_Run_init ?c_Run_init ?k_Run_init ?pg_Run ?hd_Run ?po_Run ?sa_Run ?mk_Run ?kc_Run ?na_Run_entries ?na_Run_most ?na_Run_names ?na_Run_told ?na_Run_turns ?av_NOUGHT ?lv_NOUGHT ?av_ONE ?lv_ONE ?av_TURN ?av_BLURRED ?av_MOST_LETTERS ?av_HIGHEST_NUMBER ?av_MOST_DEEP ?av_MOST_STATEMENTS ?av_MOST_LAPS ?av_ROWS ?lv_ROWS ?lv0_ROWS ?av_STATEMENTS ?lv_STATEMENTS ?lv0_STATEMENTS ?lv1_STATEMENTS ?lv2_STATEMENTS ?av_EXPRESSIONS ?lv_EXPRESSIONS ?lv0_EXPRESSIONS ?lv1_EXPRESSIONS ?lv2_EXPRESSIONS ?lv3_EXPRESSIONS ?e_gL ?e_gB ?e_gD ?e_gN ?e_gU ?e_rL ?e_yL ?e_vL ?e_kL ?e_pN ?e_zN ?e_pU ?e_zU ?e_xB ?e_kB ?e_bB ?e_tB ?e_bL ?e_hL ?e_tL ?e_sBL ?e_hgB ?e_hkB ?e_hdB ?e_haB ?e_hnB ?e_htB ?e_hmB ?e_sBB ?e_iBB ?e_iBV ?e_iBD ?e_iBN ?e_iBU ?e_xD ?e_kD ?e_bD ?e_tD ?e_sDL ?e_hgD ?e_hkD ?e_hdD ?e_haD ?e_hmD ?e_sDD ?e_iDD ?e_iDV ?e_iDB ?e_iDN ?e_iDU ?e_kN ?e_bN ?e_tN ?e_sNL ?e_hgN ?e_hkN ?e_hdN ?e_haN ?e_hmN ?e_sNN ?e_iNN ?e_iNV ?e_iNB ?e_iND ?e_iNU ?e_kU ?e_bU ?e_tU ?e_sUL ?e_hgU ?e_hkU ?e_hdU ?e_haU ?e_hmU ?e_sUU ?e_iUU ?e_iUV ?e_iUB ?e_iUD ?e_iUN ?xlN ?hbN ?a_NeedntFall_init ?i_NeedntFall_init ?l_NeedntFall_init ?c_NeedntFall_init ?k_NeedntFall_init ?xlU ?hbU ?a_Uneven_init ?i_Uneven_init ?l_Uneven_init ?c_Uneven_init ?k_Uneven_init ?z_sorted ?z_all ?z_set ?z_tuple ?z_len ?z_range ?z_max ?z_type ?z_str ?z_int ?z_any ?z_enumerate ?z_isinstance ?z_ValueError ?z_list ?z_dict ?y_gcd
    (case a0 => k_is)
    (case l0 => k_is)
    (case c0 => k_is)
    (case k0 => k_is)
    (case a1 => k_is)
    (case l1 => k_is)
    (case c1 => k_is)
    (case k1 => k_is)
    (case a2 => k_is)
    (case l2 => k_is)
    (case c2 => k_is)
    (case k2 => k_is)
    (case a3 => k_is)
    (case l3 => k_is)
    (case c3 => k_is)
    (case k3 => k_is)
    (case a4 => k_is)
    (case l4 => k_is)
    (case c4 => k_is)
    (case k4 => k_is)
    (case a5 => k_is)
    (case l5 => k_is)
    (case c5 => k_is)
    (case k5 => k_is)
    (case a6 => k_is)
    (case l6 => k_is)
    (case c6 => k_is)
    (case k6 => k_is)
    (case a7 => k_is)
    (case l7 => k_is)
    (case c7 => k_is)
    (case k7 => k_is)
    (case a8 => k_is)
    (case l8 => k_is)
    (case c8 => k_is)
    (case k8 => k_is)
    (case a9 => k_is)
    (case l9 => k_is)
    (case c9 => k_is)
    (case k9 => k_is)
    (case a10 => k_is)
    (case l10 => k_is)
    (case c10 => k_is)
    (case k10 => k_is)
    (case a11 => k_is)
    (case l11 => k_is)
    (case c11 => k_is)
    (case k11 => k_is)
    (case a12 => k_is)
    (case l12 => k_is)
    (case c12 => k_is)
    (case k12 => k_is)
    (case a13 => k_is)
    (case l13 => k_is)
    (case c13 => k_is)
    (case k13 => k_is)
    (case a14 => k_is)
    (case l14 => k_is)
    (case c14 => k_is)
    (case k14 => k_is)
    (case a15 => k_is)
    (case l15 => k_is)
    (case c15 => k_is)
    (case k15 => k_is)
    (case a16 => k_is)
    (case l16 => k_is)
    (case c16 => k_is)
    (case k16 => k_is)
    (case a17 => k_is)
    (case l17 => k_is)
    (case c17 => k_is)
    (case k17 => k_is)
    (case a18 => k_is)
    (case l18 => k_is)
    (case c18 => k_is)
    (case k18 => k_is)
    (case a19 => k_is)
    (case l19 => k_is)
    (case c19 => k_is)
    (case k19 => k_is)
    (case a20 => k_is)
    (case l20 => k_is)
    (case c20 => k_is)
    (case k20 => k_is)
    (case a21 => k_is)
    (case l21 => k_is)
    (case c21 => k_is)
    (case k21 => k_is)
    (case a22 => k_is)
    (case l22 => k_is)
    (case c22 => k_is)
    (case k22 => k_is)
    (case a23 => k_is)
    (case l23 => k_is)
    (case c23 => k_is)
    (case k23 => k_is)
    (case a24 => k_is)
    (case l24 => k_is)
    (case c24 => k_is)
    (case k24 => k_is)
    (case a25 => k_is)
    (case l25 => k_is)
    (case c25 => k_is)
    (case k25 => k_is)
    (case a26 => k_is)
    (case l26 => k_is)
    (case c26 => k_is)
    (case k26 => k_is)
    (case a27 => k_is)
    (case l27 => k_is)
    (case c27 => k_is)
    (case k27 => k_is)
    (case a28 => k_is)
    (case l28 => k_is)
    (case c28 => k_is)
    (case k28 => k_is)
    (case a29 => k_is)
    (case l29 => k_is)
    (case c29 => k_is)
    (case k29 => k_is)
    (case a30 => k_is)
    (case l30 => k_is)
    (case c30 => k_is)
    (case k30 => k_is)
    (case a31 => k_is)
    (case l31 => k_is)
    (case c31 => k_is)
    (case k31 => k_is)
    (case a32 => k_is)
    (case l32 => k_is)
    (case c32 => k_is)
    (case k32 => k_is)
    (case a33 => k_is)
    (case l33 => k_is)
    (case c33 => k_is)
    (case k33 => k_is)
    (case a34 => k_is)
    (case l34 => k_is)
    (case c34 => k_is)
    (case k34 => k_is)
    (case a35 => k_is)
    (case l35 => k_is)
    (case c35 => k_is)
    (case k35 => k_is)
    (case a36 => k_is)
    (case l36 => k_is)
    (case c36 => k_is)
    (case k36 => k_is)
    (case a37 => k_is)
    (case l37 => k_is)
    (case c37 => k_is)
    (case k37 => k_is)
    (case a38 => k_is)
    (case l38 => k_is)
    (case c38 => k_is)
    (case k38 => k_is)
    (case a39 => k_is)
    (case l39 => k_is)
    (case c39 => k_is)
    (case k39 => k_is)
    (case a40 => k_is)
    (case l40 => k_is)
    (case c40 => k_is)
    (case k40 => k_is)
    (case a41 => k_is)
    (case l41 => k_is)
    (case c41 => k_is)
    (case k41 => k_is)
    (case a42 => k_is)
    (case l42 => k_is)
    (case c42 => k_is)
    (case k42 => k_is)
    (case a43 => k_is)
    (case l43 => k_is)
    (case c43 => k_is)
    (case k43 => k_is)
    (case a44 => k_is)
    (case l44 => k_is)
    (case c44 => k_is)
    (case k44 => k_is)
    (case a45 => k_is)
    (case l45 => k_is)
    (case c45 => k_is)
    (case k45 => k_is)
    (case a46 => k_is)
    (case l46 => k_is)
    (case c46 => k_is)
    (case k46 => k_is)
    (case a47 => k_is)
    (case l47 => k_is)
    (case c47 => k_is)
    (case k47 => k_is)
    (case a48 => k_is)
    (case l48 => k_is)
    (case c48 => k_is)
    (case k48 => k_is)
    (case a49 => k_is)
    (case l49 => k_is)
    (case c49 => k_is)
    (case k49 => k_is)
    (case a50 => k_is)
    (case l50 => k_is)
    (case c50 => k_is)
    (case k50 => k_is)
    (case a51 => k_is)
    (case l51 => k_is)
    (case c51 => k_is)
    (case k51 => k_is)
    (case a52 => k_is)
    (case l52 => k_is)
    (case c52 => k_is)
    (case k52 => k_is)
    (case a53 => k_is)
    (case l53 => k_is)
    (case c53 => k_is)
    (case k53 => k_is)
    (case a54 => k_is)
    (case l54 => k_is)
    (case c54 => k_is)
    (case k54 => k_is)
    (case a55 => k_is)
    (case l55 => k_is)
    (case c55 => k_is)
    (case k55 => k_is)
    (case a56 => k_is)
    (case l56 => k_is)
    (case c56 => k_is)
    (case k56 => k_is)
    (case a57 => k_is)
    (case l57 => k_is)
    (case c57 => k_is)
    (case k57 => k_is)
    (case a58 => k_is)
    (case l58 => k_is)
    (case c58 => k_is)
    (case k58 => k_is)
    (case a59 => k_is)
    (case l59 => k_is)
    (case c59 => k_is)
    (case k59 => k_is)
    (case a60 => k_is)
    (case l60 => k_is)
    (case c60 => k_is)
    (case k60 => k_is)
    (case a61 => k_is)
    (case l61 => k_is)
    (case c61 => k_is)
    (case k61 => k_is)
    (case a62 => k_is)
    (case l62 => k_is)
    (case c62 => k_is)
    (case k62 => k_is)
    (case a63 => k_is)
    (case l63 => k_is)
    (case c63 => k_is)
    (case k63 => k_is)
    (case a64 => k_is)
    (case l64 => k_is)
    (case c64 => k_is)
    (case k64 => k_is)
    (case a65 => k_is)
    (case l65 => k_is)
    (case c65 => k_is)
    (case k65 => k_is)
    (case a66 => k_is)
    (case l66 => k_is)
    (case c66 => k_is)
    (case k66 => k_is)
    (case a67 => k_is)
    (case l67 => k_is)
    (case c67 => k_is)
    (case k67 => k_is)
    (case aC_Sum => k_is)
    (case a_Sum_init => k_is)
    (case i_Sum_init => k_is)
    (case l_Sum_init => k_is)
    (case c_Sum_init => k_is)
    (case k_Sum_init => k_is)
    (case pg_Sum => k_is)
    (case hd_Sum => k_is)
    (case po_Sum => k_is)
    (case sa_Sum => k_is)
    (case mk_Sum => k_is)
    (case kc_Sum => k_is)
    (case na_Sum_parts => k_is)
    (case aC_Run => k_is)
    (case a_Run_init => k_is)
    (case i_Run_init => k_is)
    (case l_Run_init => k_is)
    (case c_Run_init => k_is)
    (case k_Run_init => k_is)
    (case pg_Run => k_is)
    (case hd_Run => k_is)
    (case po_Run => k_is)
    (case sa_Run => k_is)
    (case mk_Run => k_is)
    (case kc_Run => k_is)
    (case na_Run_entries => k_is)
    (case na_Run_most => k_is)
    (case na_Run_names => k_is)
    (case na_Run_told => k_is)
    (case na_Run_turns => k_is)
    (case av_NOUGHT => k_is)
    (case lv_NOUGHT => k_is)
    (case av_ONE => k_is)
    (case lv_ONE => k_is)
    (case av_TURN => k_is)
    (case av_BLURRED => k_is)
    (case av_MOST_LETTERS => k_is)
    (case av_HIGHEST_NUMBER => k_is)
    (case av_MOST_DEEP => k_is)
    (case av_MOST_STATEMENTS => k_is)
    (case av_MOST_LAPS => k_is)
    (case av_ROWS => k_is)
    (case lv_ROWS => k_is)
    (case lv0_ROWS => k_is)
    (case av_STATEMENTS => k_is)
    (case lv_STATEMENTS => k_is)
    (case lv0_STATEMENTS => k_is)
    (case lv1_STATEMENTS => k_is)
    (case lv2_STATEMENTS => k_is)
    (case av_EXPRESSIONS => k_is)
    (case lv_EXPRESSIONS => k_is)
    (case lv0_EXPRESSIONS => k_is)
    (case lv1_EXPRESSIONS => k_is)
    (case lv2_EXPRESSIONS => k_is)
    (case lv3_EXPRESSIONS => k_is)
    (case e_gL => first | k_is | decide +kernel | rfl)
    (case e_gB => first | k_is | decide +kernel | rfl)
    (case e_gD => first | k_is | decide +kernel | rfl)
    (case e_gN => first | k_is | decide +kernel | rfl)
    (case e_gU => first | k_is | decide +kernel | rfl)
    (case e_rL => first | k_is | decide +kernel | rfl)
    (case e_yL => first | k_is | decide +kernel | rfl)
    (case e_vL => first | k_is | decide +kernel | rfl)
    (case e_kL => first | k_is | decide +kernel | rfl)
    (case e_pN => first | k_is | decide +kernel | rfl)
    (case e_zN => first | k_is | decide +kernel | rfl)
    (case e_pU => first | k_is | decide +kernel | rfl)
    (case e_zU => first | k_is | decide +kernel | rfl)
    (case e_xB => k_exc)
    (case e_kB => first | k_is | decide +kernel | rfl)
    (case e_bB => first | k_is | decide +kernel | rfl)
    (case e_tB => first | k_is | decide +kernel | rfl)
    (case e_bL => first | k_is | decide +kernel | rfl)
    (case e_hL => first | k_is | decide +kernel | rfl)
    (case e_tL => first | k_is | decide +kernel | rfl)
    (case e_sBL => first | k_is | decide +kernel | rfl)
    (case e_hgB => first | k_is | decide +kernel | rfl)
    (case e_hkB => first | k_is | decide +kernel | rfl)
    (case e_hdB => first | k_is | decide +kernel | rfl)
    (case e_haB => first | k_is | decide +kernel | rfl)
    (case e_hnB => first | k_is | decide +kernel | rfl)
    (case e_htB => first | k_is | decide +kernel | rfl)
    (case e_hmB => first | k_is | decide +kernel | rfl)
    (case e_sBB => first | k_is | decide +kernel | rfl)
    (case e_iBB => first | k_is | decide +kernel | rfl)
    (case e_iBV => first | k_is | decide +kernel | rfl)
    (case e_iBD => first | k_is | decide +kernel | rfl)
    (case e_iBN => first | k_is | decide +kernel | rfl)
    (case e_iBU => first | k_is | decide +kernel | rfl)
    (case e_xD => k_exc)
    (case e_kD => first | k_is | decide +kernel | rfl)
    (case e_bD => first | k_is | decide +kernel | rfl)
    (case e_tD => first | k_is | decide +kernel | rfl)
    (case e_sDL => first | k_is | decide +kernel | rfl)
    (case e_hgD => first | k_is | decide +kernel | rfl)
    (case e_hkD => first | k_is | decide +kernel | rfl)
    (case e_hdD => first | k_is | decide +kernel | rfl)
    (case e_haD => first | k_is | decide +kernel | rfl)
    (case e_hmD => first | k_is | decide +kernel | rfl)
    (case e_sDD => first | k_is | decide +kernel | rfl)
    (case e_iDD => first | k_is | decide +kernel | rfl)
    (case e_iDV => first | k_is | decide +kernel | rfl)
    (case e_iDB => first | k_is | decide +kernel | rfl)
    (case e_iDN => first | k_is | decide +kernel | rfl)
    (case e_iDU => first | k_is | decide +kernel | rfl)
    (case e_kN => first | k_is | decide +kernel | rfl)
    (case e_bN => first | k_is | decide +kernel | rfl)
    (case e_tN => first | k_is | decide +kernel | rfl)
    (case e_sNL => first | k_is | decide +kernel | rfl)
    (case e_hgN => first | k_is | decide +kernel | rfl)
    (case e_hkN => first | k_is | decide +kernel | rfl)
    (case e_hdN => first | k_is | decide +kernel | rfl)
    (case e_haN => first | k_is | decide +kernel | rfl)
    (case e_hmN => first | k_is | decide +kernel | rfl)
    (case e_sNN => first | k_is | decide +kernel | rfl)
    (case e_iNN => first | k_is | decide +kernel | rfl)
    (case e_iNV => first | k_is | decide +kernel | rfl)
    (case e_iNB => first | k_is | decide +kernel | rfl)
    (case e_iND => first | k_is | decide +kernel | rfl)
    (case e_iNU => first | k_is | decide +kernel | rfl)
    (case e_kU => first | k_is | decide +kernel | rfl)
    (case e_bU => first | k_is | decide +kernel | rfl)
    (case e_tU => first | k_is | decide +kernel | rfl)
    (case e_sUL => first | k_is | decide +kernel | rfl)
    (case e_hgU => first | k_is | decide +kernel | rfl)
    (case e_hkU => first | k_is | decide +kernel | rfl)
    (case e_hdU => first | k_is | decide +kernel | rfl)
    (case e_haU => first | k_is | decide +kernel | rfl)
    (case e_hmU => first | k_is | decide +kernel | rfl)
    (case e_sUU => first | k_is | decide +kernel | rfl)
    (case e_iUU => first | k_is | decide +kernel | rfl)
    (case e_iUV => first | k_is | decide +kernel | rfl)
    (case e_iUB => first | k_is | decide +kernel | rfl)
    (case e_iUD => first | k_is | decide +kernel | rfl)
    (case e_iUN => first | k_is | decide +kernel | rfl)
    (case xlN => k_is)
    (case hbN => first | k_is | decide +kernel | rfl)
    (case a_NeedntFall_init => k_is)
    (case i_NeedntFall_init => k_is)
    (case l_NeedntFall_init => k_is)
    (case c_NeedntFall_init => k_is)
    (case k_NeedntFall_init => k_is)
    (case xlU => k_is)
    (case hbU => first | k_is | decide +kernel | rfl)
    (case a_Uneven_init => k_is)
    (case i_Uneven_init => k_is)
    (case l_Uneven_init => k_is)
    (case c_Uneven_init => k_is)
    (case k_Uneven_init => k_is)
    (case z_sorted => k_is)
    (case z_all => k_is)
    (case z_set => k_is)
    (case z_tuple => k_is)
    (case z_len => k_is)
    (case z_range => k_is)
    (case z_max => k_is)
    (case z_type => k_is)
    (case z_str => k_is)
    (case z_int => k_is)
    (case z_any => k_is)
    (case z_enumerate => k_is)
    (case z_isinstance => k_is)
    (case z_ValueError => k_is)
    (case z_list => k_is)
    (case z_dict => k_is)
    (case y_gcd => k_is)
