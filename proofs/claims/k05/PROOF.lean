import PyProof.Rows.All
import Wide.All
import OpenK.AllK
import Wide.FinOn
import HandS.ForMost
import HandS.Gcd
import HandS.Wide
import HandS.IsInst
import HandS.NoneIn
import HandS.DictTup
import HandS.DictComp
import KE.KDictKeyed
import KE.KDictDisplayH
import KE.KEqDict
import HandS.Conv
import HandS.Text
import HandS.Iter
import HandS.SortInts
import KE.KDictSum
import HandS.SetKeys
import HandS.SetTxt0
import HandS.Set
import HandS.TupLe
import HandS.More
import KE.KMinKey
import HandS.SortKw
import HandS.TupLen
import HandS.Style
import HandS.TupSets
import HandS.ExcOwn
import HandS.ExcIs
import HandS.Exc
import KE.GoesEnum
import KE.GoesMore
import HandS.TupAny
import HandS.TryOnly
import HandS.WordsExc
import HandS.FStr
import HandS.TupMul
import HandS.Deep
import HandS.RaiseMore
import PyProof.TypeEq
import PyProof.InstNe
import PySem.Challenge.RW_lapfold_k05_programs_refused
set_option Elab.async false
set_option linter.all false
set_option maxRecDepth 100000
namespace K05
open PySem PySem.Spec PyProof.Rows L2
def topS (i : Nat) : Stmt := PySem.Challenge.pw_lapfold_k05_programs_refused.main.body.getD i (.Pass ⟨0, 0, 0, 0⟩)
abbrev s_share : Stmt := topS 8
theorem sc_share : FnScope ["top", "bottom", "common"] ["top", "bottom"] (defScope s_share) := ⟨rfl, rfl, rfl, by decide +kernel, rfl, by decide +kernel, by decide +kernel⟩
abbrev s_plus : Stmt := topS 9
theorem sc_plus : FnScope ["one", "other"] ["one", "other"] (defScope s_plus) := ⟨rfl, rfl, rfl, by decide +kernel, rfl, by decide +kernel, by decide +kernel⟩
abbrev s_minus : Stmt := topS 10
theorem sc_minus : FnScope ["one", "other"] ["one", "other"] (defScope s_minus) := ⟨rfl, rfl, rfl, by decide +kernel, rfl, by decide +kernel, by decide +kernel⟩
abbrev s_times : Stmt := topS 11
theorem sc_times : FnScope ["one", "other"] ["one", "other"] (defScope s_times) := ⟨rfl, rfl, rfl, by decide +kernel, rfl, by decide +kernel, by decide +kernel⟩
abbrev s_sum_of_number : Stmt := topS 16
theorem sc_sum_of_number : FnScope ["n", "parts"] ["n"] (defScope s_sum_of_number) := ⟨rfl, rfl, rfl, by decide +kernel, rfl, by decide +kernel, by decide +kernel⟩
abbrev s_sum_of_name : Stmt := topS 17
theorem sc_sum_of_name : FnScope ["x"] ["x"] (defScope s_sum_of_name) := ⟨rfl, rfl, rfl, by decide +kernel, rfl, by decide +kernel, by decide +kernel⟩
abbrev s_added : Stmt := topS 18
theorem sc_added : FnScope ["one", "other", "total", "product", "part"] ["one", "other"] (defScope s_added) := ⟨rfl, rfl, rfl, by decide +kernel, rfl, by decide +kernel, by decide +kernel⟩
abbrev s_lessened : Stmt := topS 19
theorem sc_lessened : FnScope ["one", "other", "product", "part", "total"] ["one", "other"] (defScope s_lessened) := ⟨rfl, rfl, rfl, by decide +kernel, rfl, by decide +kernel, by decide +kernel⟩
abbrev s_timed : Stmt := topS 20
theorem sc_timed : FnScope ["one", "other", "total", "product", "part", "other_product", "other_part"] ["one", "other"] (defScope s_timed) := ⟨rfl, rfl, rfl, by decide +kernel, rfl, by decide +kernel, by decide +kernel⟩
abbrev s_put_in : Stmt := topS 21
theorem sc_put_in : FnScope ["given", "filling", "risen", "total", "product", "part"] ["given", "filling"] (defScope s_put_in) := ⟨rfl, rfl, rfl, by decide +kernel, rfl, by decide +kernel, by decide +kernel⟩
abbrev s_totalled : Stmt := topS 22
theorem sc_totalled : FnScope ["given", "x", "many", "by_power", "risen", "total", "power"] ["given", "x", "many"] (defScope s_totalled) := ⟨rfl, rfl, rfl, by decide +kernel, rfl, by decide +kernel, by decide +kernel⟩
abbrev s_is_natural : Stmt := topS 23
theorem sc_is_natural : FnScope ["given", "part"] ["given"] (defScope s_is_natural) := ⟨rfl, rfl, rfl, by decide +kernel, rfl, by decide +kernel, by decide +kernel⟩
abbrev s_same : Stmt := topS 24
theorem sc_same : FnScope ["one", "other"] ["one", "other"] (defScope s_same) := ⟨rfl, rfl, rfl, by decide +kernel, rfl, by decide +kernel, by decide +kernel⟩
abbrev s_names_in : Stmt := topS 25
theorem sc_names_in : FnScope ["given", "found", "product", "name", "_"] ["given"] (defScope s_names_in) := ⟨rfl, rfl, rfl, by decide +kernel, rfl, by decide +kernel, by decide +kernel⟩
abbrev s_put_to : Stmt := topS 26
theorem sc_put_to : FnScope ["shares", "key", "part", "together"] ["shares", "key", "part"] (defScope s_put_to) := ⟨rfl, rfl, rfl, by decide +kernel, rfl, by decide +kernel, by decide +kernel⟩
abbrev s_put_all_to : Stmt := topS 27
theorem sc_put_all_to : FnScope ["parts", "other", "product", "part"] ["parts", "other"] (defScope s_put_all_to) := ⟨rfl, rfl, rfl, by decide +kernel, rfl, by decide +kernel, by decide +kernel⟩
abbrev s_joined : Stmt := topS 28
theorem sc_joined : FnScope ["one", "other", "name", "power", "powers"] ["one", "other"] (defScope s_joined) := ⟨rfl, rfl, rfl, by decide +kernel, rfl, by decide +kernel, by decide +kernel⟩
abbrev s_number_raised : Stmt := topS 29
theorem sc_number_raised : FnScope ["number", "power", "risen", "square", "left"] ["number", "power"] (defScope s_number_raised) := ⟨rfl, rfl, rfl, by decide +kernel, rfl, by decide +kernel, by decide +kernel⟩
abbrev s_powers_of : Stmt := topS 30
theorem sc_powers_of : FnScope ["base", "wanted", "power", "found", "risen", "reached", "_"] ["base", "wanted"] (defScope s_powers_of) := ⟨rfl, rfl, rfl, by decide +kernel, rfl, by decide +kernel, by decide +kernel⟩
abbrev s_part_raised : Stmt := topS 31
theorem sc_part_raised : FnScope ["base", "power", "raised", "product", "top", "bottom", "risen", "name", "many"] ["base", "power"] (defScope s_part_raised) := ⟨rfl, rfl, rfl, by decide +kernel, rfl, by decide +kernel, by decide +kernel⟩
abbrev s_risen_fillings : Stmt := topS 32
theorem sc_risen_fillings : FnScope ["given", "filling", "wanted", "product", "name", "power"] ["given", "filling"] (defScope s_risen_fillings) := ⟨rfl, rfl, rfl, by decide +kernel, rfl, by decide +kernel, by decide +kernel⟩
abbrev s_filled : Stmt := topS 33
theorem sc_filled : FnScope ["product", "part", "risen", "kept", "told", "name", "power", "pair"] ["product", "part", "risen"] (defScope s_filled) := ⟨rfl, rfl, rfl, by decide +kernel, rfl, by decide +kernel, by decide +kernel⟩
abbrev s_power_in : Stmt := topS 34
theorem sc_power_in : FnScope ["product", "x", "name", "power"] ["product", "x"] (defScope s_power_in) := ⟨rfl, rfl, rfl, by decide +kernel, rfl, by decide +kernel, by decide +kernel⟩
abbrev s_totals_by_power : Stmt := topS 35
theorem sc_totals_by_power : FnScope ["given", "x", "product", "highest", "rows", "found", "part", "rest", "row", "power", "pair"] ["given", "x"] (defScope s_totals_by_power) := ⟨rfl, rfl, rfl, by decide +kernel, rfl, by decide +kernel, by decide +kernel⟩
abbrev s_sums_of_powers : Stmt := topS 36
theorem sc_sums_of_powers : FnScope ["highest", "rows", "k"] ["highest"] (defScope s_sums_of_powers) := ⟨rfl, rfl, rfl, by decide +kernel, rfl, by decide +kernel, by decide +kernel⟩
abbrev s_next_sum_of_powers : Stmt := topS 37
theorem sc_next_sum_of_powers : FnScope ["row", "k", "grown", "rest", "part", "power"] ["row", "k"] (defScope s_next_sum_of_powers) := ⟨rfl, rfl, rfl, by decide +kernel, rfl, by decide +kernel, by decide +kernel⟩
abbrev s_need_program : Stmt := topS 47
theorem sc_need_program : FnScope ["program"] ["program"] (defScope s_need_program) := ⟨rfl, rfl, rfl, by decide +kernel, rfl, by decide +kernel, by decide +kernel⟩
abbrev s_names_of : Stmt := topS 48
theorem sc_names_of : FnScope ["program", "found"] ["program"] (defScope s_names_of) := ⟨rfl, rfl, rfl, by decide +kernel, rfl, by decide +kernel, by decide +kernel⟩
abbrev s_sum_told : Stmt := topS 49
theorem sc_sum_told : FnScope ["expression", "word", "one", "other"] ["expression"] (defScope s_sum_told) := ⟨rfl, rfl, rfl, by decide +kernel, rfl, by decide +kernel, by decide +kernel⟩
abbrev s_word_of : Stmt := topS 50
theorem sc_word_of : FnScope ["thing", "forms", "word"] ["thing", "forms"] (defScope s_word_of) := ⟨rfl, rfl, rfl, by decide +kernel, rfl, by decide +kernel, by decide +kernel⟩
abbrev s_need_row : Stmt := topS 51
theorem sc_need_row : FnScope ["row", "statements", "laps", "parts", "left", "statement"] ["row", "statements", "laps"] (defScope s_need_row) := ⟨rfl, rfl, rfl, by decide +kernel, rfl, by decide +kernel, by decide +kernel⟩
abbrev s_need_statement : Stmt := topS 52
theorem sc_need_statement : FnScope ["statement", "statements", "laps", "word"] ["statement", "statements", "laps"] (defScope s_need_statement) := ⟨rfl, rfl, rfl, by decide +kernel, rfl, by decide +kernel, by decide +kernel⟩
abbrev s_need_expression : Stmt := topS 53
theorem sc_need_expression : FnScope ["expression", "deep", "word"] ["expression", "deep"] (defScope s_need_expression) := ⟨rfl, rfl, rfl, by decide +kernel, rfl, by decide +kernel, by decide +kernel⟩
abbrev s_need_number : Stmt := topS 54
theorem sc_need_number : FnScope ["n"] ["n"] (defScope s_need_number) := ⟨rfl, rfl, rfl, by decide +kernel, rfl, by decide +kernel, by decide +kernel⟩
abbrev s_need_name : Stmt := topS 55
theorem sc_need_name : FnScope ["x", "sign"] ["x"] (defScope s_need_name) := ⟨rfl, rfl, rfl, by decide +kernel, rfl, by decide +kernel, by decide +kernel⟩
abbrev s_find_in_row : Stmt := topS 56
theorem sc_find_in_row : FnScope ["row", "found", "statement"] ["row", "found"] (defScope s_find_in_row) := ⟨rfl, rfl, rfl, by decide +kernel, rfl, by decide +kernel, by decide +kernel⟩
abbrev s_find_in_expression : Stmt := topS 57
theorem sc_find_in_expression : FnScope ["expression", "found"] ["expression", "found"] (defScope s_find_in_expression) := ⟨rfl, rfl, rfl, by decide +kernel, rfl, by decide +kernel, by decide +kernel⟩
abbrev s_hangs_on_blurred : Stmt := topS 61
theorem sc_hangs_on_blurred : FnScope ["given", "word"] ["given"] (defScope s_hangs_on_blurred) := ⟨rfl, rfl, rfl, by decide +kernel, rfl, by decide +kernel, by decide +kernel⟩
abbrev s_at_first : Stmt := topS 62
theorem sc_at_first : FnScope ["names", "name"] ["names"] (defScope s_at_first) := ⟨rfl, rfl, rfl, by decide +kernel, rfl, by decide +kernel, by decide +kernel⟩
abbrev s_names_of_lap : Stmt := topS 63
theorem sc_names_of_lap : FnScope ["lap"] ["lap"] (defScope s_names_of_lap) := ⟨rfl, rfl, rfl, by decide +kernel, rfl, by decide +kernel, by decide +kernel⟩
abbrev s_behind_turn : Stmt := topS 64
theorem sc_behind_turn : FnScope ["lap"] ["lap"] (defScope s_behind_turn) := ⟨rfl, rfl, rfl, by decide +kernel, rfl, by decide +kernel, by decide +kernel⟩
abbrev s_do_set : Stmt := topS 65
theorem sc_do_set : FnScope ["sums", "statement"] ["sums", "statement"] (defScope s_do_set) := ⟨rfl, rfl, rfl, by decide +kernel, rfl, by decide +kernel, by decide +kernel⟩
abbrev s_do_lap : Stmt := topS 66
theorem sc_do_lap : FnScope ["sums", "lap", "turn", "guard", "ends", "name"] ["sums", "lap", "turn"] (defScope s_do_lap) := ⟨rfl, rfl, rfl, by decide +kernel, rfl, by decide +kernel, by decide +kernel⟩
abbrev s_is_even : Stmt := topS 67
theorem sc_is_even : FnScope ["guard", "turn"] ["guard", "turn"] (defScope s_is_even) := ⟨rfl, rfl, rfl, by decide +kernel, rfl, by decide +kernel, by decide +kernel⟩
abbrev s_told_in_turns : Stmt := topS 68
theorem sc_told_in_turns : FnScope ["guard", "turn", "one_taken", "told", "name", "growths", "more_told"] ["guard", "turn"] (defScope s_told_in_turns) := ⟨rfl, rfl, rfl, by decide +kernel, rfl, by decide +kernel, by decide +kernel⟩
abbrev s_all_told : Stmt := topS 69
theorem sc_all_told : FnScope ["given", "told", "name"] ["given", "told"] (defScope s_all_told) := ⟨rfl, rfl, rfl, by decide +kernel, rfl, by decide +kernel, by decide +kernel⟩
abbrev s_grown : Stmt := topS 70
theorem sc_grown : FnScope ["growth", "told"] ["growth", "told"] (defScope s_grown) := ⟨rfl, rfl, rfl, by decide +kernel, rfl, by decide +kernel, by decide +kernel⟩
abbrev s_in_turn : Stmt := topS 71
theorem sc_in_turn : FnScope ["given", "number", "ahead"] ["given", "number", "ahead"] (defScope s_in_turn) := ⟨rfl, rfl, rfl, by decide +kernel, rfl, by decide +kernel, by decide +kernel⟩
abbrev s_behind : Stmt := topS 72
theorem sc_behind : FnScope ["row", "names", "sums", "statement"] ["row", "names"] (defScope s_behind) := ⟨rfl, rfl, rfl, by decide +kernel, rfl, by decide +kernel, by decide +kernel⟩
abbrev s_keep : Stmt := topS 73
theorem sc_keep : FnScope ["sums", "name", "told"] ["sums", "name", "told"] (defScope s_keep) := ⟨rfl, rfl, rfl, by decide +kernel, rfl, by decide +kernel, by decide +kernel⟩
abbrev s_blurred : Stmt := topS 74
theorem sc_blurred : FnScope ["name"] ["name"] (defScope s_blurred) := ⟨rfl, rfl, rfl, by decide +kernel, rfl, by decide +kernel, by decide +kernel⟩
abbrev s_may_set : Stmt := topS 75
theorem sc_may_set : FnScope ["row", "found", "statement", "name"] ["row"] (defScope s_may_set) := ⟨rfl, rfl, rfl, by decide +kernel, rfl, by decide +kernel, by decide +kernel⟩
abbrev s_ends_of_even : Stmt := topS 76
theorem sc_ends_of_even : FnScope ["guard", "turn", "ahead", "told", "many", "name", "ends", "last"] ["guard", "turn", "ahead"] (defScope s_ends_of_even) := ⟨rfl, rfl, rfl, by decide +kernel, rfl, by decide +kernel, by decide +kernel⟩
abbrev s_looked : Stmt := topS 78
theorem sc_looked : FnScope ["program"] ["program"] (defScope s_looked) := ⟨rfl, rfl, rfl, by decide +kernel, rfl, by decide +kernel, by decide +kernel⟩
abbrev s_look_at_row : Stmt := topS 79
theorem sc_look_at_row : FnScope ["row", "place", "at", "statement", "inner"] ["row", "place"] (defScope s_look_at_row) := ⟨rfl, rfl, rfl, by decide +kernel, rfl, by decide +kernel, by decide +kernel⟩
abbrev s_falls : Stmt := topS 80
theorem sc_falls : FnScope ["lap", "guard", "measure", "ahead", "rest"] ["lap"] (defScope s_falls) := ⟨rfl, rfl, rfl, by decide +kernel, rfl, by decide +kernel, by decide +kernel⟩
abbrev s_written : Stmt := topS 82
theorem sc_written : FnScope ["program", "slots", "at", "name"] ["program"] (defScope s_written) := ⟨rfl, rfl, rfl, by decide +kernel, rfl, by decide +kernel, by decide +kernel⟩
abbrev s_row_written : Stmt := topS 83
theorem sc_row_written : FnScope ["row", "slots", "parts", "fold", "part", "statement"] ["row", "slots"] (defScope s_row_written) := ⟨rfl, rfl, rfl, by decide +kernel, rfl, by decide +kernel, by decide +kernel⟩
abbrev s_statement_written : Stmt := topS 84
theorem sc_statement_written : FnScope ["statement", "slots", "said"] ["statement", "slots"] (defScope s_statement_written) := ⟨rfl, rfl, rfl, by decide +kernel, rfl, by decide +kernel, by decide +kernel⟩
abbrev s_lap_written : Stmt := topS 85
theorem sc_lap_written : FnScope ["lap", "slots", "guard", "one_taken", "turn", "if_any"] ["lap", "slots"] (defScope s_lap_written) := ⟨rfl, rfl, rfl, by decide +kernel, rfl, by decide +kernel, by decide +kernel⟩
abbrev s_all_but : Stmt := topS 86
theorem sc_all_but : FnScope ["slots", "others", "k"] ["slots", "others"] (defScope s_all_but) := ⟨rfl, rfl, rfl, by decide +kernel, rfl, by decide +kernel, by decide +kernel⟩
abbrev s_expression_written : Stmt := topS 87
theorem sc_expression_written : FnScope ["expression", "slots", "word"] ["expression", "slots"] (defScope s_expression_written) := ⟨rfl, rfl, rfl, by decide +kernel, rfl, by decide +kernel, by decide +kernel⟩
abbrev s_law_next : Stmt := topS 89
theorem sc_law_next : FnScope ["_law_h", "_law_many", "_law_at", "_law_cell"] ["_law_h", "_law_many"] (defScope s_law_next) := ⟨rfl, rfl, rfl, by decide +kernel, rfl, by decide +kernel, by decide +kernel⟩
abbrev s_law_names : Stmt := topS 90
theorem sc_law_names : FnScope ["_law_h", "_law_some", "_law_word", "_law_turn", "_law_letters", "_law_ends", "_law_k", "_law_letter"] ["_law_h"] (defScope s_law_names) := ⟨rfl, rfl, rfl, by decide +kernel, rfl, by decide +kernel, by decide +kernel⟩
abbrev s_law_part : Stmt := topS 91
theorem sc_law_part : FnScope ["_law_h", "_law_some", "_law_deep", "_law_way", "_law_word", "_law_one"] ["_law_h", "_law_some", "_law_deep"] (defScope s_law_part) := ⟨rfl, rfl, rfl, by decide +kernel, rfl, by decide +kernel, by decide +kernel⟩
abbrev s_law_measure : Stmt := topS 92
theorem sc_law_measure : FnScope ["_law_h", "_law_guard", "_law_calm", "_law_name", "_law_some", "_law_found"] ["_law_h", "_law_guard", "_law_calm"] (defScope s_law_measure) := ⟨rfl, rfl, rfl, by decide +kernel, rfl, by decide +kernel, by decide +kernel⟩
abbrev s_law_lap : Stmt := topS 93
theorem sc_law_lap : FnScope ["_law_h", "_law_names_here", "_law_depth", "_law_odd", "_law_guard", "_law_inner", "_law_last", "_law_more"] ["_law_h", "_law_names_here", "_law_depth", "_law_odd"] (defScope s_law_lap) := ⟨rfl, rfl, rfl, by decide +kernel, rfl, by decide +kernel, by decide +kernel⟩
abbrev s_law_grow : Stmt := topS 94
theorem sc_law_grow : FnScope ["_law_h", "_law_low", "_law_some", "_law_one", "_law_other"] ["_law_h", "_law_low", "_law_some"] (defScope s_law_grow) := ⟨rfl, rfl, rfl, by decide +kernel, rfl, by decide +kernel, by decide +kernel⟩
abbrev s_law_row : Stmt := topS 95
theorem sc_law_row : FnScope ["_law_h", "_law_names_here", "_law_depth", "_law_odd", "_law_parts", "_law_low", "_law_laps", "_law_k", "_law_way", "_law_at", "_law_part_here", "_law_some"] ["_law_h", "_law_names_here", "_law_depth", "_law_odd"] (defScope s_law_row) := ⟨rfl, rfl, rfl, by decide +kernel, rfl, by decide +kernel, by decide +kernel⟩
abbrev s_law_program : Stmt := topS 96
theorem sc_law_program : FnScope ["_law_h", "_law_names_here", "_law_odd", "_law_one"] ["_law_h", "_law_names_here", "_law_odd"] (defScope s_law_program) := ⟨rfl, rfl, rfl, by decide +kernel, rfl, by decide +kernel, by decide +kernel⟩
abbrev s_law_bad_part : Stmt := topS 97
theorem sc_law_bad_part : FnScope ["_law_h", "_law_some", "_law_one", "_law_deep", "_law_k"] ["_law_h"] (defScope s_law_bad_part) := ⟨rfl, rfl, rfl, by decide +kernel, rfl, by decide +kernel, by decide +kernel⟩
abbrev s_law_bad : Stmt := topS 98
theorem sc_law_bad : FnScope ["_law_h", "_law_bad_here", "_law_good", "_law_row_here", "_law_some", "_law_odd", "_law_deep", "_law_k"] ["_law_h"] (defScope s_law_bad) := ⟨rfl, rfl, rfl, by decide +kernel, rfl, by decide +kernel, by decide +kernel⟩
abbrev s_law_spoilt : Stmt := topS 99
theorem sc_law_spoilt : FnScope ["_law_h", "_law_program_here", "_law_names_here", "_law_at", "_law_bad_here"] ["_law_h", "_law_program_here", "_law_names_here"] (defScope s_law_spoilt) := ⟨rfl, rfl, rfl, by decide +kernel, rfl, by decide +kernel, by decide +kernel⟩
abbrev s_law_refused : Stmt := topS 100
theorem sc_law_refused : FnScope ["_law_way", "_law_program_here", "e"] ["_law_way", "_law_program_here"] (defScope s_law_refused) := ⟨rfl, rfl, rfl, by decide +kernel, rfl, by decide +kernel, by decide +kernel⟩
abbrev s_law : Stmt := topS 101
theorem sc_law : FnScope ["_law_script", "_law_h", "_law_names_here", "_law_program_here", "_law_wrong", "_law_long", "_law_laps", "_law_odd", "_law_one", "_law_way", "_law_deep", "_law_k", "_law_turn"] ["_law_script"] (defScope s_law) := ⟨rfl, rfl, rfl, by decide +kernel, rfl, by decide +kernel, by decide +kernel⟩
abbrev s_Sum_init : Stmt := inClass (topS 15) 0
theorem sc_Sum_init : FnScope ["self", "parts", "product", "part"] ["self", "parts"] (defScope s_Sum_init) := ⟨rfl, rfl, rfl, by decide +kernel, rfl, by decide +kernel, by decide +kernel⟩
structure DefAt (K : PySem.W.Frag) (mg : Str → Option Value) (x qual : Str) (st : Stmt) (ps : List Str) (f : Addr) (fd : FuncData) : Prop where
  F : Fun K x qual st f fd
  g : mg x = some (.ref f)
  b : Binds K fd ps []
def HasDef (K : PySem.W.Frag) (mg : Str → Option Value) (x qual : Str) (st : Stmt) (ps : List Str) : Prop := ∃ f fd, DefAt K mg x qual st ps f fd
/-- what is written of the own exceptions -/
structure ExTxt (K : PySem.W.Frag) (mg : Str → Option Value) (L B D N U : Addr) : Prop where
  gL : mg "LapError" = some (.ref L)
  gB : mg "BadForm" = some (.ref B)
  gD : mg "Dry" = some (.ref D)
  gN : mg "NeedntFall" = some (.ref N)
  gU : mg "Uneven" = some (.ref U)
  xB : PySem.W.excIn K B [.type "ValueError", .type "Exception", .type "BaseException", .type "object"] "ValueError.__new__" = true
  kB : PySem.W.keepIn K (.ref B) = true
  bB : PySem.W.subIn K (.ref B) (.type "BaseException") = some true
  tB : PySem.W.typeIn K (.ref B) = some (.type "type")
  bL : PySem.W.subIn K (.ref L) (.type "BaseException") = some true
  hL : PySem.W.hasDictIn K L = true
  tL : PySem.W.typeIn K (.ref L) = some (.type "type")
  sBL : PySem.W.subIn K (.ref B) (.ref L) = some true
  hgB : PySem.W.findIn K (.ref B) "__getattribute__" = some (some (.builtin "BaseException.__getattribute__"))
  hkB : PySem.W.findIn K (.ref B) "__getattr__" = some none
  hdB : PySem.W.hasDictIn K B = true
  haB : PySem.W.findIn K (.ref B) "__class__" = some (some (.builtin "object.__class__"))
  hnB : PySem.W.specialIn K (.builtin "object.__class__") "__get__" = some (some (.builtin "getset_descriptor.__get__"))
  htB : PySem.W.takesIn K (.builtin "object.__class__") = some true
  hmB : PySem.W.mroIn K B (.type "object") = some true
  sBB : PySem.W.subIn K (.ref B) (.ref B) = some true
  iBB : PySem.W.kitOne K (.ref B) (.ref B) = some true
  iBV : PySem.W.kitOne K (.ref B) (.type "ValueError") = some true
  iBD : PySem.W.kitOne K (.ref B) (.ref D) = some false
  iBN : PySem.W.kitOne K (.ref B) (.ref N) = some false
  iBU : PySem.W.kitOne K (.ref B) (.ref U) = some false
structure Txt (K : PySem.W.Frag) (mg : Str → Option Value) (C_Sum : Addr) : Prop where
  cl_Sum : Cls K C_Sum
  g_Sum : mg "Sum" = some (.ref C_Sum)
  n_Sum_parts : NoAttr K C_Sum "parts"
  mk_Sum : ∃ f fd, Mk K C_Sum f ∧ Fun K "__init__" "Sum.__init__" s_Sum_init f fd ∧ Binds K fd ["self", "parts"] []
  c_NOUGHT : ∃ a, mg "NOUGHT" = some (.ref a) ∧ ∀ H, SqT K H a [.int 0, .int 1]
  c_ONE : ∃ a, mg "ONE" = some (.ref a) ∧ ∀ H, SqT K H a [.int 1, .int 1]
  c_TURN : ∃ u, mg "TURN" = some u ∧ RelV (.str "the turn") u
  c_BLURRED : ∃ u, mg "BLURRED" = some u ∧ RelV (.str "blurred ") u
  c_MOST_LETTERS : ∃ u, mg "MOST_LETTERS" = some u ∧ RelV (.int 8) u
  c_HIGHEST_NUMBER : ∃ u, mg "HIGHEST_NUMBER" = some u ∧ RelV (.int 999) u
  c_MOST_DEEP : ∃ u, mg "MOST_DEEP" = some u ∧ RelV (.int 5) u
  c_MOST_STATEMENTS : ∃ u, mg "MOST_STATEMENTS" = some u ∧ RelV (.int 40) u
  c_MOST_LAPS : ∃ u, mg "MOST_LAPS" = some u ∧ RelV (.int 3) u
  c_ROWS : ∃ a, mg "ROWS" = some (.ref a) ∧ ∀ H, Dp K H (.ref a) (.tuple [.tuple [.str "row", .int 2]])
  c_STATEMENTS : ∃ a, mg "STATEMENTS" = some (.ref a) ∧ ∀ H, Dp K H (.ref a) (.tuple [.tuple [.str "set", .int 3], .tuple [.str "say", .int 2], .tuple [.str "lap", .int 4]])
  c_EXPRESSIONS : ∃ a, mg "EXPRESSIONS" = some (.ref a) ∧ ∀ H, Dp K H (.ref a) (.tuple [.tuple [.str "num", .int 2], .tuple [.str "name", .int 2], .tuple [.str "add", .int 3], .tuple [.str "times", .int 3]])
  ex : ∃ L B D N U, ExTxt K mg L B D N U
  d_share : HasDef K mg "share" "share" s_share ["top", "bottom"]
  d_plus : HasDef K mg "plus" "plus" s_plus ["one", "other"]
  d_minus : HasDef K mg "minus" "minus" s_minus ["one", "other"]
  d_times : HasDef K mg "times" "times" s_times ["one", "other"]
  d_sum_of_number : HasDef K mg "sum_of_number" "sum_of_number" s_sum_of_number ["n"]
  d_sum_of_name : HasDef K mg "sum_of_name" "sum_of_name" s_sum_of_name ["x"]
  d_added : HasDef K mg "added" "added" s_added ["one", "other"]
  d_lessened : HasDef K mg "lessened" "lessened" s_lessened ["one", "other"]
  d_timed : HasDef K mg "timed" "timed" s_timed ["one", "other"]
  d_put_in : HasDef K mg "put_in" "put_in" s_put_in ["given", "filling"]
  d_totalled : HasDef K mg "totalled" "totalled" s_totalled ["given", "x", "many"]
  d_is_natural : HasDef K mg "is_natural" "is_natural" s_is_natural ["given"]
  d_same : HasDef K mg "same" "same" s_same ["one", "other"]
  d_names_in : HasDef K mg "names_in" "names_in" s_names_in ["given"]
  d_put_to : HasDef K mg "_put_to" "_put_to" s_put_to ["shares", "key", "part"]
  d_put_all_to : HasDef K mg "_put_all_to" "_put_all_to" s_put_all_to ["parts", "other"]
  d_joined : HasDef K mg "_joined" "_joined" s_joined ["one", "other"]
  d_number_raised : HasDef K mg "_number_raised" "_number_raised" s_number_raised ["number", "power"]
  d_powers_of : HasDef K mg "_powers_of" "_powers_of" s_powers_of ["base", "wanted"]
  d_part_raised : HasDef K mg "_part_raised" "_part_raised" s_part_raised ["base", "power"]
  d_risen_fillings : HasDef K mg "_risen_fillings" "_risen_fillings" s_risen_fillings ["given", "filling"]
  d_filled : HasDef K mg "_filled" "_filled" s_filled ["product", "part", "risen"]
  d_power_in : HasDef K mg "_power_in" "_power_in" s_power_in ["product", "x"]
  d_totals_by_power : HasDef K mg "_totals_by_power" "_totals_by_power" s_totals_by_power ["given", "x"]
  d_sums_of_powers : HasDef K mg "_sums_of_powers" "_sums_of_powers" s_sums_of_powers ["highest"]
  d_next_sum_of_powers : HasDef K mg "_next_sum_of_powers" "_next_sum_of_powers" s_next_sum_of_powers ["row", "k"]
  d_need_program : HasDef K mg "need_program" "need_program" s_need_program ["program"]
  d_names_of : HasDef K mg "names_of" "names_of" s_names_of ["program"]
  d_sum_told : HasDef K mg "sum_told" "sum_told" s_sum_told ["expression"]
  d_word_of : HasDef K mg "_word_of" "_word_of" s_word_of ["thing", "forms"]
  d_need_row : HasDef K mg "_need_row" "_need_row" s_need_row ["row", "statements", "laps"]
  d_need_statement : HasDef K mg "_need_statement" "_need_statement" s_need_statement ["statement", "statements", "laps"]
  d_need_expression : HasDef K mg "_need_expression" "_need_expression" s_need_expression ["expression", "deep"]
  d_need_number : HasDef K mg "_need_number" "_need_number" s_need_number ["n"]
  d_need_name : HasDef K mg "_need_name" "_need_name" s_need_name ["x"]
  d_find_in_row : HasDef K mg "_find_in_row" "_find_in_row" s_find_in_row ["row", "found"]
  d_find_in_expression : HasDef K mg "_find_in_expression" "_find_in_expression" s_find_in_expression ["expression", "found"]
  d_hangs_on_blurred : HasDef K mg "hangs_on_blurred" "hangs_on_blurred" s_hangs_on_blurred ["given"]
  d_at_first : HasDef K mg "at_first" "at_first" s_at_first ["names"]
  d_names_of_lap : HasDef K mg "names_of_lap" "names_of_lap" s_names_of_lap ["lap"]
  d_behind_turn : HasDef K mg "behind_turn" "behind_turn" s_behind_turn ["lap"]
  d_do_set : HasDef K mg "do_set" "do_set" s_do_set ["sums", "statement"]
  d_do_lap : HasDef K mg "do_lap" "do_lap" s_do_lap ["sums", "lap", "turn"]
  d_is_even : HasDef K mg "is_even" "is_even" s_is_even ["guard", "turn"]
  d_told_in_turns : HasDef K mg "told_in_turns" "told_in_turns" s_told_in_turns ["guard", "turn"]
  d_all_told : HasDef K mg "all_told" "all_told" s_all_told ["given", "told"]
  d_grown : HasDef K mg "grown" "grown" s_grown ["growth", "told"]
  d_in_turn : HasDef K mg "in_turn" "in_turn" s_in_turn ["given", "number", "ahead"]
  d_behind : HasDef K mg "_behind" "_behind" s_behind ["row", "names"]
  d_keep : HasDef K mg "_keep" "_keep" s_keep ["sums", "name", "told"]
  d_blurred : HasDef K mg "_blurred" "_blurred" s_blurred ["name"]
  d_may_set : HasDef K mg "_may_set" "_may_set" s_may_set ["row"]
  d_ends_of_even : HasDef K mg "_ends_of_even" "_ends_of_even" s_ends_of_even ["guard", "turn", "ahead"]
  d_looked : HasDef K mg "looked" "looked" s_looked ["program"]
  d_look_at_row : HasDef K mg "_look_at_row" "_look_at_row" s_look_at_row ["row", "place"]
  d_falls : HasDef K mg "_falls" "_falls" s_falls ["lap"]
  d_written : HasDef K mg "written" "written" s_written ["program"]
  d_row_written : HasDef K mg "_row_written" "_row_written" s_row_written ["row", "slots"]
  d_statement_written : HasDef K mg "_statement_written" "_statement_written" s_statement_written ["statement", "slots"]
  d_lap_written : HasDef K mg "_lap_written" "_lap_written" s_lap_written ["lap", "slots"]
  d_all_but : HasDef K mg "_all_but" "_all_but" s_all_but ["slots", "others"]
  d_expression_written : HasDef K mg "_expression_written" "_expression_written" s_expression_written ["expression", "slots"]
  d_law_next : HasDef K mg "_law_next" "_law_next" s_law_next ["_law_h", "_law_many"]
  d_law_names : HasDef K mg "_law_names" "_law_names" s_law_names ["_law_h"]
  d_law_part : HasDef K mg "_law_part" "_law_part" s_law_part ["_law_h", "_law_some", "_law_deep"]
  d_law_measure : HasDef K mg "_law_measure" "_law_measure" s_law_measure ["_law_h", "_law_guard", "_law_calm"]
  d_law_lap : HasDef K mg "_law_lap" "_law_lap" s_law_lap ["_law_h", "_law_names_here", "_law_depth", "_law_odd"]
  d_law_grow : HasDef K mg "_law_grow" "_law_grow" s_law_grow ["_law_h", "_law_low", "_law_some"]
  d_law_row : HasDef K mg "_law_row" "_law_row" s_law_row ["_law_h", "_law_names_here", "_law_depth", "_law_odd"]
  d_law_program : HasDef K mg "_law_program" "_law_program" s_law_program ["_law_h", "_law_names_here", "_law_odd"]
  d_law_bad_part : HasDef K mg "_law_bad_part" "_law_bad_part" s_law_bad_part ["_law_h"]
  d_law_bad : HasDef K mg "_law_bad" "_law_bad" s_law_bad ["_law_h"]
  d_law_spoilt : HasDef K mg "_law_spoilt" "_law_spoilt" s_law_spoilt ["_law_h", "_law_program_here", "_law_names_here"]
  d_law_refused : HasDef K mg "_law_refused" "_law_refused" s_law_refused ["_law_way", "_law_program_here"]
  m_sorted : mg "sorted" = none
  m_all : mg "all" = none
  m_set : mg "set" = none
  m_tuple : mg "tuple" = none
  m_len : mg "len" = none
  m_range : mg "range" = none
  m_max : mg "max" = none
  m_type : mg "type" = none
  m_str : mg "str" = none
  m_int : mg "int" = none
  m_any : mg "any" = none
  m_enumerate : mg "enumerate" = none
  m_reversed : mg "reversed" = none
  m_isinstance : mg "isinstance" = none
  m_ValueError : mg "ValueError" = none
  m_list : mg "list" = none
  i_gcd : mg "gcd" = some (.builtin "math.gcd")
/-! ### fractions -/
theorem divInt_num_pos {t b : Int} (h : 0 < b) : (Rat.divInt t b).num = t.fdiv ((Nat.gcd t.natAbs b.natAbs : Nat) : Int) := by
  rw [Rat.num_divInt, Int.sign_eq_one_of_pos h, Int.one_mul, Int.fdiv_eq_ediv_of_nonneg _ (by omega), Int.gcd, Nat.gcd_comm]
theorem divInt_den_pos {t b : Int} (h : 0 < b) : ((Rat.divInt t b).den : Int) = b.fdiv ((Nat.gcd t.natAbs b.natAbs : Nat) : Int) := by
  have e : ((b.natAbs : Nat) : Int) = b := by omega
  rw [Rat.den_divInt, if_neg (by omega), Int.fdiv_eq_ediv_of_nonneg _ (by omega), Int.gcd, Nat.gcd_comm, Int.natCast_ediv, e]
theorem gcd_pos {t b : Int} (h : b ≠ 0) : 0 < Nat.gcd t.natAbs b.natAbs := Nat.gcd_pos_of_pos_right _ (by omega)
theorem fdiv_neg_gcd {x : Int} {g : Nat} (hg : 0 < g) (hd : (g : Int) ∣ x) : x.fdiv (-(g : Int)) = (-x).fdiv (g : Int) := by
  obtain ⟨q, rfl⟩ := hd
  have e1 : (g : Int) * q = (-(g : Int)) * (-q) := by rw [Int.neg_mul_neg]
  have e2 : -((g : Int) * q) = (g : Int) * (-q) := by rw [Int.mul_neg]
  rw [e2, Int.mul_fdiv_cancel_left _ (by omega), e1, Int.mul_fdiv_cancel_left _ (by omega)]
theorem divInt_num_neg {t b : Int} (h : b < 0) : (Rat.divInt t b).num = t.fdiv (-((Nat.gcd t.natAbs b.natAbs : Nat) : Int)) := by
  rw [show Rat.divInt t b = Rat.divInt (-t) (-b) from (Rat.neg_divInt_neg t b).symm, divInt_num_pos (by omega : 0 < -b), fdiv_neg_gcd (gcd_pos (by omega)) (Int.ofNat_dvd_left.mpr (Nat.gcd_dvd_left _ _)), Int.natAbs_neg, Int.natAbs_neg]
theorem divInt_den_neg {t b : Int} (h : b < 0) : ((Rat.divInt t b).den : Int) = b.fdiv (-((Nat.gcd t.natAbs b.natAbs : Nat) : Int)) := by
  rw [show Rat.divInt t b = Rat.divInt (-t) (-b) from (Rat.neg_divInt_neg t b).symm, divInt_den_pos (by omega : 0 < -b), fdiv_neg_gcd (gcd_pos (by omega)) (Int.ofNat_dvd_left.mpr (Nat.gcd_dvd_right _ _)), Int.natAbs_neg, Int.natAbs_neg]
/-- the size of a fraction -/
def RB (a : Nat) (r : Rat) : Prop := r.num.natAbs < 2 ^ a ∧ r.den < 2 ^ a
theorem RB.divInt {a : Nat} {t b : Int} (h : b ≠ 0) (ht : t.natAbs < 2 ^ a) (hb : b.natAbs < 2 ^ a) : RB a (Rat.divInt t b) := by
  constructor
  · have hd : ((b.gcd t : Nat) : Int) ∣ b.sign * t := Int.dvd_trans (Int.gcd_dvd_right ..) (Int.dvd_mul_left _ _)
    rw [Rat.num_divInt, Int.natAbs_ediv_of_dvd hd, Int.natAbs_mul, Int.natAbs_sign, if_neg h, Nat.one_mul]
    exact Nat.lt_of_le_of_lt (Nat.div_le_self _ _) ht
  · rw [Rat.den_divInt, if_neg h]
    exact Nat.lt_of_le_of_lt (Nat.div_le_self _ _) hb
theorem RB.mono {a b : Nat} {r : Rat} (h : RB a r) (hab : a ≤ b) : RB b r := ⟨Nat.lt_of_lt_of_le h.1 (Nat.pow_le_pow_right (by decide) hab), Nat.lt_of_lt_of_le h.2 (Nat.pow_le_pow_right (by decide) hab)⟩
theorem den_ne (r : Rat) : (r.den : Int) ≠ 0 := by
  have := r.den_nz
  omega
theorem add_eq (r s : Rat) : r + s = Rat.divInt (r.num * s.den + s.num * r.den) (r.den * s.den) := by
  conv => lhs; rw [← Rat.num_divInt_den r, ← Rat.num_divInt_den s]
  exact Rat.divInt_add_divInt _ _ (den_ne r) (den_ne s)
theorem sub_eq (r s : Rat) : r - s = Rat.divInt (r.num * s.den - s.num * r.den) (r.den * s.den) := by
  conv => lhs; rw [← Rat.num_divInt_den r, ← Rat.num_divInt_den s]
  exact Rat.divInt_sub_divInt _ _ (den_ne r) (den_ne s)
theorem mul_eq (r s : Rat) : r * s = Rat.divInt (r.num * s.num) (r.den * s.den) := by
  conv => lhs; rw [← Rat.num_divInt_den r, ← Rat.num_divInt_den s]
  exact Rat.divInt_mul_divInt _ _ ..
theorem divInt_mul_den (t b : Int) (h : b ≠ 0) : (Rat.divInt t b).num * b = t * (Rat.divInt t b).den := by
  have e : Rat.divInt (Rat.divInt t b).num (Rat.divInt t b).den = Rat.divInt t b := Rat.num_divInt_den _
  exact (Rat.divInt_eq_divInt_iff (den_ne _) h).mp e
theorem natAbs_mul_lt {x y : Int} {a b : Nat} (hx : x.natAbs < 2 ^ a) (hy : y.natAbs < 2 ^ b) : (x * y).natAbs < 2 ^ (a + b) := by
  rw [Int.natAbs_mul, Nat.pow_add]
  exact Nat.mul_lt_mul'' hx hy
theorem natAbs_add_lt {x y : Int} {a : Nat} (hx : x.natAbs < 2 ^ a) (hy : y.natAbs < 2 ^ a) : (x + y).natAbs < 2 ^ (a + 1) := by
  rw [Nat.pow_succ]
  omega
theorem natAbs_sub_lt {x y : Int} {a : Nat} (hx : x.natAbs < 2 ^ a) (hy : y.natAbs < 2 ^ a) : (x - y).natAbs < 2 ^ (a + 1) := by
  rw [Nat.pow_succ]
  omega
theorem lt_up {n a b : Nat} (h : n < 2 ^ a) (hab : a ≤ b) : n < 2 ^ b := Nat.lt_of_lt_of_le h (Nat.pow_le_pow_right (by decide) hab)
/-! ### small things -/
theorem ixNat {n j : Nat} (h : j < n) : ixN n (j : Int) = some j := by
  unfold ixN
  rw [if_pos (by omega), if_pos (by omega)]
  rfl
theorem dpInts {K : PySem.W.Frag} {H : Hp} : ∀ cs : List Int, DpAll K H (cs.map V.int) (cs.map PyData.int)
  | [] => .nil
  | _ :: r => .cons (.int _) (dpInts r)
theorem canLayInts : ∀ cs : List Int, PyData.canLayAll0 (cs.map PyData.int) = true
  | [] => by simp [PyData.canLayAll0]
  | x :: r => by simp [PyData.canLayAll0, PyData.canLay0, canLayInts r]
theorem depthInts : ∀ cs : List Int, PyData.depthAll (cs.map PyData.int) = 0
  | [] => by simp [PyData.depthAll]
  | x :: r => by simp [PyData.depthAll, PyData.depth, depthInts r]
theorem shapedInts (cs : List Int) : SeqAt.shaped (.list (cs.map PyData.int)) = true := by
  simp [SeqAt.shaped, PyData.canLay0, PyData.depth, canLayInts, depthInts]
theorem eqvNil : ∀ cs : List Int, PyData.eqv (.list (cs.map PyData.int)) (.list []) = cs.isEmpty
  | [] => by simp [PyData.eqv, PyData.eqvAll]
  | x :: r => by simp [PyData.eqv, PyData.eqvAll]
theorem mulOk {i j : Int} {a b : Nat} (ha : i.natAbs < 2 ^ a) (hb : j.natAbs < 2 ^ b) (h0 : 0 < a) (h1 : 0 < b) (h : a + b ≤ 1000000) : CMulW i j := wide_mul ha hb h0 h1 h
theorem same_upd {H : Hp} {p : Addr} {o : HO} (h : H p = none) : Same H (upd H p o) := fun b x e => by
  rw [upd_ne (ne_of_none e h)]
  exact e
/-! ### dicts whose keys are products: tuples of pairs (name, power) -/
abbrev Pr := List (Str × Int)
def keyN (m : Pr) : NestedKey := .tup (m.map fun x => .tup [.text x.1, .num x.2])
theorem keyN_inj' : ∀ {a b : Pr}, (a.map fun x => NestedKey.tup [.text x.1, .num x.2]) = (b.map fun x => NestedKey.tup [.text x.1, .num x.2]) → a = b
  | [], [], _ => rfl
  | [], _ :: _, h => by simp at h
  | _ :: _, [], h => by simp at h
  | (x1, x2) :: r, (y1, y2) :: t, h => by
    simp only [List.map_cons, List.cons.injEq, NestedKey.tup.injEq, NestedKey.text.injEq, NestedKey.num.injEq, and_true] at h
    obtain ⟨⟨h1, h2⟩, h3⟩ := h
    rw [h1, h2, keyN_inj' h3]
theorem keyN_inj {a b : Pr} (h : keyN a = keyN b) : a = b := by
  unfold keyN at h
  injection h with h
  exact keyN_inj' h
/-- the pair x stands at q; the product m stands at p -/
def PairAt (K : PySem.W.Frag) (H : Hp) (q : Addr) (x : Str × Int) : Prop := SqT K H q [.str x.1, .int x.2]
def ProdAt (K : PySem.W.Frag) (H : Hp) (p : Addr) (m : Pr) : Prop := ∃ qs : List Addr, SqT K H p (qs.map V.ref) ∧ Paired (PairAt K H) qs m
theorem SqT.keeps {K : PySem.W.Frag} {H H' : Hp} {a : Addr} {xs : List V} (h : SqT K H a xs) (k : ∀ b o, Rd H b (.tup o) → Rd H' b (.tup o)) : SqT K H' a xs := by
  rcases h with h | h
  · exact .inl (k _ _ h)
  · exact .inr h
/-- tuples stay -/
def TupsStay (H H' : Hp) : Prop := ∀ b o, Rd H b (.tup o) → Rd H' b (.tup o)
theorem TupsStay.refl (H : Hp) : TupsStay H H := fun _ _ h => h
theorem TupsStay.trans {H H1 H2 : Hp} (a : TupsStay H H1) (b : TupsStay H1 H2) : TupsStay H H2 := fun x o h => b x o (a x o h)
theorem TupsStay.same {H H' : Hp} (s : Same H H') : TupsStay H H' := fun b o h => by
  rcases h with h | ⟨ob, h⟩
  · exact .inl (s _ _ h)
  · exact .inr ⟨ob, s _ _ h⟩
def NotTup : HO → Prop
  | .tup _ => False
  | .frz _ (.tup _) => False
  | _ => True
theorem TupsStay.upd {H : Hp} {d : Addr} {u o : HO} (e : H d = some u) (n : NotTup u) : TupsStay H (upd H d o) := fun b xs h => by
  have nb : b ≠ d := fun z => by
    subst z
    rcases h with h | ⟨ob, h⟩
    · rw [e] at h
      cases h
      exact n
    · rw [e] at h
      cases h
      exact n
  rcases h with h | ⟨ob, h⟩
  · exact .inl (by rw [upd_ne nb]; exact h)
  · exact .inr ⟨ob, by rw [upd_ne nb]; exact h⟩
theorem TupsStay.new {H : Hp} {d : Addr} {o : HO} (e : H d = none) : TupsStay H (L2.upd H d o) := TupsStay.same (same_upd e)
theorem PairAt.stay {K : PySem.W.Frag} {H H' : Hp} {q : Addr} {x : Str × Int} (h : PairAt K H q x) (t : TupsStay H H') : PairAt K H' q x := SqT.keeps h t
theorem ProdAt.stay {K : PySem.W.Frag} {H H' : Hp} {p : Addr} {m : Pr} (h : ProdAt K H p m) (t : TupsStay H H') : ProdAt K H' p m := by
  obtain ⟨qs, h1, h2⟩ := h
  exact ⟨qs, SqT.keeps h1 t, Paired.mapP h2 fun _ _ z => PairAt.stay z t⟩
section
variable {X : Cx} {pins : List (Addr × Obj)} {σ : L2.St} {H : Hp} {s : Shared}
theorem ProdAt.nested (I : Inv X pins σ H s) {p : Addr} {m : Pr} (h : ProdAt X.K H p m) : (nestedKind X.prog X.w).is s.heap (keyN m) p := by
  obtain ⟨qs, h1, h2⟩ := h
  obtain ⟨its, rv, ⟨o, ho, hc, n, hd⟩, _⟩ := I.tuple h1
  have all : ∀ (qs : List Addr) (m : Pr) (its : List Value), Paired (PairAt X.K H) qs m → Vals (qs.map V.ref) its → NestedAll s.heap (m.map fun x => NestedKey.tup [.text x.1, .num x.2]) its := by
    intro qs m its q
    induction q generalizing its with
    | nil =>
      intro r
      cases r
      exact .nil
    | @cons q x qs m hq _ ih =>
      intro r
      rw [List.map_cons] at r
      cases r with
      | cons r1 r2 =>
        cases r1
        obtain ⟨jts, rj, ⟨o', ho', hc', n', hd'⟩, _⟩ := I.tuple hq
        rw [List.map_cons]
        refine .cons (.tup ho' hc' hd' ?_) (ih _ r2)
        cases rj with
        | cons r3 r4 =>
          cases r4 with
          | cons r5 r6 =>
            cases r6
            obtain ⟨t, rfl⟩ := r3
            obtain ⟨t', rfl⟩ := r5
            exact .cons (.text _ _) (.cons (.int _ _) .nil)
  refine ⟨.tup ho hc hd (by simpa using all qs m its h2 rv), ?_⟩
  show (keyN m).depth ≤ 8
  have hdep : ∀ m : Pr, NestedKey.depthAll (m.map fun x => NestedKey.tup [.text x.1, .num x.2]) ≤ 1 := by
    intro m
    induction m with
    | nil => simp [NestedKey.depthAll]
    | cons x r ih =>
      rw [List.map_cons]
      simp only [NestedKey.depthAll, NestedKey.depth]
      omega
  have := hdep m
  show NestedKey.depth (.tup _) ≤ 8
  simp only [NestedKey.depth]
  omega
theorem ProdAt.inj (I : Inv X pins σ H s) {p : Addr} {m m' : Pr} (h : ProdAt X.K H p m) (h' : ProdAt X.K H p m') : m = m' := by
  have a := h.nested I
  have b := h'.nested I
  exact keyN_inj ((nestedKind X.prog X.w).inj a b)
end
/-- the entries of such a dict's object -/
def rawN (w : World) (a : Addr) (xs : List (NestedKey × Addr × Value)) (h : Heap) : Prop :=
  ∃ o es ep, h.get? a = some o ∧ o.ExactDict ∧ o.data = .dict es ep ∧ es.toList = xs.map (fun x => (⟨x.1.hash w, .ref x.2.1, x.2.2⟩ : DictEntry))
def ndO (w : World) (a : Addr) (xs : List (NestedKey × Addr × Value)) : HO := .ext (rawN w a xs)
/-- what its entries are -/
abbrev KN (K : PySem.W.Frag) (H : Hp) : List (Pr × V) → List (NestedKey × Addr × Value) → Prop := Paired fun p q => keyN p.1 = q.1 ∧ ProdAt K H q.2.1 p.1 ∧ RelV p.2 q.2.2
/-- the dict L with such keys stands at d: u is how it stands there -/
structure NDAs (K : PySem.W.Frag) (w : World) (H : Hp) (d : Addr) (L : List (Pr × V)) (xs : List (NestedKey × Addr × Value)) : Prop where
  len : L.length ≤ sizeLine
  sys : (d == sysModules) = false
  rel : KN K H L xs
  nd : (L.map (·.1)).Nodup
def ND (K : PySem.W.Frag) (w : World) (H : Hp) (d : Addr) (L : List (Pr × V)) : Prop := ∃ xs, H d = some (ndO w d xs) ∧ NDAs K w H d L xs
def NF (K : PySem.W.Frag) (w : World) (H : Hp) (d : Addr) (o : Obj) (L : List (Pr × V)) : Prop := ∃ xs, H d = some (.frz o (ndO w d xs)) ∧ NDAs K w H d L xs
/-- .. to be read -/
def NR (K : PySem.W.Frag) (w : World) (H : Hp) (d : Addr) (L : List (Pr × V)) : Prop := ∃ xs, Rd H d (ndO w d xs) ∧ NDAs K w H d L xs
theorem ND.r {K w H d L} (h : ND K w H d L) : NR K w H d L := let ⟨xs, e, n⟩ := h; ⟨xs, .inl e, n⟩
theorem NF.r {K w H d o L} (h : NF K w H d o L) : NR K w H d L := let ⟨xs, e, n⟩ := h; ⟨xs, .inr ⟨o, e⟩, n⟩
theorem NDAs.stay {K w H H' d L xs} (n : NDAs K w H d L xs) (t : TupsStay H H') : NDAs K w H' d L xs := ⟨n.len, n.sys, Paired.mapP n.rel fun _ _ z => ⟨z.1, z.2.1.stay t, z.2.2⟩, n.nd⟩
theorem ND.stay {K w H H' d L} (h : ND K w H d L) (t : TupsStay H H') (k : ∀ o, H d = some o → H' d = some o) : ND K w H' d L := let ⟨xs, e, n⟩ := h; ⟨xs, k _ e, n.stay t⟩
theorem NF.stay {K w H H' d o L} (h : NF K w H d o L) (t : TupsStay H H') (k : ∀ o, H d = some o → H' d = some o) : NF K w H' d o L := let ⟨xs, e, n⟩ := h; ⟨xs, k _ e, n.stay t⟩
theorem NR.stay {K w H H' d L} (h : NR K w H d L) (t : TupsStay H H') (k : ∀ o, H d = some o → H' d = some o) : NR K w H' d L := by
  obtain ⟨xs, e, n⟩ := h
  refine ⟨xs, ?_, n.stay t⟩
  rcases e with e | ⟨o, e⟩
  · exact .inl (k _ e)
  · exact .inr ⟨o, k _ e⟩
section
variable {K : PySem.W.Frag} {H : Hp}
theorem KN.val {kvs : List (Pr × V)} {xs : List (NestedKey × Addr × Value)} (r : KN K H kvs xs) (k : Pr) : RelO (valV kvs k) ((atKey xs (keyN k)).map (·.2)) := by
  induction r with
  | nil => exact True.intro
  | @cons p q ps qs h t ih =>
    obtain ⟨h1, _, h2⟩ := h
    by_cases e : p.1 = k
    · have e' : q.1 = keyN k := by rw [← h1, e]
      have b : atKey (q :: qs) (keyN k) = some q.2 := by simp [atKey, List.find?_cons, e']
      rw [valV_pos e, b]
      exact h2
    · have e' : ¬ q.1 = keyN k := fun z => e (keyN_inj (h1.trans z))
      have b : atKey (q :: qs) (keyN k) = atKey qs (keyN k) := by simp [atKey, List.find?_cons, e']
      rw [valV_neg e, b]
      exact ih
theorem KN.repl {kvs : List (Pr × V)} {xs : List (NestedKey × Addr × Value)} (r : KN K H kvs xs) (k : Pr) {y : V} {u : Value} (ry : RelV y u) :
    KN K H (kvs.map fun kv => if kv.1 = k then (kv.1, y) else kv) (xs.map (putAt (keyN k) u)) := by
  induction r with
  | nil => exact .nil
  | @cons p q ps qs h t ih =>
    rw [List.map_cons, List.map_cons]
    refine .cons ?_ ih
    obtain ⟨h1, h2, h3⟩ := h
    unfold putAt
    by_cases e : p.1 = k
    · rw [if_pos e, if_pos (by rw [← h1, e])]
      exact ⟨h1, h2, ry⟩
    · rw [if_neg e, if_neg (fun z => e (keyN_inj (h1.trans z)))]
      exact ⟨h1, h2, h3⟩
theorem KN.put {kvs : List (Pr × V)} {xs : List (NestedKey × Addr × Value)} (r : KN K H kvs xs) (k : Pr) {b : Addr} {y : V} {u : Value} (hb : ProdAt K H b k) (ry : RelV y u) :
    KN K H (putK kvs k y) (storedH xs (keyN k) b u) := by
  have e : (kvs.any fun kv => decide (kv.1 = k)) = (atKey xs (keyN k)).isSome := by
    rw [valV_any, (r.val k).isSome_eq, Option.isSome_map]
  unfold putK storedH
  rw [e]
  by_cases q : (atKey xs (keyN k)).isSome = true
  · rw [if_pos q, if_pos q]
    exact r.repl k ry
  · rw [if_neg q, if_neg q]
    exact Paired.snoc r ⟨rfl, hb, ry⟩
theorem KN.drop {kvs : List (Pr × V)} {xs : List (NestedKey × Addr × Value)} (r : KN K H kvs xs) (k : Pr) : KN K H (dropK kvs k) (withoutH xs (keyN k)) := by
  induction r with
  | nil => exact .nil
  | @cons p q ps qs h t ih =>
    obtain ⟨h1, h2, h3⟩ := h
    unfold dropK withoutH
    rw [List.filter_cons, List.filter_cons]
    by_cases e : p.1 = k
    · rw [if_neg (by simp [e]), if_neg (by simp [← h1, e])]
      exact ih
    · rw [if_pos (by simp [e]), if_pos (by simp only [decide_eq_true_eq]; exact fun z => e (keyN_inj (h1.trans z)))]
      exact .cons ⟨h1, h2, h3⟩ ih
theorem nd_put {kvs : List (Pr × V)} (k : Pr) (v : V) (h : (kvs.map (·.1)).Nodup) : ((putK kvs k v).map (·.1)).Nodup := by
  unfold putK
  split
  · have e : (kvs.map fun kv => if kv.1 = k then (kv.1, v) else kv).map (·.1) = kvs.map (·.1) := by
      rw [List.map_map]
      refine List.map_congr_left fun x _ => ?_
      show (if x.1 = k then (x.1, v) else x).1 = x.1
      split <;> rfl
    rw [e]
    exact h
  · rename_i hn
    rw [List.map_append]
    refine List.nodup_append.mpr ⟨h, by simp, fun a ha b hb z => ?_⟩
    have eb : b = k := by simpa using hb
    subst z
    subst eb
    obtain ⟨x, hx, e⟩ := List.mem_map.mp ha
    exact hn (List.any_eq_true.mpr ⟨x, hx, by simp [e]⟩)
theorem nd_drop {kvs : List (Pr × V)} (k : Pr) (h : (kvs.map (·.1)).Nodup) : ((dropK kvs k).map (·.1)).Nodup := by
  unfold dropK
  exact h.sublist (List.Sublist.map _ List.filter_sublist)
end
section
variable {X : Cx} {pins : List (Addr × Obj)} {σ : L2.St} {H : Hp} {s : Shared} {a : Addr}
theorem rawN_ok {xs : List (NestedKey × Addr × Value)} (I : Inv X pins σ H s) (e : Rd H a (ndO X.w a xs)) : rawN X.w a xs s.heap := by
  have z : ObjOk X.prog X.w H s.heap a (ndO X.w a xs) := e.ok I.hok
  exact z.1
theorem keys_ok {L : List (Pr × V)} {xs : List (NestedKey × Addr × Value)} (I : Inv X pins σ H s) (r : KN X.K H L xs) : ∀ x ∈ xs, (nestedKind X.prog X.w).is s.heap x.1 x.2.1 := by
  induction r with
  | nil => intro x hx; exact nomatch hx
  | @cons p q ps qs h t ih =>
    intro x hx
    rcases List.mem_cons.mp hx with e | hx
    · subst e
      rw [← h.1]
      exact h.2.1.nested I
    · exact ih x hx
theorem keys_map {L : List (Pr × V)} {xs : List (NestedKey × Addr × Value)} {K : PySem.W.Frag} (r : KN K H L xs) : xs.map (·.1) = (L.map (·.1)).map keyN := by
  induction r with
  | nil => rfl
  | @cons p q ps qs h t ih => rw [List.map_cons, List.map_cons, List.map_cons, ih, ← h.1]
theorem nodup_keys {l : List Pr} (h : l.Nodup) : (l.map keyN).Nodup := by
  induction l with
  | nil => exact List.nodup_nil
  | cons x r ih =>
    obtain ⟨h1, h2⟩ := List.nodup_cons.mp h
    rw [List.map_cons]
    refine List.nodup_cons.mpr ⟨fun z => ?_, ih h2⟩
    obtain ⟨y, hy, e⟩ := List.mem_map.mp z
    rw [keyN_inj e] at hy
    exact h1 hy
/-- the library's own view of it -/
theorem NDAs.dict {L : List (Pr × V)} {xs : List (NestedKey × Addr × Value)} (I : Inv X pins σ H s) (n : NDAs X.K X.w H a L xs) (e : Rd H a (ndO X.w a xs)) : s.heap.DictOfH (nestedKind X.prog X.w) a xs := by
  obtain ⟨o, es, ep, h1, h2, h3, h4⟩ := rawN_ok I e
  refine ⟨o, es, ep, h1, h2, h3, h4, keys_ok I n.rel, ?_⟩
  rw [keys_map n.rel]
  exact nodup_keys n.nd
theorem rawN_of {h : Heap} {prog : Program} {w : World} {xs : List (NestedKey × Addr × Value)} (d : h.DictOfH (nestedKind prog w) a xs) : rawN w a xs h := by
  obtain ⟨o, es, ep, h1, h2, h3, h4, _⟩ := d
  exact ⟨o, es, ep, h1, h2, h3, h4⟩
theorem ndO_ok {prog : Program} {w : World} {H' : Hp} {h : Heap} {xs : List (NestedKey × Addr × Value)} (r : rawN w a xs h) : ObjOk prog w H' h a (ndO w a xs) := by
  refine ⟨r, let ⟨o, _, _, e, _⟩ := r; ⟨o, e⟩, fun h1 h2 x k => ?_⟩
  obtain ⟨o, es, ep, e, q⟩ := x
  exact ⟨o, es, ep, k _ e, q⟩
theorem notTup_nd {w : World} {xs : List (NestedKey × Addr × Value)} : NotTup (ndO w a xs) := True.intro
theorem notTup_ndf {w : World} {o : Obj} {xs : List (NestedKey × Addr × Value)} : NotTup (.frz o (ndO w a xs)) := True.intro
/-- its object is changed -/
theorem nd_write {L L' : List (Pr × V)} {xs xs' : List (NestedKey × Addr × Value)} {h' : Heap} {t' : Nat} (I : Inv X pins σ H s) (e : H a = some (ndO X.w a xs)) (hl : L'.length ≤ sizeLine) (n : NDAs X.K X.w H a L xs) (rel : KN X.K H L' xs') (hn : (L'.map (·.1)).Nodup)
    (dd : h'.DictOfH (nestedKind X.prog X.w) a xs') (hs : Heap.SameBut a s.heap h') : Inv X pins σ (upd H a (ndO X.w a xs')) { s with heap := h', toks := t' } ∧ ND X.K X.w (upd H a (ndO X.w a xs')) a L' := by
  have r := rawN_of dd
  refine ⟨d_write I (by rw [e]; exact True.intro) hs (let ⟨o, _, _, z, _⟩ := r; ⟨o, z⟩) (ndO_ok r), xs', upd_same, ?_⟩
  exact NDAs.stay (H := H) ⟨hl, n.sys, rel, hn⟩ (TupsStay.upd e True.intro)
theorem room9 {A : Around} (hu : A.units + 64 < cLine) : (nestedKind X.prog X.w).room A.in1 := by
  show A.in1.units + 8 < cLine
  rw [Around.in1_units]
  omega
theorem NR.typeIs {L : List (Pr × V)} (I : Inv X pins σ H s) (h : NR X.K X.w H a L) : s.TypeIs (.ref a) "dict" ∧ (∀ b, Value.ref a = .ref b → ∃ ob, s.heap.get? b = some ob ∧ ob.dict = none) ∧ (a == sysModules) = false := by
  obtain ⟨xs, e, n⟩ := h
  obtain ⟨o, es, ep, h1, h2, h3, h4⟩ := rawN_ok I e
  refine ⟨⟨o, h1, h2.1⟩, fun b q => ?_, n.sys⟩
  cases q
  exact ⟨o, h1, h2.2.1⟩
end
/-! ### their rules -/
def tNewN (w : World) : TE := fun _ H Q => ∀ p, H p = none → (p == sysModules) = false → Q (.ref p) (upd H p (ndO w p []))
def tGetN (K : PySem.W.Frag) (w : World) (td ty tx : TE) : TE := fun σ H Q => td σ H fun x H1 => ∃ a L0, x = .ref a ∧ NR K w H1 a L0 ∧ ty σ H1 fun y H2 => tx σ H2 fun z H3 => ∃ L k b, y = .ref b ∧ NR K w H3 a L ∧ ProdAt K H3 b k ∧ Q ((valV L k).getD z) H3
def tPopN (K : PySem.W.Frag) (w : World) (td ty tx : TE) : TE := fun σ H Q => td σ H fun x H1 => ∃ a L0, x = .ref a ∧ NR K w H1 a L0 ∧ ty σ H1 fun y H2 => tx σ H2 fun z H3 => ∃ L k b, y = .ref b ∧ ND K w H3 a L ∧ ProdAt K H3 b k ∧
  (∀ v o, valV L k = some v → ND K w (upd H3 a o) a (dropK L k) → Q v (upd H3 a o)) ∧ (valV L k = none → Q z H3)
def sPutN (K : PySem.W.Frag) (w : World) (td ty tv : TE) : TS := fun D σ H => tv σ H fun v H1 => td σ H1 fun x H2 => ty σ H2 fun y H3 => ∃ a L k b, x = .ref a ∧ y = .ref b ∧ ND K w H3 a L ∧ L.length < sizeLine ∧ ProdAt K H3 b k ∧
  ∀ o, ND K w (upd H3 a o) a (putK L k v) → D.nx σ (upd H3 a o)
section
variable {X : Cx} {o e f i value : Expr} {apos cpos pos pos' : Pos} {td ty tx tv : TE}
theorem pe_newN : PE X (.Dict [] [] pos) (tNewN X.w) := ⟨fun pins s σ H Q I h =>
  wpAny_Dict_empty ⟨.ref s.heap.objs.size, _, I.laid (a := s.heap.objs.size) (o := ndO X.w s.heap.objs.size []) (t' := s.toks) (fun _ _ q => Heap.get?_push_of_some _ q) (Nat.le_refl _)
    (ndO_ok ⟨_, #[], 0, Heap.get?_push_size _ rfl, ⟨rfl, rfl, rfl⟩, rfl, rfl⟩), rfl, h _ (I.hok.fresh (Nat.le_refl _)) (beq_eq_false_iff_ne.mpr (Ne.symm (Nat.ne_of_lt I.big)))⟩⟩
theorem pe_getN (hu : X.A.units + 64 < cLine) (ho : PE X o td) (he : PE X e ty) (hf : PE X f tx) (m : M2 X o "get" apos e f cpos) : PE X (.Call (.Attribute o "get" apos) [e, f] [] cpos) (tGetN X.K X.w td ty tx) := by
  refine ⟨fun pins s σ H Q I h => ?_⟩
  refine wpAny_Call_method m.base m.few m.line PySem.F.plainAttrs_dict PySem.F.slot_dict_get PySem.F.type_dict_get (thn (ho.run pins s σ H _ I h) fun u s1 ⟨x, H1, I1, rx, a, L0, ex, d, q1⟩ => ?_)
  subst ex
  obtain rfl : u = Value.ref a := rx
  obtain ⟨t1, t2, _⟩ := d.typeIs I1
  refine ⟨t1, t2, ?_⟩
  rw [m.trees]
  refine Calls.callWith_builtin rfl (Calls.evalArgs_plain (Calls.spliced_cons (thn (he.run pins s1 σ H1 _ I1 q1) fun iv s2 ⟨y, H2, I2, ry, q2⟩ =>
    Calls.spliced_cons (thn (hf.run pins s2 σ H2 _ I2 q2) fun fv s3 ⟨z, H3, I3, rz, L, k, b, ey, g, hk, q3⟩ => Calls.spliced_nil ?_))))
  subst ey
  obtain rfl : iv = Value.ref b := ry
  obtain ⟨xs, er, n⟩ := g
  have dd := n.dict I3 er
  refine call_meetsIn PySem.F.slot_dict_get dd.typeIs PySem.F.entry_dict_get (PySem.F.args_dict_get_3 _ _ _) (meetsH_dict_get_default (nestedKind X.prog X.w) a b n.sys fv) ⟨room9 hu, keyN k, xs, hk.nested I3, dd, ?_⟩
  exact ⟨_, H3, I3.tok _, (n.rel.val k).getD rz, q3⟩
theorem pe_popN (hu : X.A.units + 64 < cLine) (ho : PE X o td) (he : PE X e ty) (hf : PE X f tx) (m : M2 X o "pop" apos e f cpos) : PE X (.Call (.Attribute o "pop" apos) [e, f] [] cpos) (tPopN X.K X.w td ty tx) := by
  refine ⟨fun pins s σ H Q I h => ?_⟩
  refine wpAny_Call_method m.base m.few m.line PySem.F.plainAttrs_dict PySem.F.slot_dict_pop PySem.F.type_dict_pop (thn (ho.run pins s σ H _ I h) fun u s1 ⟨x, H1, I1, rx, a, L0, ex, d, q1⟩ => ?_)
  subst ex
  obtain rfl : u = Value.ref a := rx
  obtain ⟨t1, t2, _⟩ := d.typeIs I1
  refine ⟨t1, t2, ?_⟩
  rw [m.trees]
  refine Calls.callWith_builtin rfl (Calls.evalArgs_plain (Calls.spliced_cons (thn (he.run pins s1 σ H1 _ I1 q1) fun iv s2 ⟨y, H2, I2, ry, q2⟩ =>
    Calls.spliced_cons (thn (hf.run pins s2 σ H2 _ I2 q2) fun fv s3 ⟨z, H3, I3, rz, L, k, b, ey, g, hk, q3, q4⟩ => Calls.spliced_nil ?_))))
  subst ey
  obtain rfl : iv = Value.ref b := ry
  obtain ⟨xs, er, n⟩ := g
  have dd := n.dict I3 (.inl er)
  have hz : xs.length ≤ sizeLine := by rw [← Paired.length n.rel]; exact n.len
  cases l : valV L k with
  | none =>
    have hn : atKey xs (keyN k) = none := Option.map_eq_none_iff.mp (RelO.none_of (by rw [← l]; exact n.rel.val k))
    exact PySem.call_pop_default_heap (hsz := hz) (room9 hu) (hk.nested I3) n.sys dd hn fun tk => ⟨z, H3, I3.tok _, rz, q4 l⟩
  | some v =>
    obtain ⟨w', hw, rw'⟩ := RelO.some_of (v := v) (o := (atKey xs (keyN k)).map (·.2)) (by rw [← l]; exact n.rel.val k)
    obtain ⟨p, hp, hp2⟩ := Option.map_eq_some_iff.mp hw
    refine PySem.call_pop_heap (hsz := hz) (.inr ⟨fv, rfl⟩) (PySem.F.args_dict_pop_3 _ _ _) (room9 hu) (hk.nested I3) n.sys dd hp fun h' hm' hs => ?_
    have hl : (dropK L k).length ≤ sizeLine := Nat.le_trans (dropK_le L k) n.len
    obtain ⟨I4, n4⟩ := nd_write (t' := s3.toks + (nestedKind X.prog X.w).draws (keyN k)) I3 er hl n (n.rel.drop k) (nd_drop k n.nd) hm' hs
    rw [hp2]
    exact ⟨v, _, I4, rw', q3 v _ l n4⟩
theorem ps_putN (hu : X.A.units + 64 < cLine) (ho : PE X o td) (hi : PE X i ty) (hv : PE X value tv) (hs : swapsWith value (some (.Subscript o i pos')) pos.line X.env = pure false) :
    PS X (.Assign [.Subscript o i pos'] value pos) (sPutN X.K X.w td ty tv) := by
  refine ⟨fun pins s σ H D I h => ?_⟩
  refine wpAny_Assign_Subscript (thn (hv.run pins s σ H _ I h) fun r s1 ⟨v, H1, I1, rv, q1⟩ => thn (ho.run pins s1 σ H1 _ I1 q1) fun u s2 ⟨x, H2, I2, rx, q2⟩ => thn (hi.run pins s2 σ H2 _ I2 q2) fun iv s3 ⟨y, H3, I3, ry, a, L, k, b, ex, ey, g, hlt, hk, q3⟩ => ?_) hs
  subst ex ey
  obtain rfl : u = Value.ref a := rx
  obtain rfl : iv = Value.ref b := ry
  obtain ⟨xs, er, n⟩ := g
  have dd := n.dict I3 (.inl er)
  have hz : xs.length ≤ sizeLine := by rw [← Paired.length n.rel]; exact n.len
  refine PySem.wpAny_setItem_heap (hsz := hz) (room9 hu) (hk.nested I3) dd fun h' dd' hs' => ?_
  have hl : (putK L k v).length ≤ sizeLine := by have := length_putK L k v; omega
  obtain ⟨I4, n4⟩ := nd_write (t' := s3.toks + (nestedKind X.prog X.w).draws (keyN k)) I3 er hl n (n.rel.put k hk rv) (nd_put k v n.nd) dd' hs'
  exact ⟨σ, _, I4, q3 _ n4⟩
end
/-! ### .. walked by its pairs, and copied by a comprehension -/
/-- the entries of such a dict that is locked -/
theorem NF.entries {X : Cx} {pins : List (Addr × Obj)} {σ : L2.St} {H : Hp} {s : Shared} {d : Addr} {o : Obj} {L : List (Pr × V)} (I : Inv X pins σ H s) (h : NF X.K X.w H d o L) :
    s.heap.get? d = some o ∧ ∃ es ep, o.data = .dict es ep ∧ DT.Raw s.heap d es ep ∧ es.size = L.length ∧
      ∀ i (hi : i < es.size), ∃ (k : Pr) (v : V) (b : Addr), L[i]? = some (k, v) ∧ es[i].key = .ref b ∧ RelV v es[i].val ∧ ProdAt X.K H b k := by
  obtain ⟨xs, e, n⟩ := h
  have hd : s.heap.get? d = some o := (I.hok d _ e).1
  obtain ⟨o', es, ep, h1, h2, h3, h4⟩ := rawN_ok I (.inr ⟨o, e⟩)
  rw [hd] at h1
  cases h1
  have hl : L.length = xs.length := Paired.length n.rel
  have hs : es.size = L.length := by rw [← Array.length_toList, h4, List.length_map, hl]
  refine ⟨hd, es, ep, h3, ⟨o, hd, h2, h3⟩, hs, fun i hi => ?_⟩
  have hiL : i < L.length := by omega
  obtain ⟨q, hq, r1, r2, r3⟩ := paired_get n.rel (List.getElem?_eq_getElem hiL)
  have en : es[i] = (⟨q.1.hash X.w, .ref q.2.1, q.2.2⟩ : DictEntry) := by
    have z : es[i]? = (xs.map (fun x => (⟨x.1.hash X.w, .ref x.2.1, x.2.2⟩ : DictEntry)))[i]? := by rw [← Array.getElem?_toList, h4]
    rw [List.getElem?_map, hq, Array.getElem?_eq_getElem hi] at z
    exact Option.some.inj z
  exact ⟨L[i].1, L[i].2, q.2.1, List.getElem?_eq_getElem hiL, by rw [en], by rw [en]; exact r3, r2⟩
/-- its pairs, each a new tuple -/
def ItN (K : PySem.W.Frag) (w : World) (d : Addr) (o : Obj) (L : List (Pr × V)) : It :=
  ⟨fun i H => NF K w H d o L ∧ i < L.length, fun i H x H' => ∃ (T b : Addr) (k : Pr) (v : V), L[i]? = some (k, v) ∧ x = .ref T ∧ H T = none ∧ ProdAt K H b k ∧ H' = upd H T (.tup [.ref b, v]), fun i H => NF K w H d o L ∧ L.length ≤ i⟩
theorem turn_itemsN {P : Program} {w : World} {K : PySem.W.Frag} {d : Addr} {o : Obj} {es : Array DictEntry} {ep : Nat} {L : List (Pr × V)} {elts : List Expr} {kk : Nat} {tpos : Pos} (it : Addr) (hod : o.data = .dict es ep) (hsz : es.size = L.length) :
    Turn P w K (.Tuple elts kk tpos) (ItN K w d o L) [it] it (fun i h => ∃ ok ov, IsItemIter h it d i es.size ep ok ov) where
  mem := by simp
  obj := fun i h ⟨ok, ov, e⟩ b hb => by
    cases (show b = it by simpa using hb)
    exact ⟨_, e, fun v z => nomatch z⟩
  keep := fun i h h' ⟨ok, ov, e⟩ k => ⟨ok, ov, k it (by simp) _ e⟩
  item := by
    intro X hP hw hK hc i pins s σ H E I hf st hg
    subst hP hw hK
    obtain ⟨hF, hi⟩ := hg
    obtain ⟨hgd, es', ep', hdt, raw, _, ent⟩ := hF.entries I
    obtain ⟨rfl, rfl⟩ := dict_ep hod hdt
    obtain ⟨ok, ov, he⟩ := st
    have hi' : i < es'.size := by omega
    obtain ⟨k, v, b, hL, hk, rv, hb⟩ := ent i hi'
    have hlt : it < s.heap.objs.size := Heap.lt_size he
    refine DT.nextI he raw hi' fun h1 hout hT hz hk1 => ⟨_, rfl, wpAny_letOwnedTupleGo_items (s := { s with heap := h1 }) hout fun h2 he2 sb => ?_⟩
    have keepAll : ∀ c ob, c ∉ [it] → s.heap.get? c = some ob → h2.get? c = some ob := fun c ob hc' e => (sb.2 c (by simpa using hc')).trans (hk1 c ob (by simpa using hc') e)
    have tupAt : h2.get? s.heap.objs.size = some { cls := .type "tuple", data := .seq #[es'[i].key, es'[i].val] } := (sb.2 _ (Nat.ne_of_gt hlt)).trans hT
    have fresh : H s.heap.objs.size = none := I.hok.fresh (Nat.le_refl _)
    have okT : ObjOk X.prog X.w (upd H s.heap.objs.size (.tup [.ref b, v])) h2 s.heap.objs.size (.tup [.ref b, v]) :=
      ⟨by show 2 ≤ sizeLine; decide, [es'[i].key, es'[i].val], .cons hk (.cons rv .nil), ⟨_, tupAt, rfl, _, rfl⟩⟩
    refine ⟨.ref s.heap.objs.size, _, I.turnedNew (t' := s.toks) (ch := [it]) keepAll hf (Nat.le_refl _) okT, rfl, ⟨_, b, k, v, hL, rfl, fresh, hb, rfl⟩, ⟨_, _, he2⟩, fun c hc' => ?_⟩
    cases (show c = it by simpa using hc')
    rw [upd_ne (Nat.ne_of_lt hlt)]
    exact (hf it (by simp)).1
  done := by
    intro X hP hw hK hc i pins s σ H E I hf st hg
    subst hP hw hK
    obtain ⟨hF, hi⟩ := hg
    obtain ⟨hgd, es', ep', hdt, raw, hs', _⟩ := hF.entries I
    obtain ⟨rfl, rfl⟩ := dict_ep hod hdt
    obtain ⟨f0, f1, f2, f3, f4, f5⟩ := hf it (by simp)
    obtain ⟨ok, ov, he⟩ := st
    exact DT.endI (I.ok.hd hc) he raw (by omega) fun h' eb => ⟨rfl, I.turned (t' := s.toks) (fun c ob hc' e => eb c ob hc' e) f0 f1 f3 f4 f5⟩
  self := fun A i s Q E ⟨_, _, e⟩ h => PySem.W.kcp_self e h
def iItemsN (K : PySem.W.Frag) (w : World) (td : TE) : TI := fun σ H R => td σ H fun x H1 => ∃ d o L, x = .ref d ∧ NF K w H1 d o L ∧ R (ItN K w d o L) H1
theorem pi_itemsN {X : Cx} {e : Expr} {td : TE} {apos cpos : Pos} {elts : List Expr} {kk : Nat} {tpos : Pos} (he : PE X e td) (hbase : attributeBase e "items" X.env (eval e X.env) = eval e X.env := by rfl) (hline : (apos.endLine == cpos.line) = true := by rfl) :
    PI X (.Tuple elts kk tpos) (.Call (.Attribute e "items" apos) [] [] cpos) (iItemsN X.K X.w td) := by
  refine ⟨fun pins s σ H R I h => wpAny_Call_method (T := "dict") (id := "dict.items") hbase rfl hline F.plainAttrs_dict F.slot_dict_items F.type_dict_items (thn (he.run pins s σ H _ I h) fun u s1 ⟨x, H1, I1, rx, d, o, L, ex, hF, q⟩ => ?_)⟩
  subst ex
  obtain rfl : u = Value.ref d := rx
  obtain ⟨t1, t2, hs⟩ := hF.r.typeIs I1
  obtain ⟨hgd, es, ep, hdt, raw, hsz, _⟩ := hF.entries I1
  refine ⟨t1, t2, ?_⟩
  have view : Inv X pins σ H1 { s1 with heap := s1.heap.push { cls := .type "dict_items", data := .fields #[.ref d] } } := I1.kept (t' := s1.toks) fun b ob z => Heap.get?_push_of_some _ z
  refine method_meetsIn F.slot_dict_items F.entry_dict_items rfl (PySem.evalArgs_none ⟨rfl, raw.typeIs, F.args_dict_items_1 _, _, DT.meetsItems (es := es) (ep := ep) hs, raw, ?_⟩)
  refine DT.iterI (d := d) (es := es) (ep := ep) (s := { s1 with heap := s1.heap.push { cls := .type "dict_items", data := .fields #[.ref d] } }) ⟨_, Heap.get?_push_size _ rfl, rfl, rfl⟩ (raw.push _) ?_
  exact pi_one (tk := s1.toks) view _ (turn_itemsN _ hdt hsz) ⟨.none, .none, Heap.get?_push_size _ rfl⟩ q
/-- for k, v in d.items() by turns -/
theorem for_itemsN {K : PySem.W.Frag} {w : World} {d : Addr} {o : Obj} {L : List (Pr × V)} {g : TG} {tb : TS} {D : Ends} {σ : L2.St} {H : Hp} (Pv : Nat → L2.St → Hp → Prop) (h0 : Pv 0 σ H) (hl : ∀ i σ H, i ≤ L.length → Pv i σ H → NF K w H d o L)
    (hs : ∀ i k v σ H T b, L[i]? = some (k, v) → Pv i σ H → H T = none → ProdAt K H b k → g (.ref T) σ (upd H T (.tup [.ref b, v])) fun σ2 H2 => tb { D with nx := Pv (i + 1), ct := Pv (i + 1), bk := D.nx } σ2 H2) (hd : ∀ σ H, Pv L.length σ H → D.nx σ H) :
    ∃ W : Nat → Nat → L2.St → Hp → Prop, (∃ m, W 0 m σ H) ∧ ∀ i m σ H, W i m σ H → ((ItN K w d o L).stop i H ∧ D.nx σ H) ∨ ((ItN K w d o L).go i H ∧ ∃ N : L2.St → Hp → Prop, (∀ σ' H', N σ' H' → ∃ m', m' < m ∧ W (i + 1) m' σ' H') ∧
      ∀ x H', (ItN K w d o L).yld i H x H' → g x σ H' fun σ2 H2 => tb { D with nx := N, ct := N, bk := D.nx } σ2 H2) := by
  refine ⟨fun i m σ H => m = L.length - i ∧ i ≤ L.length ∧ Pv i σ H, ⟨_, rfl, Nat.zero_le _, h0⟩, fun i m σ H ⟨em, hi, p⟩ => ?_⟩
  have F := hl i σ H hi p
  by_cases lt : i < L.length
  · refine .inr ⟨⟨F, lt⟩, Pv (i + 1), fun σ' H' p' => ⟨L.length - (i + 1), by omega, rfl, lt, p'⟩, fun x H' ⟨T, b, k, v, hL, ex, nT, hb, eH⟩ => ?_⟩
    subst ex
    subst eH
    exact hs i k v σ H T b hL p nT hb
  · have e : i = L.length := by omega
    subst e
    exact .inl ⟨⟨F, Nat.le_refl _⟩, hd σ H p⟩
/-! ### a dict comprehension whose keys are products -/
def setN (K : PySem.W.Frag) (w : World) (D : Addr) (y z : V) (H : Hp) (Nx : Hp → Prop) : Prop := ∃ L k b, y = .ref b ∧ ND K w H D L ∧ L.length < sizeLine ∧ ProdAt K H b k ∧ ∀ o, ND K w (upd H D o) D (putK L k z) → Nx (upd H D o)
theorem setN_run {X : Cx} {pins : List (Addr × Obj)} {σ : L2.St} {H : Hp} {s : Shared} {E : Value → Shared → Prop} {D : Addr} {y z : V} {u r : Value} {Nx : Hp → Prop} {Q : Unit → Shared → Prop} (hu : X.A.units + 64 < cLine) (I : Inv X pins σ H s) (ry : RelV y u) (rz : RelV z r)
    (st : setN X.K X.w D y z H Nx) (h : ∀ s' H', Inv X pins σ H' s' → Nx H' → Q () s') : wpAny (model X.prog X.w) X.A (dictSet D u r) Q E s := by
  obtain ⟨L, k, b, ey, ⟨xs, er, n⟩, hlt, hk, q⟩ := st
  subst ey
  obtain rfl : u = Value.ref b := ry
  have dd := n.dict I (.inl er)
  have room : (nestedKind X.prog X.w).room X.A := by
    show X.A.units + 8 < cLine
    omega
  refine PySem.wpAny_dictSet_heap (hsz := by rw [← Paired.length n.rel]; exact n.len) room (hk.nested I) dd fun h' dd' hs' => ?_
  have hl : (putK L k z).length ≤ sizeLine := by have := length_putK L k z; omega
  obtain ⟨I', n'⟩ := nd_write (t' := s.toks + (nestedKind X.prog X.w).draws (keyN k)) I er hl n (n.rel.put k hk rz) (nd_put k z n.nd) dd' hs'
  exact h _ _ I' (q _ n')
section
variable {X : Cx}
/-- {k: v for target in iter if ..}: D the new dict -/
def tDn (K : PySem.W.Frag) (w : World) (wi : TI) (g : TG) (tt : TT) (tk tv : TE) (vs : List Nat) : TE := fun σ H Q => wi σ H fun J H1 => ∀ D, H1 D = none → (D == sysModules) = false → ∃ W : Nat → Nat → Hp → Prop, (∃ m, W 0 m (upd H1 D (ndO w D []))) ∧ ∀ i m H, W i m H →
  (J.stop i H ∧ Q (.ref D) H) ∨ (J.go i H ∧ ∃ Nx : Hp → Prop, (∀ H', Nx H' → ∃ m', m' < m ∧ W (i + 1) m' H') ∧ ∀ x H', J.yld i H x H' → g x (wipe σ vs) H' fun σ2 H2 => wipe σ2 vs = wipe σ vs ∧ tt σ2 H2 fun b H3 =>
    if b = true then tk σ2 H3 fun y H4 => tv σ2 H4 fun z H5 => setN K w D y z H5 Nx else Nx H3)
theorem dn_core {pins : List (Addr × Obj)} {s : Shared} {σ : L2.St} {H : Hp} {Q : VK} {kx vx tg iter : Expr} {ifs : List Expr} {scope : Scope} {own : List (Str × Nat)} {pos pos' : Pos} {wi : TI} {g : TG} {tt : TT} {tk tv : TE} {use : Option (Value → Sem Unit)} {Qf : Value → Shared → Prop}
    (hu : X.A.units + 64 < cLine) (hc : X.calm = true) (hN : X.N.Nodup) (I : Inv X pins σ H s) (hi : PI X tg iter wi) (ok : BlkOk X.N X.env.scope scope own)
    (hg : ∀ (s : Shared) (H : Hp) (C : Addr) (cl : List (Str × Addr)) (fp : List Addr), PG (X.blk s H scope (compEnvC scope cl C X.env) fp) tg g) (ht : ∀ (s : Shared) (H : Hp) (C : Addr) (cl : List (Str × Addr)) (fp : List Addr), PTs (X.blk s H scope (compEnvC scope cl C X.env) fp) ifs tt) (hk : ∀ (s : Shared) (H : Hp) (C : Addr) (cl : List (Str × Addr)) (fp : List Addr), PE (X.blk s H scope (compEnvC scope cl C X.env) fp) kx tk) (he : ∀ (s : Shared) (H : Hp) (C : Addr) (cl : List (Str × Addr)) (fp : List Addr), PE (X.blk s H scope (compEnvC scope cl C X.env) fp) vx tv) (hs : ∀ x, foldedSetIterable iter X.env x = pure x)
    (h : tDn X.K X.w wi g tt tk tv (own.map (·.2)) σ H Q)
    (hRR : ∀ D C s' m H', Inv X pins σ H' s' → Q (.ref D) H' → s'.heap.Ns C m → FpOk X pins H' C → compPost (model X.prog X.w) X.A X.xe use Qf (.ref D) C (.ok .next) s') :
    wpAny (model X.prog X.w) X.A (comprehension (.DictComp kx vx [⟨tg, iter, ifs, 0⟩] scope pos) scope X.env pos' newDict false (eval iter X.env) use) Qf X.xe s := by
  have free : ∀ y ∈ scope.names, y.2 = .free → ∃ c, X.env.cells.lookup y.1 = some c := fun y hy e => (ok.free y hy e).elim (fun k => I.ok.has _ (.inl k)) (fun k => I.ok.has _ (.inr k))
  refine wpAny_comprehension_free (use := use) rfl hs (closure_ok free) ok.kind (fun y hy e => by rw [ok.uniq y hy, e]) (thn (hi.run pins s σ H _ I h) fun _ _ hx => thn hx fun _ s2 h2 => ?_)
  obtain ⟨it, fp, tn, J, H2, rfl, I2, T, st2, f2, q⟩ := h2
  refine wpAny_newObj_type (newEnv_comp ?_)
  -- the new dict, at D
  generalize hD : s2.heap.objs.size = D
  have nD : H2 D = none := I2.hok.fresh (Nat.le_of_eq hD)
  have sD : (D == sysModules) = false := by rw [← hD]; exact beq_eq_false_iff_ne.mpr (Ne.symm (Nat.ne_of_lt I2.big))
  obtain ⟨W, ⟨m0, w0⟩, turn⟩ := q D nD sD
  generalize hs3 : ({ s2 with heap := s2.heap.push { cls := .type "dict", data := .dict #[] } } : Shared) = s3
  have h3 : s3.heap = s2.heap.push { cls := .type "dict", data := .dict #[] } := by rw [← hs3]
  have I3 : Inv X pins σ (upd H2 D (ndO X.w D [])) s3 := by
    subst hs3
    refine I2.laid (t' := s2.toks) (fun b o e => Heap.get?_push_of_some _ e) (Nat.le_of_eq hD) (ndO_ok ⟨{ cls := .type "dict", data := .dict #[] }, #[], 0, ?_, ⟨rfl, rfl, rfl⟩, rfl, rfl⟩)
    rw [← hD]
    exact Heap.get?_push_size _ rfl
  have below : ∀ b ∈ fp, b < s2.heap.objs.size := fun b hb => let ⟨_, e, _⟩ := T.obj _ _ st2 b hb; Heap.lt_size e
  have f3 : ∀ b ∈ fp, FpOk X pins (upd H2 D (ndO X.w D [])) b ∧ b < s3.heap.objs.size := fun b hb => by
    refine ⟨⟨?_, (f2 b hb).2⟩, by rw [h3, Heap.size_push]; exact Nat.lt_succ_of_lt (below b hb)⟩
    rw [upd_ne (by rw [← hD]; exact Nat.ne_of_lt (below b hb))]
    exact (f2 b hb).1
  have st3 : tn 0 s3.heap := T.keep _ _ _ st2 fun b _ o e => by rw [h3]; exact Heap.get?_push_of_some _ e
  have I4 := block_start I3 ok hN f3
  have pg := hg s3 (upd H2 D (ndO X.w D [])) s3.heap.objs.size (cellsFrom (s3.heap.objs.size + 1) scope.names (cloFrom X.env.cells scope.names [])) fp
  have pt := ht s3 (upd H2 D (ndO X.w D [])) s3.heap.objs.size (cellsFrom (s3.heap.objs.size + 1) scope.names (cloFrom X.env.cells scope.names [])) fp
  have pk := hk s3 (upd H2 D (ndO X.w D [])) s3.heap.objs.size (cellsFrom (s3.heap.objs.size + 1) scope.names (cloFrom X.env.cells scope.names [])) fp
  have pe := he s3 (upd H2 D (ndO X.w D [])) s3.heap.objs.size (cellsFrom (s3.heap.objs.size + 1) scope.names (cloFrom X.env.cells scope.names [])) fp
  have nfp : ∀ b ∈ fp, (upd H2 D (ndO X.w D [])) b = none := fun b hb => (f3 b hb).1.1
  show codeAny _ _ (.compStart (.DictComp kx vx [⟨tg, iter, ifs, 0⟩] scope pos) 0 (.ref it) (.ref D) (compEnvC scope (cellsFrom (s3.heap.objs.size + 1) scope.names (cloFrom X.env.cells scope.names [])) s3.heap.objs.size X.env))
    (compPost (model X.prog X.w) X.A X.xe use Qf (.ref D) s3.heap.objs.size) { s3 with heap := pushCells (s3.heap.push { cls := .type "dict", data := .dict #[] }) scope.names }
  generalize hce : compEnvC scope (cellsFrom (s3.heap.objs.size + 1) scope.names (cloFrom X.env.cells scope.names [])) s3.heap.objs.size X.env = ce at I4 pg pt pk pe ⊢
  have cL : ce.locals = s3.heap.objs.size := by rw [← hce]; rfl
  generalize upd H2 D (ndO X.w D []) = H3 at I3 I4 pg pt pk pe w0 nfp f3
  generalize hs4 : ({ s3 with heap := pushCells (s3.heap.push { cls := .type "dict", data := .dict #[] }) scope.names } : Shared) = s4 at I4 ⊢
  have st4 : tn 0 s4.heap := T.keep _ _ _ st3 fun b _ o e => by rw [← hs4]; exact pushCells_keeps _ _ _ _ (Heap.get?_push_of_some _ e)
  have stat : ∀ {σ' : L2.St} {H' : Hp} {s' : Shared}, Inv (X.blk s3 H3 scope ce fp) [] σ' H' s' → (∀ b ∈ fp, H' b = none) → ∀ b ∈ fp, FpOk (X.blk s3 H3 scope ce fp) [] H' b := fun I' hn b hb =>
    ⟨hn b hb, (I'.ok.exf b hb).1, I'.ok.exfs b hb, .inl hb, fun x c e => (I'.ok.exf b hb).2 x c e, fun p hp => absurd (show p ∈ ([] : List (Addr × Obj)) ++ [] from hp) (by simp)⟩
  let Here : Nat → Shared → Prop := fun n s' => ∃ i H', Inv (X.blk s3 H3 scope ce fp) [] (wipe σ (own.map (·.2))) H' s' ∧ tn i s'.heap ∧ (∀ b ∈ fp, H' b = none) ∧ W i n H'
  have loop : codeAny (model X.prog X.w) X.A (.compLoop (.DictComp kx vx [⟨tg, iter, ifs, 0⟩] scope pos) 0 (.ref it) (.ref D) ce) (compPost (model X.prog X.w) X.A X.xe use Qf (.ref D) s3.heap.objs.size) s4 := by
    refine compLoop_anyD Here (fun n s5 hHere => ?_) m0 ⟨0, H3, I4, st4, nfp, w0⟩
    obtain ⟨i, H5, I5, st5, n5, w5⟩ := hHere
    rcases turn i n H5 w5 with ⟨stop, fine⟩ | ⟨go, Nx, hNx, step⟩
    · refine thnF (T.done (X.blk s3 H3 scope ce fp) rfl rfl rfl hc i [] s5 _ H5 (fun _ _ => False) I5 (stat I5 n5) st5 stop) fun r s6 ⟨hr, I6⟩ => ?_
      subst hr
      -- back in the def
      have I7 : Inv X pins σ H5 s6 := I3.call' (ch := fp) I6.os I6.base I6.hok I6.bare fun b hb => let z := (f3 b hb).1; ⟨z.2.2.2.1, z.2.1, z.2.2.2.2.1, z.2.2.2.2.2⟩
      have nC : H5 s3.heap.objs.size = none := cL ▸ (show H5 ce.locals = none from I6.free)
      obtain ⟨m, ns, _⟩ := I6.loc
      have ns : s6.heap.Ns s3.heap.objs.size m := cL ▸ (show s6.heap.Ns ce.locals m from ns)
      exact hRR D s3.heap.objs.size s6 m H5 I7 fine ns (I3.fpOk (Nat.le_refl _) nC)
    · refine thnF (T.item (X.blk s3 H3 scope ce fp) rfl rfl rfl hc i [] s5 _ H5 (fun _ _ => False) I5 (stat I5 n5) st5 go) fun r s6 ⟨u, hr, h6⟩ => ?_
      subst hr
      refine thnF h6 fun _ s7 ⟨x, H7, I7, r7, y7, st7, n7⟩ => ?_
      have I7p := I7.pinned (stat I7 n7) (T.obj _ _ st7)
      refine thnF (pg.run _ s7 _ H7 x u _ I7p r7 (step x H7 y7)) fun _ s8 ⟨σ8, H8, I8, hw8, q8⟩ => thnF (pt.run _ s8 σ8 H8 _ I8 q8) fun b s9 ⟨H9, I9, q9⟩ => ?_
      -- the turn's end
      have fin : ∀ {s' : Shared} {H' : Hp}, Inv (X.blk s3 H3 scope ce fp) ([] ++ pinsAt fp s7.heap) σ8 H' s' → Nx H' → ∃ m, m < n ∧ Here m s' := fun {s' H'} I' nx => by
        obtain ⟨m', hm, w'⟩ := hNx H' nx
        have pin' : ∀ b ∈ fp, ∀ o, s7.heap.get? b = some o → s'.heap.get? b = some o ∧ H' b = none := fun b hb o e =>
          let z := I'.pin (b, o) (List.mem_append_right _ (List.mem_append_right _ (mem_pinsAt hb e)))
          ⟨z.1, z.2.1⟩
        refine ⟨m', hm, i + 1, H', (I'.unpinned (pins := [])).weak (by rw [← hw8, wipe_length]) (fun j v e => ?_), T.keep _ _ _ st7 fun b hb o e => (pin' b hb o e).1, fun b hb => ?_, w'⟩
        · rw [← hw8] at e
          exact (wipe_some e).1
        · obtain ⟨o, e, _⟩ := T.obj _ _ st7 b hb
          exact (pin' b hb o e).2
      cases b with
      | false =>
        simp only [Bool.false_eq_true, if_false] at q9 ⊢
        exact fin I9 q9
      | true =>
        simp only [if_true] at q9 ⊢
        refine thnF (pk.run _ s9 σ8 H9 _ I9 q9) fun z s10 ⟨yk, H10, I10, r10, q10⟩ => thnF (pe.run _ s10 σ8 H10 _ I10 q10) fun z2 s11 ⟨yv, H11, I11, r11, put⟩ => ?_
        exact setN_run (X := X.blk s3 H3 scope ce fp) hu I11 r10 r11 put fun s12 H12 I12 nx => fin I12 nx
  exact codeAny_compStart_dict loop (T.self X.A 0 _ _ _ st4 loop)
theorem pe_dn {kx vx tg iter : Expr} {ifs : List Expr} {scope : Scope} {own : List (Str × Nat)} {pos : Pos} {wi : TI} {g : TG} {tt : TT} {tk tv : TE} (hu : X.A.units + 64 < cLine) (hc : X.calm = true) (hN : X.N.Nodup) (hi : PI X tg iter wi) (ok : BlkOk X.N X.env.scope scope own)
    (hg : ∀ (s : Shared) (H : Hp) (C : Addr) (cl : List (Str × Addr)) (fp : List Addr), PG (X.blk s H scope (compEnvC scope cl C X.env) fp) tg g) (ht : ∀ (s : Shared) (H : Hp) (C : Addr) (cl : List (Str × Addr)) (fp : List Addr), PTs (X.blk s H scope (compEnvC scope cl C X.env) fp) ifs tt) (hk : ∀ (s : Shared) (H : Hp) (C : Addr) (cl : List (Str × Addr)) (fp : List Addr), PE (X.blk s H scope (compEnvC scope cl C X.env) fp) kx tk) (he : ∀ (s : Shared) (H : Hp) (C : Addr) (cl : List (Str × Addr)) (fp : List Addr), PE (X.blk s H scope (compEnvC scope cl C X.env) fp) vx tv) (hs : ∀ x, foldedSetIterable iter X.env x = pure x := by intro _; rfl) :
    PE X (.DictComp kx vx [⟨tg, iter, ifs, 0⟩] scope pos) (tDn X.K X.w wi g tt tk tv (own.map (·.2))) := by
  refine ⟨fun pins s σ H Q I h => ?_⟩
  rw [arm_eval_DictComp]
  refine dn_core hu hc hN I hi ok hg ht hk he hs h fun D C s' m H' I' q hn ⟨f0, f1, f2, f3, f4, f5⟩ => ⟨m, hn, fun h'' sb => ?_⟩
  exact ⟨.ref D, H', I'.turned (t' := s'.toks) (fun b o hb e => (sb.2 b hb).trans e) f0 f1 f3 f4 f5, rfl, q⟩
/-- .. over the pairs of such a dict that is locked -/
theorem dn_items {K : PySem.W.Frag} {w : World} {d : Addr} {o : Obj} {L : List (Pr × V)} {g : TG} {tt : TT} {tk tv : TE} {vs : List Nat} {σ : L2.St} {H1 : Hp} {D : Addr} {Qd : Hp → Prop} (Pv : Nat → Hp → Prop) (h0 : Pv 0 (upd H1 D (ndO w D []))) (hl : ∀ i H, i ≤ L.length → Pv i H → NF K w H d o L)
    (hs : ∀ i k v H T b, L[i]? = some (k, v) → Pv i H → H T = none → ProdAt K H b k → g (.ref T) (wipe σ vs) (upd H T (.tup [.ref b, v])) fun σ2 H2 => wipe σ2 vs = wipe σ vs ∧ tt σ2 H2 fun b H3 =>
      if b = true then tk σ2 H3 fun y H4 => tv σ2 H4 fun z H5 => setN K w D y z H5 (Pv (i + 1)) else Pv (i + 1) H3) (hd : ∀ H, Pv L.length H → Qd H) :
    ∃ W : Nat → Nat → Hp → Prop, (∃ m, W 0 m (upd H1 D (ndO w D []))) ∧ ∀ i m H, W i m H → ((ItN K w d o L).stop i H ∧ Qd H) ∨ ((ItN K w d o L).go i H ∧ ∃ Nx : Hp → Prop, (∀ H', Nx H' → ∃ m', m' < m ∧ W (i + 1) m' H') ∧
      ∀ x H', (ItN K w d o L).yld i H x H' → g x (wipe σ vs) H' fun σ2 H2 => wipe σ2 vs = wipe σ vs ∧ tt σ2 H2 fun b H3 => if b = true then tk σ2 H3 fun y H4 => tv σ2 H4 fun z H5 => setN K w D y z H5 Nx else Nx H3) := by
  refine ⟨fun i m H => m = L.length - i ∧ i ≤ L.length ∧ Pv i H, ⟨_, rfl, Nat.zero_le _, h0⟩, fun i m H ⟨em, hi, p⟩ => ?_⟩
  have F := hl i H hi p
  by_cases lt : i < L.length
  · refine .inr ⟨⟨F, lt⟩, Pv (i + 1), fun H' p' => ⟨L.length - (i + 1), by omega, rfl, lt, p'⟩, fun x H' ⟨T, b, k, v, hL, ex, nT, hb, eH⟩ => ?_⟩
    subst ex
    subst eH
    exact hs i k v H T b hL p nT hb
  · have e : i = L.length := by omega
    subst e
    exact .inl ⟨⟨F, Nat.le_refl _⟩, hd H p⟩
end
theorem nodup_len {α : Type} [DecidableEq α] : ∀ {l m : List α}, l.Nodup → (∀ x ∈ l, x ∈ m) → l.length ≤ m.length
  | [], _, _, _ => Nat.zero_le _
  | x :: r, m, h, s => by
    obtain ⟨h1, h2⟩ := List.nodup_cons.mp h
    have hx : x ∈ m := s x (by simp)
    have ih := nodup_len (m := m.erase x) h2 fun y hy => (List.mem_erase_of_ne (fun e => h1 (by rw [← e]; exact hy))).mpr (s y (by simp [hy]))
    rw [List.length_erase_of_mem hx] at ih
    have := List.length_pos_of_mem hx
    rw [List.length_cons]
    omega
/-! ### sorted(d.items()), keys texts, values whole numbers -/
def slt (x y : Str) : Prop := x.cps.toList < y.cps.toList
instance (x y : Str) : Decidable (slt x y) := inferInstanceAs (Decidable (x.cps.toList < y.cps.toList))
theorem slt_irrefl (x : Str) : ¬ slt x x := List.lt_irrefl _
theorem slt_trans {x y z : Str} (h : slt x y) (g : slt y z) : slt x z := List.lt_trans h g
theorem slt_or {x y : Str} (h : ¬ slt x y) : slt y x ∨ x = y := by
  by_cases g : slt y x
  · exact .inl g
  · right
    have e : x.cps.toList = y.cps.toList := List.le_antisymm (List.not_lt.mp g) (List.not_lt.mp h)
    obtain ⟨⟨l⟩⟩ := x
    obtain ⟨⟨m⟩⟩ := y
    simp only at e
    rw [e]
/-- how many of the names stand ahead of x -/
def rankS (l : List Str) (x : Str) : Int := ((l.filter fun y => decide (slt y x)).length : Int)
theorem rankS_lt {l : List Str} {x y : Str} (hx : x ∈ l) (h : slt x y) : rankS l x < rankS l y := by
  unfold rankS
  have mono : ∀ m : List Str, (m.filter fun z => decide (slt z x)).length ≤ (m.filter fun z => decide (slt z y)).length ∧ (x ∈ m → (m.filter fun z => decide (slt z x)).length < (m.filter fun z => decide (slt z y)).length) := by
    intro m
    induction m with
    | nil => exact ⟨Nat.le_refl _, fun z => nomatch z⟩
    | cons a r ih =>
      rw [List.filter_cons, List.filter_cons]
      by_cases e : slt a x
      · rw [if_pos (by simpa using e), if_pos (by simpa using slt_trans e h), List.length_cons, List.length_cons]
        refine ⟨Nat.succ_le_succ ih.1, fun z => Nat.succ_lt_succ (ih.2 ?_)⟩
        rcases List.mem_cons.mp z with z | z
        · exact absurd (z ▸ e) (slt_irrefl x)
        · exact z
      · rw [if_neg (by simpa using e)]
        by_cases e2 : slt a y
        · rw [if_pos (by simpa using e2), List.length_cons]
          exact ⟨Nat.le_succ_of_le ih.1, fun _ => Nat.lt_succ_of_le ih.1⟩
        · rw [if_neg (by simpa using e2)]
          refine ⟨ih.1, fun z => ih.2 ?_⟩
          rcases List.mem_cons.mp z with z | z
          · exact absurd (z ▸ h) e2
          · exact z
  have := (mono l).2 hx
  omega
theorem rankS_iff {l : List Str} {x y : Str} (hx : x ∈ l) (hy : y ∈ l) : decide (slt x y) = decide (rankS l x < rankS l y) := by
  by_cases h : slt x y
  · rw [decide_eq_true h, decide_eq_true (rankS_lt hx h)]
  · rw [decide_eq_false h]
    rcases slt_or h with g | g
    · have := rankS_lt hy g
      rw [decide_eq_false (by omega)]
    · subst g
      rw [decide_eq_false (by omega)]
section
variable {prog : Program} {w : World} {A : Around} {E : Value → Shared → Prop} {s : Shared}
/-- v is the pair e -/
def PairV (h : Heap) (v : Value) (e : Str × Int) : Prop := ∃ (a : Addr) (t u : Tok), v = .ref a ∧ IsTup h a #[.str e.1 t, .int e.2 u]
def nameV (h : Heap) (v : Value) : Str := DT.txOf (DT.seqAt0 h (DT.refOf (some v)))
theorem PairV.name {h : Heap} {v : Value} {e : Str × Int} (p : PairV h v e) : nameV h v = e.1 := by
  obtain ⟨a, t, u, rfl, ha⟩ := p
  show DT.txOf (DT.seqAt0 h a) = e.1
  rw [DT.seqAt0_of ha]
  rfl
theorem pairs_firsts {h : Heap} : ∀ vs : List Value, (∀ v ∈ vs, ∃ e, PairV h v e) → ∃ fs : List Value, PySem.W.KatTups h vs fs ∧ fs.length = vs.length ∧ ∀ f ∈ fs, ∃ x t, f = Value.str x t
  | [], _ => ⟨[], PySem.W.KatTups.nil, rfl, fun f hf => nomatch hf⟩
  | v :: vs, p => by
    obtain ⟨fs, k, hl, hi⟩ := pairs_firsts vs fun u hu => p u (by simp [hu])
    obtain ⟨e, a, t, u, rfl, o, ho, hc, n, hd⟩ := p v (by simp)
    refine ⟨.str e.1 t :: fs, PySem.W.KatTups.cons ho hc hd rfl k, by simp [hl], fun f hf => ?_⟩
    rcases List.mem_cons.mp hf with z | z
    · exact ⟨_, _, z⟩
    · exact hi f z
theorem kind_pairs {vs : List Value} {l : List Str} (h2 : 2 ≤ vs.length) (p : ∀ v ∈ vs, ∃ e : Str × Int, PairV s.heap v e ∧ e.1 ∈ l) (inj : ∀ (v u : Value) (e f : Str × Int), v ∈ vs → u ∈ vs → PairV s.heap v e → PairV s.heap u f → e.1 = f.1 → e = f) (Q : PyProof.Rows.SortKind → Shared → Prop)
    (h : ∀ κ, TS.Cmp prog w A s κ (PyProof.Rows.pairsOf vs) (fun v => rankS l (nameV s.heap v)) → Q κ s) : wpAny (model prog w) A (PyProof.Rows.keyKind' vs.toArray) Q E s := by
  obtain ⟨fs, k, hl, hi⟩ := pairs_firsts vs fun v hv => let ⟨e, z, _⟩ := p v hv; ⟨e, z⟩
  refine PySem.W.kat_kind (T := Value.type "str") k (by omega) (fun f hf => ?_) rfl (h _ ?_)
  · obtain ⟨x, t, rfl⟩ := hi f hf
    exact .now
  · rw [show (Value.type "str" != Value.type "tuple") = true by decide]
    intro a b ha hb Q' E' hQ
    rw [PyProof.Rows.pairsOf_toList] at ha hb
    have ma := (mem_zip_self ha).2
    have mb := (mem_zip_self hb).2
    obtain ⟨e, pe, ie⟩ := p _ ma
    obtain ⟨f, pf, jf⟩ := p _ mb
    have hQ2 : Q' (decide (slt e.1 f.1)) s := by
      rw [rankS_iff ie jf, ← pe.name, ← pf.name]
      exact hQ
    have same := inj _ _ e f ma mb pe pf
    obtain ⟨x, t, u, e1, o, ho, hc, n, hd⟩ := pe
    obtain ⟨y, t', u', e2, o', ho', hc', n', hd'⟩ := pf
    rw [e1, e2]
    refine PySem.W.kat_lt ho hd ho' hd' ?_
    show PySem.W.KatLex prog w A true false Q' [(Value.str e.1 t, Value.str f.1 t'), (Value.int e.2 u, Value.int f.2 u')] 0 s
    refine PySem.W.kat_cons (wpAny_eqBool_str (PySem.W.kat_go (fun c => ?_) (fun c => ?_)))
    · have z := same (of_decide_eq_true c)
      subst z
      rw [decide_eq_false (slt_irrefl _)] at hQ2
      refine PySem.W.kat_yes (PySem.W.kat_cons (wpAny_eqBool_int (PySem.W.kat_go (fun _ => PySem.W.kat_yes (PySem.W.kat_nil hQ2)) (fun c => ?_))))
      simp at c
    · refine PySem.W.kat_no ?_
      show wpAny _ _ (PyProof.Rows.oneLt' true _ _) _ _ _
      exact PyProof.Rows.oneLt_str hQ2
end
/-! ### sorted(d.items()) of a dict from texts to whole numbers, by values -/
/-- a dict from texts to whole numbers -/
def dSI (L : List (Str × Int)) : List (L2.Key × V) := L.map fun e => (Sum.inr e.1, V.int e.2)
theorem dSI_pairs {P : Program} {w : World} : ∀ {L : List (Str × Int)} {es : List DictEntry} {vs : List (L2.Key × Value)}, KV (dSI L) vs → PySem.Pairs (mixKind P w) es vs → es.length = L.length ∧ ∀ (j : Nat) (e : DictEntry), es[j]? = some e → ∃ (x : Str × Int) (t u : Tok), L[j]? = some x ∧ e.key = .str x.1 t ∧ e.val = .int x.2 u
  | [], _, _, .nil, .nil => ⟨rfl, fun j e h => by simp at h⟩
  | x :: L, _, _, .cons (b := kv) h1 h2, .cons (e := en) k1 k2 k3 => by
    obtain ⟨l, ih⟩ := dSI_pairs h2 k3
    refine ⟨by simp [l], fun j e h => ?_⟩
    cases j with
    | zero =>
      simp only [List.getElem?_cons_zero, Option.some.injEq] at h
      subst h
      have e1 : (Sum.inr x.1 : L2.Key) = kv.1 := h1.1
      rw [← e1] at k1
      obtain ⟨u, hu⟩ : ∃ u, kv.2 = Value.int x.2 u := h1.2
      rcases keyIs_shape (k := (Sum.inr x.1 : L2.Key)) k1 with ⟨i, t, z, _⟩ | ⟨y, t, z, e2⟩
      · cases z
      · cases z
        exact ⟨x, t, u, rfl, e2, k2.trans hu⟩
    | succ j => exact ih j e (by simpa using h)
/-- the view d.items() -/
def rItemsK : V → List V → Hp → VK → Prop := fun x xs H Q => ∃ (a : Addr) (kvs : List (L2.Key × V)), x = .ref a ∧ xs = [] ∧ H a = some (.dK kvs) ∧ ∀ p, H p = none → Q (.ref p) (upd H p (DX.itemsO p a))
theorem mt_itemsK {X : Cx} : MtR X "dict.items" rItemsK := by
  intro pins s σ H x xs v us Q I rx rxs h
  obtain ⟨a, kvs, rfl, rfl, ha, q⟩ := h
  cases rx
  cases rxs
  obtain ⟨z, hd, xs', rel, o, es, ep, ho, hx, hdat, _⟩ := dk_of I.hok ha
  refine DT.callItems (es := es) (ep := ep) hd ⟨o, ho, hx, hdat⟩ ?_
  have hf : H s.heap.objs.size = none := I.hok.fresh (Nat.le_refl _)
  exact ⟨.ref s.heap.objs.size, upd H s.heap.objs.size (DX.itemsO s.heap.objs.size a), I.laid (t' := s.toks) (fun b u e => Heap.get?_push_of_some _ e) (Nat.le_refl _) (DX.itemsO_ok (Heap.get?_push_size _ rfl)), rfl, q _ hf⟩
def rSortK : List V → Hp → VK → Prop := fun vs H Q => ∃ (p a : Addr) (L : List (Str × Int)), vs = [.ref p] ∧ H p = some (DX.itemsO p a) ∧ H a = some (.dK (dSI L)) ∧ L.length < 64 ∧
  ∀ (H' : Hp) (l : Addr) (ps : List (Addr × Str × Int)), Same H H' → (ps.map (·.2)).Perm L → (ps.map (·.2)).Pairwise (fun e f => slt e.1 f.1) → H l = none → H' l = some (.lst (ps.map fun z => V.ref z.1)) →
    (∀ z ∈ ps, H' z.1 = some (.tup [.str z.2.1, .int z.2.2])) → Q (.ref l) H'
theorem cr_sortedK {X : Cx} (hc : X.calm = true) : CallR X (.builtin "sorted") rSortK := by
  intro pins s σ H xs us Q I r h
  obtain ⟨p, a, ks, rfl, hp, ha, h64, q⟩ := h
  obtain rfl := Vals.ref1 r
  have view : s.heap.IsItemsView p a := (show ObjOk X.prog X.w H s.heap p (DX.itemsO p a) from I.hok p _ hp).1
  obtain ⟨z, hd, vs, rel, o, es, ep, ho, hx, hdat, _, hes, hn⟩ := dk_of I.hok ha
  obtain ⟨l2, ent⟩ := dSI_pairs rel hes
  rw [Array.length_toList] at l2
  have ndK : (ks.map (·.1)).Nodup := by
    have e : vs.map (·.1) = ks.map fun e => (Sum.inr e.1 : L2.Key) := by
      rw [← KV.keys rel]
      show (ks.map _).map _ = _
      rw [List.map_map]
      rfl
    rw [e] at hn
    rw [List.nodup_iff_pairwise_ne, List.pairwise_map] at hn ⊢
    exact hn.imp fun {x y} h e => h (by rw [e])
  have hh : X.A.handled = none := I.ok.hd hc
  refine DT.sortedI (es := es) (ep := ep) hh view ⟨o, ho, hx, hdat⟩ (by rw [sizeLine_eq]; omega) fun h' tk as hk hlt hl hG => ?_
  have lak : as.length = ks.length := by omega
  have nd : as.Nodup := List.Pairwise.imp (fun h => Nat.ne_of_lt h) hG.rise
  have pr : ∀ (j : Nat) (b : Addr), as[j]? = some b → ∃ (e : Str × Int) (t u : Tok), ks[j]? = some e ∧ h'.get? b = some { cls := .type "tuple", data := .seq #[Value.str e.1 t, Value.int e.2 u] } := by
    intro j b hj
    obtain ⟨en, he, hg⟩ := hG.pairs j b hj
    rw [← Array.getElem?_toList] at he
    obtain ⟨x, t, u, hx, e1, e2⟩ := ent j en he
    exact ⟨x, t, u, hx, by rw [hg, e1, e2]⟩
  have hob : (h'.push { cls := .type "list", data := .seq (as.map Value.ref).toArray }).get? h'.objs.size = some (seqObj "list" (as.map Value.ref).toArray 0) := Heap.get?_push_size _ rfl
  have kb : ∀ b o, s.heap.get? b = some o → (h'.push { cls := .type "list", data := .seq (as.map Value.ref).toArray }).get? b = some o := fun b o e => Heap.get?_push_of_some _ (hk b o e)
  have ne0 : ∀ b o, h'.get? b = some o → b ≠ h'.objs.size := fun b o e => Nat.ne_of_lt (Heap.lt_size e)
  generalize hh2 : h'.push { cls := .type "list", data := .seq (as.map Value.ref).toArray } = h2 at hob kb ⊢
  have ka : ∀ b o, h'.get? b = some o → h2.get? b = some o := fun b o e => by rw [← hh2]; exact Heap.get?_push_of_some _ e
  have pin : ∀ (j : Nat) (b : Addr), as[j]? = some b → ∃ e : Str × Int, ks[j]? = some e ∧ PairV (TS.midHeap h2 h'.objs.size (as.map Value.ref)) (.ref b) e := by
    intro j b hj
    obtain ⟨e, t, u, he, hg⟩ := pr j b hj
    exact ⟨e, he, b, t, u, rfl, ⟨_, TS.midHeap_old (ne0 _ _ hg) (ka _ _ hg), rfl, 0, rfl⟩⟩
  have tx : ∀ (j : Nat) (b : Addr) (e : Str × Int), as[j]? = some b → ks[j]? = some e → nameV (TS.midHeap h2 h'.objs.size (as.map Value.ref)) (.ref b) = e.1 := by
    intro j b e hj he
    obtain ⟨e', he', hp'⟩ := pin j b hj
    have ee : e' = e := Option.some.inj (he'.symm.trans he)
    rw [← ee]
    exact hp'.name
  have at_ : ∀ v ∈ as.map Value.ref, ∃ (j : Nat) (b : Addr) (e : Str × Int), v = .ref b ∧ as[j]? = some b ∧ ks[j]? = some e := by
    intro v hv'
    obtain ⟨b, hb, rfl⟩ := List.mem_map.mp hv'
    obtain ⟨j, hj⟩ := List.mem_iff_getElem?.mp hb
    obtain ⟨e, _, _, he, _⟩ := pr j b hj
    exact ⟨j, b, e, rfl, hj, he⟩
  refine wpAny_call_entry PyProof.Rows.slot_list_sort ⟨_, hob, rfl⟩ PyProof.Rows.entry_list_sort
    (SK.plain_sort (s := { s with heap := h2, toks := tk }) (r := fun v => rankS (ks.map (·.1)) (nameV (TS.midHeap h2 h'.objs.size (as.map Value.ref)) v)) hob (by rw [List.length_map]; omega) (fun h2' Qk hQk => ?_) fun ps out o1 o2 o3 => ⟨.none, rfl, ?_⟩) (PyProof.Rows.args_list_sort _)
  · refine kind_pairs (s := { s with heap := TS.midHeap h2 h'.objs.size (as.map Value.ref), toks := tk }) (l := ks.map (·.1)) h2' (fun v hv' => ?_) (fun v u e f hv' hu' pe pf ef => ?_) Qk hQk
    · obtain ⟨j, b, e, rfl, hj, he⟩ := at_ v hv'
      obtain ⟨e', he', hp'⟩ := pin j b hj
      exact ⟨e', hp', List.mem_map.mpr ⟨_, List.mem_of_getElem? he', rfl⟩⟩
    · obtain ⟨j, b, e0, rfl, hj, he⟩ := at_ v hv'
      obtain ⟨j2, b2, f0, rfl, hj2, hf⟩ := at_ u hu'
      have a1 := tx j b e0 hj he
      have a2 := tx j2 b2 f0 hj2 hf
      rw [pe.name] at a1
      rw [pf.name] at a2
      have b1 : (ks.map (·.1))[j]? = some e0.1 := by rw [List.getElem?_map, he]; rfl
      have b2' : (ks.map (·.1))[j2]? = some e0.1 := by rw [List.getElem?_map, hf, ← a1, ef, a2]; rfl
      have ej : j = j2 := (List.getElem?_inj (List.getElem?_eq_some_iff.mp b1).1 ndK).mp (b1.trans b2'.symm)
      subst ej
      have eb : b = b2 := Option.some.inj (hj.symm.trans hj2)
      subst eb
      obtain ⟨c1, t1, u1, z1, o1, g1, _, n1, d1⟩ := pe
      obtain ⟨c2, t2, u2, z2, o2, g2, _, n2, d2⟩ := pf
      cases z1
      cases z2
      rw [g1] at g2
      cases g2
      rw [d1] at d2
      injection d2 with d3
      have d4 := congrArg Array.toList d3
      injection d4 with d5 d6
      injection d6 with d7
      injection d5 with d8
      injection d7 with d9
      exact Prod.ext d8 d9
  · show EP X pins σ Q (.ref h'.objs.size) { s with heap := sortedHeap h2 h'.objs.size (as.map Value.ref) out, toks := tk }
    obtain ⟨zs, pz, ez⟩ := perm_lift (fun z : Addr × Str × Int => (Value.ref z.1, Value.ref z.1)) o2 (as.zip ks) (DX.zip_self Value.ref as ks lak)
    have idx : ∀ z ∈ zs, ∃ j : Nat, as[j]? = some z.1 ∧ ks[j]? = some z.2 := by
      intro z' hz'
      obtain ⟨j, hj⟩ := List.mem_iff_getElem?.mp (pz.mem_iff.mp hz')
      exact ⟨j, List.getElem?_zip_eq_some.mp hj⟩
    have hout : out.toList = zs.map fun z => Value.ref z.1 := by
      rw [o1, ← ez, List.map_map]
      all_goals rfl
    have hperm : (zs.map (·.2)).Perm ks := by
      have e := pz.map (·.2)
      have m2 : (as.zip ks).map (·.2) = ks := List.map_snd_zip (by rw [lak]; exact Nat.le_refl _)
      rw [m2] at e
      exact e
    have ndz : ((zs.map (·.2)).map (·.1)).Nodup := (hperm.map (·.1)).nodup_iff.mpr ndK
    have hsort : (zs.map (·.2)).Pairwise (fun e f => slt e.1 f.1) := by
      rw [← ez, List.pairwise_map] at o3
      rw [List.map_map, List.nodup_iff_pairwise_ne, List.pairwise_map] at ndz
      rw [List.pairwise_map]
      refine List.Pairwise.imp_of_mem (fun {x y} hx hy h => ?_) (o3.and ndz)
      obtain ⟨j, j1, j2⟩ := idx x hx
      obtain ⟨i, i1, i2⟩ := idx y hy
      have h1 : rankS (ks.map (·.1)) (nameV (TS.midHeap h2 h'.objs.size (as.map Value.ref)) (.ref x.1)) ≤ rankS (ks.map (·.1)) (nameV (TS.midHeap h2 h'.objs.size (as.map Value.ref)) (.ref y.1)) := h.1
      rw [tx j _ _ j1 j2, tx i _ _ i1 i2] at h1
      have h3 : x.2.1 ≠ y.2.1 := h.2
      by_cases c : slt x.2.1 y.2.1
      · exact c
      · rcases slt_or c with g | g
        · have := rankS_lt (l := ks.map (·.1)) (List.mem_map.mpr ⟨_, List.mem_of_getElem? i2, rfl⟩) g
          omega
        · exact absurd g h3
    have kF : ∀ b o, b ≠ h'.objs.size → h2.get? b = some o → (sortedHeap h2 h'.objs.size (as.map Value.ref) out).get? b = some o := fun b o hb e => (PyProof.Rows.sortedHeap_old hb (Heap.lt_size e)).trans e
    have kS : ∀ b o, s.heap.get? b = some o → (sortedHeap h2 h'.objs.size (as.map Value.ref) out).get? b = some o := fun b o e => kF b o (ne0 _ _ (hk b o e)) (kb b o e)
    obtain ⟨eF, heF⟩ := PyProof.Rows.sortedHeap_at (vs := as.map Value.ref) (out := out) hob
    have I1 : Inv X pins σ H { s with heap := sortedHeap h2 h'.objs.size (as.map Value.ref) out, toks := tk } := I.kept (t' := tk) kS
    have hn0 : H h'.objs.size = none := I.hok.fresh (Nat.le_of_lt hlt)
    have hlen : (zs.map fun z => V.ref z.1).length ≤ sizeLine := by
      have e := hperm.length_eq
      rw [List.length_map] at e
      rw [List.length_map, sizeLine_eq]
      omega
    have rv : Vals (zs.map fun z => V.ref z.1) out.toList := by
      rw [hout]
      exact vals_maps (fun z : Addr × Str × Int => V.ref z.1) (fun z => Value.ref z.1) zs fun _ _ => rfl
    have I2 : Inv X pins σ (upd H h'.objs.size (.lst (zs.map fun z => V.ref z.1))) { s with heap := sortedHeap h2 h'.objs.size (as.map Value.ref) out, toks := tk } :=
      I1.take (h' := sortedHeap h2 h'.objs.size (as.map Value.ref) out) (t' := tk) (fun b ob _ e => e) (I.fpOk (Nat.le_of_lt hlt) hn0) ⟨hlen, out.toList, eF, rv, heF⟩
    obtain ⟨H2, I3, g, qt⟩ := DX.takeT (P := fun b vs => ∃ (j : Nat) (e : Str × Int), as[j]? = some b ∧ ks[j]? = some e ∧ vs = [.str e.1, .int e.2]) I as _ I2 nd fun b hb => by
      obtain ⟨j, hj⟩ := List.mem_iff_getElem?.mp hb
      obtain ⟨e, t, u, he, hg⟩ := pr j b hj
      have hbl : s.heap.objs.size ≤ b := Nat.le_of_lt (hG.above b hb)
      refine ⟨hbl, ?_, [.str e.1, .int e.2], ⟨j, e, hj, he, rfl⟩, fun H3 => ⟨(by rw [sizeLine_eq]; show 2 ≤ 16777216; omega), [Value.str e.1 t, Value.int e.2 u], .cons ⟨t, rfl⟩ (.cons ⟨u, rfl⟩ .nil), ⟨_, kF _ _ (ne0 _ _ hg) (ka _ _ hg), rfl, 0, rfl⟩⟩⟩
      rw [upd_ne (ne0 _ _ hg)]
      exact I.hok.fresh hbl
    have gr : ∀ b o, H b = some o → H2 b = some o := fun b o e => g b o (by rw [upd_ne (ne_of_none e hn0)]; exact e)
    refine ⟨.ref h'.objs.size, H2, I3, rfl, q H2 h'.objs.size zs gr hperm hsort hn0 (g _ _ upd_same) fun z' hz' => ?_⟩
    obtain ⟨i, i1, i2⟩ := idx z' hz'
    obtain ⟨vs, ⟨j, e, j1, j2, ev⟩, hH⟩ := qt z'.1 (List.mem_of_getElem? i1)
    have eij : i = j := (List.getElem?_inj (List.getElem?_eq_some_iff.mp i1).1 nd).mp (i1.trans j1.symm)
    subst eij
    have ee : e = z'.2 := Option.some.inj (j2.symm.trans i2)
    rw [ev, ee] at hH
    exact hH
theorem dSI_len (L : Pr) : (dSI L).length = L.length := List.length_map ..
theorem room1 {A : Around} {k : Nat} (hr : Room k A) : A.units + 1 < cLine := by
  have := hr.un
  omega
def Else (d : Addr) (H H' : Hp) : Prop := ∀ b o, H b = some o → b ≠ d → H' b = some o
theorem Else.tups {d : Addr} {H H' : Hp} {u : HO} (h : Else d H H') (e : H d = some u) (n : NotTup u) : TupsStay H H' := fun b xs q => by
  have nb : b ≠ d := fun z => by
    subst z
    rcases q with q | ⟨ob, q⟩
    · rw [e] at q
      cases q
      exact n
    · rw [e] at q
      cases q
      exact n
  rcases q with q | ⟨ob, q⟩
  · exact .inl (h _ _ q nb)
  · exact .inr ⟨ob, h _ _ q nb⟩
theorem Else.refl (d : Addr) (H : Hp) : Else d H H := fun _ _ e _ => e
theorem Else.trans {d : Addr} {H H1 H2 : Hp} (a : Else d H H1) (b : Else d H1 H2) : Else d H H2 := fun x o e n => b x o (a x o e n) n
theorem Else.same {d : Addr} {H H1 H2 : Hp} (a : Else d H H1) (b : Same H1 H2) : Else d H H2 := fun x o e n => b x o (a x o e n)
theorem Same.else {d : Addr} {H H1 : Hp} (a : Same H H1) : Else d H H1 := fun x o e _ => a x o e
theorem Else.upd {d : Addr} {H : Hp} {o : HO} : Else d H (upd H d o) := fun b o' e n => by rw [upd_ne n]; exact e
theorem Else.fresh {d : Addr} {H0 H H' : Hp} (n : H0 d = none) (a : Same H0 H) (b : Else d H H') : Same H0 H' := fun x o e => b x o (a x o e) (ne_of_none e n)
section
variable {X : Cx}
/-- y = {k: v for ..} on one row, y a local name, keys texts or numbers -/
theorem ps_setDc {i : Nat} {y : Str} {py : Pos} {kx vx tg iter : Expr} {ifs : List Expr} {scope : Scope} {own : List (Str × Nat)} {pos spos : Pos} {wi : TI} {g : TG} {tt : TT} {tk tv : TE} (hc : X.calm = true) (hN : X.N.Nodup)
    (hy : X.N[i]? = some y) (hyl : X.env.scope.names.lookup y = some .local) (hsw : swapsWith (.DictComp kx vx [⟨tg, iter, ifs, 0⟩] scope pos) (some (.Name y py)) spos.line X.env = pure true) (hi : PI X tg iter wi) (ok : BlkOk X.N X.env.scope scope own)
    (hg : ∀ (s : Shared) (H : Hp) (C : Addr) (cl : List (Str × Addr)) (fp : List Addr), PG (X.blk s H scope (compEnvC scope cl C X.env) fp) tg g) (ht : ∀ (s : Shared) (H : Hp) (C : Addr) (cl : List (Str × Addr)) (fp : List Addr), PTs (X.blk s H scope (compEnvC scope cl C X.env) fp) ifs tt)
    (hk : ∀ (s : Shared) (H : Hp) (C : Addr) (cl : List (Str × Addr)) (fp : List Addr), PE (X.blk s H scope (compEnvC scope cl C X.env) fp) kx tk) (he : ∀ (s : Shared) (H : Hp) (C : Addr) (cl : List (Str × Addr)) (fp : List Addr), PE (X.blk s H scope (compEnvC scope cl C X.env) fp) vx tv)
    (hs : ∀ x, foldedSetIterable iter X.env x = pure x := by intro _; rfl) : PS X (.Assign [.Name y py] (.DictComp kx vx [⟨tg, iter, ifs, 0⟩] scope pos) spos) (tAsg (tDc wi g tt tk tv (own.map (·.2))) (gName i)) := by
  refine ⟨fun pins s σ H D I h => ?_⟩
  rw [exec_Assign_Name_used _ _ _ _ hsw]
  refine wpAny_bind (wpAny_standAt (wpAny_bind ?_))
  show wpAny _ X.A (do let _ ← comprehension (.DictComp kx vx [⟨tg, iter, ifs, 0⟩] scope pos) scope X.env (firstIterPos [⟨tg, iter, ifs, 0⟩] pos) newDict false (eval iter X.env) (some (assign (.Name y py) X.env))) _ _ s
  have h' : tDc wi g tt tk tv (own.map (·.2)) σ H (fun x H1 => gName i x σ H1 D.nx) := h
  refine wpAny_bind (thn (dc_core (Qf := fun _ s' => SP X pins D .next s') hc hN I hi ok hg ht hk he hs h' fun L C s' m H' I' q hn ⟨f0, f1, f2, f3, f4, f5⟩ => ?_) fun _ s' hq => wpAny_pure (wpAny_pure hq))
  show wpAny _ _ (assign (.Name y py) X.env (.ref L)) _ _ _
  refine wpAny_assign_Name (store_ok2 (v := V.ref L) I' hN hy (.inl hyl) rfl (fun s2 I2 ⟨a, sb, ha⟩ => ⟨m, hn.sameBut sb ?_, fun h3 sb3 => ⟨_, H', I2.turned (t' := s2.toks) (fun b o hb e => (sb3.2 b hb).trans e) f0 f1 f3 f4 f5, q⟩⟩) (.inr hyl))
  rcases ha with z | z
  · rw [z]
    exact f1
  · exact fun e => f4 y a z e.symm
end
/-! ### products of names: canonical, joined -/
def expo : Pr → Str → Int
  | [], _ => 0
  | e :: r, x => (if e.1 = x then e.2 else 0) + expo r x
structure Canon (p : Pr) : Prop where
  up : p.Pairwise fun e f => slt e.1 f.1
  one : ∀ e ∈ p, 1 ≤ e.2
theorem Canon.nil : Canon [] := ⟨.nil, fun _ h => nomatch h⟩
theorem Canon.tail {e : Str × Int} {p : Pr} (h : Canon (e :: p)) : Canon p := ⟨(List.pairwise_cons.mp h.up).2, fun f hf => h.one f (by simp [hf])⟩
theorem Canon.nodup {p : Pr} (h : Canon p) : (p.map (·.1)).Nodup := by
  rw [List.nodup_iff_pairwise_ne, List.pairwise_map]
  exact h.up.imp fun {x y} g e => by rw [e] at g; exact slt_irrefl _ g
theorem expo_nonneg {p : Pr} (h : ∀ e ∈ p, 1 ≤ e.2) (x : Str) : 0 ≤ expo p x := by
  induction p with
  | nil => exact Int.le_refl _
  | cons e r ih =>
    have a := ih fun f hf => h f (by simp [hf])
    have b := h e (by simp)
    show 0 ≤ (if e.1 = x then e.2 else 0) + expo r x
    split <;> omega
theorem expo_zero {p : Pr} {x : Str} (h : ∀ e ∈ p, e.1 ≠ x) : expo p x = 0 := by
  induction p with
  | nil => rfl
  | cons e r ih =>
    show (if e.1 = x then e.2 else 0) + expo r x = 0
    rw [if_neg (h e (by simp)), ih fun f hf => h f (by simp [hf])]
    rfl
theorem expo_pos {p : Pr} (h : ∀ e ∈ p, 1 ≤ e.2) {x : Str} (hx : ∃ e ∈ p, e.1 = x) : 1 ≤ expo p x := by
  induction p with
  | nil =>
    obtain ⟨e, he, _⟩ := hx
    cases he
  | cons e r ih =>
    show 1 ≤ (if e.1 = x then e.2 else 0) + expo r x
    have a := expo_nonneg (p := r) (fun f hf => h f (by simp [hf])) x
    have b := h e (by simp)
    by_cases z : e.1 = x
    · rw [if_pos z]
      omega
    · obtain ⟨f, hf, ef⟩ := hx
      rcases List.mem_cons.mp hf with q | q
      · subst q
        exact absurd ef z
      · have := ih (fun f hf => h f (by simp [hf])) ⟨f, q, ef⟩
        rw [if_neg z]
        omega
theorem mem_of_expo {p : Pr} {x : Str} (h : expo p x ≠ 0) : ∃ e ∈ p, e.1 = x := by
  by_cases q : ∃ e ∈ p, e.1 = x
  · exact q
  · exact absurd (expo_zero fun e he z => q ⟨e, he, z⟩) h
theorem Canon.head {e : Str × Int} {p : Pr} (h : Canon (e :: p)) : expo (e :: p) e.1 = e.2 := by
  show (if e.1 = e.1 then e.2 else 0) + expo p e.1 = e.2
  rw [if_pos rfl, expo_zero fun f hf z => ?_]
  · omega
  · have := (List.pairwise_cons.mp h.up).1 f hf
    rw [z] at this
    exact slt_irrefl _ this
theorem Canon.low {e : Str × Int} {p : Pr} (h : Canon (e :: p)) {x : Str} (hx : slt x e.1) : expo (e :: p) x = 0 := by
  refine expo_zero fun f hf z => ?_
  rcases List.mem_cons.mp hf with q | q
  · subst q
    rw [z] at hx
    exact slt_irrefl _ hx
  · have := (List.pairwise_cons.mp h.up).1 f q
    rw [z] at this
    exact slt_irrefl _ (slt_trans hx this)
theorem canon_eq : ∀ {p q : Pr}, Canon p → Canon q → (∀ x, expo p x = expo q x) → p = q
  | [], [], _, _, _ => rfl
  | [], f :: q, _, hq, h => by
    have a := h f.1
    rw [hq.head] at a
    have b := hq.one f (by simp)
    have : expo [] f.1 = 0 := rfl
    omega
  | e :: p, [], hp, _, h => by
    have a := h e.1
    rw [hp.head] at a
    have b := hp.one e (by simp)
    have : expo [] e.1 = 0 := rfl
    omega
  | e :: p, f :: q, hp, hq, h => by
    have n1 : ¬ slt e.1 f.1 := fun z => by
      have a := h e.1
      rw [hp.head, hq.low z] at a
      have := hp.one e (by simp)
      omega
    have n2 : ¬ slt f.1 e.1 := fun z => by
      have a := h f.1
      rw [hq.head, hp.low z] at a
      have := hq.one f (by simp)
      omega
    have e1 : e.1 = f.1 := (slt_or n1).resolve_left n2
    have e2 : e.2 = f.2 := by
      have a := h e.1
      rw [hp.head, e1, hq.head] at a
      exact a
    have ef : e = f := Prod.ext e1 e2
    subst ef
    rw [canon_eq hp.tail hq.tail fun x => by
      have a : (if e.1 = x then e.2 else 0) + expo p x = (if e.1 = x then e.2 else 0) + expo q x := h x
      omega]
def insE (e : Str × Int) : Pr → Pr
  | [] => [e]
  | f :: r => if slt e.1 f.1 then e :: f :: r else if e.1 = f.1 then (f.1, f.2 + e.2) :: r else f :: insE e r
theorem expo_ins (e : Str × Int) (p : Pr) (x : Str) : expo (insE e p) x = (if e.1 = x then e.2 else 0) + expo p x := by
  induction p with
  | nil => rfl
  | cons f r ih =>
    unfold insE
    split
    · rfl
    · split
      · rename_i h
        show (if f.1 = x then f.2 + e.2 else 0) + expo r x = (if e.1 = x then e.2 else 0) + ((if f.1 = x then f.2 else 0) + expo r x)
        rw [h]
        split <;> omega
      · show (if f.1 = x then f.2 else 0) + expo (insE e r) x = (if e.1 = x then e.2 else 0) + ((if f.1 = x then f.2 else 0) + expo r x)
        rw [ih]
        omega
theorem ins_names {e : Str × Int} {p : Pr} {f : Str × Int} (h : f ∈ insE e p) : f.1 = e.1 ∨ ∃ g ∈ p, g.1 = f.1 := by
  induction p with
  | nil => exact .inl (by rw [show f = e by simpa [insE] using h])
  | cons g r ih =>
    unfold insE at h
    split at h
    · rcases List.mem_cons.mp h with z | z
      · exact .inl (by rw [z])
      · exact .inr ⟨f, z, rfl⟩
    · split at h
      · rename_i q
        rcases List.mem_cons.mp h with z | z
        · exact .inl (by rw [z]; exact q.symm)
        · exact .inr ⟨f, by simp [z], rfl⟩
      · rcases List.mem_cons.mp h with z | z
        · exact .inr ⟨f, by simp [z], rfl⟩
        · rcases ih z with y | ⟨t, ht, et⟩
          · exact .inl y
          · exact .inr ⟨t, by simp [ht], et⟩
theorem Canon.ins {e : Str × Int} {p : Pr} (he : 1 ≤ e.2) (h : Canon p) : Canon (insE e p) := by
  induction p with
  | nil => exact ⟨List.pairwise_singleton _ _, fun f hf => by rw [show f = e by simpa [insE] using hf]; exact he⟩
  | cons f r ih =>
    have hr := ih h.tail
    have hf := h.one f (by simp)
    have up := List.pairwise_cons.mp h.up
    unfold insE
    split
    · rename_i z
      refine ⟨List.pairwise_cons.mpr ⟨fun g hg => ?_, h.up⟩, fun g hg => ?_⟩
      · rcases List.mem_cons.mp hg with q | q
        · rw [q]; exact z
        · exact slt_trans z (up.1 g q)
      · rcases List.mem_cons.mp hg with q | q
        · rw [q]; exact he
        · exact h.one g q
    · split
      · refine ⟨List.pairwise_cons.mpr ⟨up.1, up.2⟩, fun g hg => ?_⟩
        rcases List.mem_cons.mp hg with q | q
        · rw [q]
          show 1 ≤ f.2 + e.2
          omega
        · exact h.one g (by simp [q])
      · rename_i n1 n2
        refine ⟨List.pairwise_cons.mpr ⟨fun g hg => ?_, hr.up⟩, fun g hg => ?_⟩
        · rcases ins_names hg with q | ⟨t, ht, et⟩
          · rw [q]
            rcases slt_or n1 with z | z
            · exact z
            · exact absurd z n2
          · rw [← et]
            exact up.1 t ht
        · rcases List.mem_cons.mp hg with q | q
          · rw [q]; exact hf
          · exact hr.one g q
/-- the product of two products -/
def joinP (p q : Pr) : Pr := p.foldr insE q
theorem expo_join (p q : Pr) (x : Str) : expo (joinP p q) x = expo p x + expo q x := by
  induction p with
  | nil =>
    show expo q x = 0 + expo q x
    omega
  | cons e r ih =>
    show expo (insE e (joinP r q)) x = (if e.1 = x then e.2 else 0) + expo r x + expo q x
    rw [expo_ins, ih]
    omega
theorem Canon.join {p q : Pr} (hp : ∀ e ∈ p, 1 ≤ e.2) (hq : Canon q) : Canon (joinP p q) := by
  induction p with
  | nil => exact hq
  | cons e r ih => exact (ih fun f hf => hp f (by simp [hf])).ins (hp e (by simp))
theorem join_names {p q : Pr} {f : Str × Int} (h : f ∈ joinP p q) : (∃ g ∈ p, g.1 = f.1) ∨ ∃ g ∈ q, g.1 = f.1 := by
  induction p generalizing f with
  | nil => exact .inr ⟨f, h, rfl⟩
  | cons e r ih =>
    rcases ins_names h with z | ⟨t, ht, et⟩
    · exact .inl ⟨e, by simp, z.symm⟩
    · rcases ih ht with ⟨g, hg, eg⟩ | ⟨g, hg, eg⟩
      · exact .inl ⟨g, by simp [hg], eg.trans et⟩
      · exact .inr ⟨g, hg, eg.trans et⟩
theorem join_comm {p q : Pr} (hp : Canon p) (hq : Canon q) : joinP p q = joinP q p := canon_eq (hq.join hp.one) (hp.join hq.one) fun x => by rw [expo_join, expo_join]; omega
theorem join_assoc {p q r : Pr} (hp : Canon p) (hq : Canon q) (hr : Canon r) : joinP (joinP p q) r = joinP p (joinP q r) := canon_eq (hr.join (hq.join hp.one).one) ((hr.join hq.one).join hp.one) fun x => by rw [expo_join, expo_join, expo_join, expo_join]; omega
theorem join_nil {p : Pr} (hp : Canon p) : joinP p [] = p := canon_eq (Canon.nil.join hp.one) hp fun x => by rw [expo_join]; show expo p x + 0 = _; omega
theorem nil_join (p : Pr) : joinP [] p = p := rfl
theorem expo_perm {p q : Pr} (h : p.Perm q) (x : Str) : expo p x = expo q x := by
  induction h with
  | nil => rfl
  | cons e _ ih =>
    show (if e.1 = x then e.2 else 0) + _ = (if e.1 = x then e.2 else 0) + _
    rw [ih]
  | swap e f r =>
    show (if f.1 = x then f.2 else 0) + ((if e.1 = x then e.2 else 0) + expo r x) = (if e.1 = x then e.2 else 0) + ((if f.1 = x then f.2 else 0) + expo r x)
    omega
  | trans _ _ a b => exact a.trans b
/-! ### dicts from names to powers, by turns -/
def putS (L : Pr) (x : Str) (v : Int) : Pr := if (L.any fun e => decide (e.1 = x)) = true then L.map (fun e => if e.1 = x then (e.1, v) else e) else L ++ [(x, v)]
theorem dSI_put (L : Pr) (x : Str) (v : Int) : putK (dSI L) (Sum.inr x) (.int v) = dSI (putS L x v) := by
  unfold putK putS dSI
  have e : ((L.map fun e => ((Sum.inr e.1 : L2.Key), V.int e.2)).any fun kv => decide (kv.1 = (Sum.inr x : L2.Key))) = L.any fun e => decide (e.1 = x) := by
    rw [List.any_map]
    congr 1
    funext a
    show decide ((Sum.inr a.1 : L2.Key) = Sum.inr x) = decide (a.1 = x)
    by_cases z : a.1 = x
    · simp [z]
    · simp [z]
  rw [e]
  by_cases c : (L.any fun e => decide (e.1 = x)) = true
  · rw [if_pos c, if_pos c, List.map_map, List.map_map]
    refine List.map_congr_left fun a _ => ?_
    show (if (Sum.inr a.1 : L2.Key) = Sum.inr x then ((Sum.inr a.1 : L2.Key), V.int v) else (Sum.inr a.1, V.int a.2)) = (Sum.inr (if a.1 = x then (a.1, v) else a).1, V.int (if a.1 = x then (a.1, v) else a).2)
    by_cases z : a.1 = x
    · rw [if_pos (by rw [z]), if_pos z]
    · rw [if_neg (by simpa using z), if_neg z]
  · rw [if_neg c, if_neg c, List.map_append]
    rfl
theorem valV_dSI {L : Pr} (hn : (L.map (·.1)).Nodup) (x : Str) : (valV (dSI L) (Sum.inr x)).getD (.int 0) = .int (expo L x) := by
  induction L with
  | nil => rfl
  | cons e r ih =>
    rw [List.map_cons] at hn
    obtain ⟨n1, n2⟩ := List.nodup_cons.mp hn
    have ih := ih n2
    unfold valV dSI at ih ⊢
    rw [List.map_cons, List.find?_cons]
    show _ = V.int ((if e.1 = x then e.2 else 0) + expo r x)
    by_cases z : e.1 = x
    · rw [if_pos z, expo_zero fun f hf q => n1 (by rw [z, ← q]; exact List.mem_map.mpr ⟨f, hf, rfl⟩)]
      simp [z]
    · rw [if_neg z]
      simp only [show decide ((Sum.inr e.1 : L2.Key) = Sum.inr x) = false by simpa using z, Int.zero_add]
      exact ih
theorem expo_append (p q : Pr) (x : Str) : expo (p ++ q) x = expo p x + expo q x := by
  induction p with
  | nil =>
    show expo q x = 0 + expo q x
    omega
  | cons e r ih =>
    show (if e.1 = x then e.2 else 0) + expo (r ++ q) x = (if e.1 = x then e.2 else 0) + expo r x + expo q x
    rw [ih]
    omega
theorem putS_keys (L : Pr) (x : Str) (v : Int) : ∀ e ∈ putS L x v, e = (x, v) ∨ e ∈ L := by
  intro e he
  unfold putS at he
  split at he
  · obtain ⟨f, hf, ef⟩ := List.mem_map.mp he
    by_cases z : f.1 = x
    · rw [if_pos z] at ef
      exact .inl (by rw [← ef, z])
    · rw [if_neg z] at ef
      exact .inr (by rw [← ef]; exact hf)
  · rcases List.mem_append.mp he with h | h
    · exact .inr h
    · exact .inl (by simpa using h)
theorem putS_nodup {L : Pr} (x : Str) (v : Int) (h : (L.map (·.1)).Nodup) : ((putS L x v).map (·.1)).Nodup := by
  unfold putS
  split
  · have e : (L.map fun e => if e.1 = x then (e.1, v) else e).map (·.1) = L.map (·.1) := by
      rw [List.map_map]
      refine List.map_congr_left fun e _ => ?_
      show (if e.1 = x then (e.1, v) else e).1 = e.1
      split <;> rfl
    rw [e]
    exact h
  · rename_i hn
    rw [List.map_append]
    refine List.nodup_append.mpr ⟨h, by simp, fun a ha b hb z => ?_⟩
    have eb : b = x := by simpa using hb
    subst z
    subst eb
    obtain ⟨e, he, ee⟩ := List.mem_map.mp ha
    exact hn (List.any_eq_true.mpr ⟨e, he, by simp [ee]⟩)
theorem putS_len (L : Pr) (x : Str) (v : Int) : (putS L x v).length ≤ L.length + 1 := by
  unfold putS
  split
  · rw [List.length_map]
    omega
  · rw [List.length_append]
    exact Nat.le_refl _
theorem expo_put {L : Pr} (hn : (L.map (·.1)).Nodup) (x : Str) (k : Int) (y : Str) : expo (putS L x (expo L x + k)) y = expo L y + (if x = y then k else 0) := by
  have gen : ∀ v, expo (putS L x v) y = expo L y + (if x = y then v - expo L x else 0) := by
    intro v
    unfold putS
    by_cases c : (L.any fun e => decide (e.1 = x)) = true
    · rw [if_pos c]
      obtain ⟨e0, he0, ee0⟩ := List.any_eq_true.mp c
      have ee1 : e0.1 = x := by simpa using ee0
      clear c ee0
      induction L with
      | nil => cases he0
      | cons e r ih =>
        rw [List.map_cons] at hn
        obtain ⟨n1, n2⟩ := List.nodup_cons.mp hn
        by_cases z : e.1 = x
        · have same : (r.map fun f => if f.1 = x then (f.1, v) else f) = r := by
            conv => rhs; rw [← List.map_id r]
            refine List.map_congr_left fun f hf => ?_
            rw [if_neg fun q => n1 (by rw [z, ← q]; exact List.mem_map.mpr ⟨f, hf, rfl⟩)]
            rfl
          have z0 : expo r x = 0 := expo_zero fun f hf q => n1 (by rw [z, ← q]; exact List.mem_map.mpr ⟨f, hf, rfl⟩)
          rw [List.map_cons, if_pos z, same]
          show (if e.1 = y then v else 0) + expo r y = (if e.1 = y then e.2 else 0) + expo r y + (if x = y then v - ((if e.1 = x then e.2 else 0) + expo r x) else 0)
          rw [if_pos z, z0, z]
          split <;> omega
        · rw [List.map_cons, if_neg z]
          rcases List.mem_cons.mp he0 with q | q
          · subst q
            exact absurd ee1 z
          · show (if e.1 = y then e.2 else 0) + _ = (if e.1 = y then e.2 else 0) + expo r y + (if x = y then v - ((if e.1 = x then e.2 else 0) + expo r x) else 0)
            rw [ih n2 q, if_neg z]
            split <;> split <;> omega
    · rw [if_neg c, expo_append]
      have z0 : expo L x = 0 := expo_zero fun f hf q => c (List.any_eq_true.mpr ⟨f, hf, by simp [q]⟩)
      rw [z0]
      show expo L y + ((if x = y then v else 0) + 0) = _
      split <;> omega
  rw [gen]
  split <;> omega
/-! ### the draws -/
/-- the three cells of the drawing: a seed, the list of what is left of the script, a place -/
structure HAt (H : Hp) (h c : Addr) (s k : Int) (cs : List Int) : Prop where
  h : H h = some (.lst [.int s, .ref c, .int k])
  c : H c = some (.lst (cs.map V.int))
  n : cs.length ≤ 63
theorem HAt.ne {H : Hp} {h c : Addr} {s k : Int} {cs : List Int} (D : HAt H h c s k cs) : h ≠ c := by
  refine ne_of D.h D.c (fun e => ?_)
  cases cs with
  | nil => cases e
  | cons x r =>
    cases r with
    | nil => cases e
    | cons y r => cases e
/-- all that was tracked is as it was, but for the drawing's two lists -/
def But (h c : Addr) (H H' : Hp) : Prop := ∀ b o, H b = some o → b ≠ h → b ≠ c → H' b = some o
theorem But.refl (h c : Addr) (H : Hp) : But h c H H := fun _ _ e _ _ => e
theorem But.trans {h c : Addr} {H H1 H2 : Hp} (a : But h c H H1) (b : But h c H1 H2) : But h c H H2 := fun x o e n1 n2 => b x o (a x o e n1 n2) n1 n2
theorem But.same {h c : Addr} {H H1 H2 : Hp} (a : But h c H H1) (b : Same H1 H2) : But h c H H2 := fun x o e n1 n2 => b x o (a x o e n1 n2)
theorem Same.but {h c : Addr} {H H1 : Hp} (a : Same H H1) : But h c H H1 := fun x o e _ _ => a x o e
theorem HAt.same {H H' : Hp} {h c : Addr} {s k : Int} {cs : List Int} (D : HAt H h c s k cs) (e : Same H H') : HAt H' h c s k cs := ⟨e _ _ D.h, e _ _ D.c, D.n⟩
def spNext : Sp := fun vs H Q _ => ∃ (h c : Addr) (s k m : Int) (cs : List Int), vs = [.ref h, .int m] ∧ 0 < m ∧ m < 1073741824 ∧ HAt H h c s k cs ∧
  ∀ (s' k' : Int) (cs' : List Int) (r : Int) (H' : Hp), 0 ≤ r → r < m → HAt H' h c s' k' cs' → But h c H H' → Q (.int r) H'
theorem fmod_lo {x m : Int} (h : 0 < m) : 0 ≤ x.fmod m := by
  rw [Int.fmod_eq_emod_of_nonneg _ (by omega)]
  exact Int.emod_nonneg _ (by omega)
theorem fmod_hi {x m : Int} (h : 0 < m) : x.fmod m < m := by
  rw [Int.fmod_eq_emod_of_nonneg _ (by omega)]
  exact Int.emod_lt_of_pos _ h
theorem max1 (n : Nat) : (if (n : Int) > 1 then (n : Int) else 1) = ((if n > 1 then n else 1 : Nat) : Int) := by
  split <;> split <;> omega
section
variable {P : Program} {w : World} {K : PySem.W.Frag} {mg : Str → Option Value} {base : Heap} {C : Addr}
theorem ok_law_next {f : Addr} {fd : FuncData} (T : Txt K mg C) (D : DefAt K mg "_law_next" "_law_next" s_law_next ["_law_h", "_law_many"] f fd) : FnOk P w K mg base CX0 1 f fd ["_law_h", "_law_many"] spNext := by
  refine D.F.ok sc_law_next (fun vs H Q E h => ?_) (fun cdv A outer s H vs Q E hr h => ?_)
  · obtain ⟨h, c, s, k, m, cs, rfl, _⟩ := h
    rfl
  · obtain ⟨h, c, z, k, m, cs, rfl, m0, m1, A1, q⟩ := h
    refine ⟨_, (pss_cons (ps_set (i := 2) sc_law_next.nd rfl (.inl rfl) (pe_op op_modN (pe_ix ix_list (pv 0) pe_int (fun _ _ => rfl)) (pe_callB (call_max2 rfl) (by rfl) T.m_max (by decide +kernel) (pa_cons pe_int (pa_cons (pe_callB call_len_seq (by rfl) T.m_len (by decide +kernel) (pa_cons (pe_ix ix_list (pv 0) pe_int (fun _ _ => rfl)) pa_nil)) pa_nil)))))
      (pss_cons (ps_set (i := 3) sc_law_next.nd rfl (.inl rfl) (pe_ifExp (pt_cmpR (op_neD hr.units) (pe_ix ix_list (pv 0) pe_int (fun _ _ => rfl)) (pe_lst pa_nil) (nomark _)) (pe_ix ix_list (pe_ix ix_list (pv 0) pe_int (fun _ _ => rfl)) (pv 2) (fun _ _ => rfl)) pe_int))
      (pss_cons (ps_if (pt_cmpR op_ge (pv 3) (pe_op op_pow pe_int pe_int) (nomark _)) (pss_cons (ps_asg (pe_op op_fdivN (pv 3) (pv 1)) (pg_sub (pe_ix ix_list (pv 0) pe_int (fun _ _ => rfl)) (pv 2) set_list)) (pss_one (ps_ret (pe_op op_modN (pv 3) (pv 1))))) pss_nil)
      (pss_cons (ps_asg (pe_op op_mod (pe_op op_add (pe_op op_add (pe_op op_mul (pe_ix ix_list (pv 0) pe_int (fun _ _ => rfl)) pe_int) (pe_op op_mul (pv 3) pe_int)) pe_int) pe_int) (pg_sub (pv 0) pe_int set_list))
      (pss_cons (ps_asg (pe_op op_add (pe_ix ix_list (pv 0) pe_int (fun _ _ => rfl)) pe_int) (pg_sub (pv 0) pe_int set_list))
      (pss_one (ps_ret (pe_op op_modN (pe_op op_fdiv (pe_ix ix_list (pv 0) pe_int (fun _ _ => rfl)) pe_int) (pv 1))))))))), ?_⟩
    have hne := A1.ne
    have lc : (cs.map V.int).length = cs.length := List.length_map _
    -- the place: h[2] % max(1, len(h[1]))
    refine ⟨_, rfl, h, _, _, _, rfl, rfl, SqL.of A1.h, atI_nat (j := 2) rfl, _, rfl, h, _, _, _, rfl, rfl, SqL.of A1.h, atI_nat (j := 1) rfl, c, _, rfl, .inl (SqL.of A1.c), _, _, rfl, _, _, rfl, rfl, ?_, ?_⟩
    · rw [lc, max1]
      split <;> omega
    rw [lc, max1]
    have hat : ∀ x : Int, cs ≠ [] → ∃ j : Nat, x.fmod ((if cs.length > 1 then cs.length else 1 : Nat) : Int) = (j : Int) ∧ j < cs.length := fun x e => by
      have l0 : 0 < cs.length := List.length_pos_iff.mpr e
      have e1 : (if cs.length > 1 then cs.length else 1) = cs.length := by split <;> omega
      rw [e1]
      have a := fmod_lo (x := x) (m := (cs.length : Int)) (by omega)
      have b := fmod_hi (x := x) (m := (cs.length : Int)) (by omega)
      exact ⟨(x.fmod cs.length).toNat, by omega, by omega⟩
    -- the cell
    refine ⟨_, rfl, h, _, _, _, rfl, rfl, SqL.of A1.h, atI_nat (j := 1) rfl, (by show 0 ≤ sizeLine; decide), fun l hl => ?_⟩
    have sl : Same H (upd H l (.lst [])) := same_upd hl
    have A2 := A1.same sl
    have fin : ∀ (s' k' : Int) (cs' : List Int) (r : Int) (H' : Hp), 0 ≤ r → r < m → HAt H' h c s' k' cs' → But h c (upd H l (.lst [])) H' → Q (.int r) H' := fun s' k' cs' r H' r0 r1 A' B' => q s' k' cs' r H' r0 r1 A' ((Same.but sl).trans B')
    refine ⟨_, _, Dp.lst (SqL.of A2.c) (dpInts cs), Dp.lst (SqL.of upd_same) DpAll.nil, shapedInts cs, by decide, _, rfl, ite2 (fun e => ?_) (fun e => ?_)⟩
    rotate_left
    · refine ⟨_, rfl, _, _, rfl, rfl, ⟨by decide, by decide, by decide⟩, _, _, rfl, rfl, _, rfl, ite2 (fun e => absurd (of_decide_eq_true e) (by decide +kernel)) (fun e => ?_)⟩
      refine ⟨_, rfl, h, _, _, _, rfl, rfl, SqL.of A2.h, atI_nat (j := 0) rfl, _, _, rfl, rfl, .inr ⟨by decide, by decide⟩, _, rfl, _, _, rfl, rfl, .inr ⟨by decide, by decide⟩, _, _, rfl, rfl, _, _, rfl, rfl, _, _, rfl, rfl, (by show (0 : Int) < 2147483647; decide), _, rfl, h, _, _, 0, rfl, rfl, A2.h, rfl,
        _, rfl, h, _, _, _, rfl, rfl, SqL.of upd_same, atI_nat (j := 2) rfl, _, _, rfl, rfl, _, rfl, h, _, _, 2, rfl, rfl, upd_same, rfl,
        _, rfl, h, _, _, _, rfl, rfl, SqL.of upd_same, atI_nat (j := 0) rfl, _, _, rfl, rfl, ⟨by decide, by decide⟩, _, rfl, _, _, rfl, rfl, by omega, ?_⟩
      exact fin _ _ cs _ _ (fmod_lo m0) (fmod_hi m0) ⟨upd_same, by rw [upd_ne hne.symm, upd_ne hne.symm]; exact A2.c, A1.n⟩ fun b o e nb nc => by rw [upd_ne nb, upd_ne nb]; exact e
    · have e0 : cs ≠ [] := fun z => by
        subst z
        simp [PyData.eqv, PyData.eqvAll] at e
      obtain ⟨j, ej, hj⟩ := hat k e0
      have gj : (cs.map V.int)[j]? = some (.int cs[j]) := by
        rw [List.getElem?_map, List.getElem?_eq_getElem hj]
        rfl
      refine ⟨_, rfl, h, _, _, _, rfl, rfl, SqL.of A2.h, atI_nat (j := 1) rfl, _, rfl, c, _, _, _, rfl, rfl, SqL.of A2.c, at_of ej gj, _, rfl, _, _, rfl, rfl, ⟨by decide, by decide, by decide⟩, _, _, rfl, rfl, _, rfl, ite2 (fun e => ?_) (fun e => ?_)⟩
      · -- h[1][at] = cell // many; return cell % many
        refine ⟨_, rfl, _, rfl, _, _, rfl, rfl, ⟨by omega, by omega⟩, _, rfl, h, _, _, _, rfl, rfl, SqL.of A2.h, atI_nat (j := 1) rfl, _, rfl, c, _, _, j, rfl, rfl, A2.c, by rw [ej]; exact ixNat (by rw [lc]; exact hj), _, rfl, _, rfl, _, _, rfl, rfl, by omega, ?_⟩
        exact fin z k (cs.set j (cs[j].fdiv m)) _ _ (fmod_lo m0) (fmod_hi m0) ⟨by rw [upd_ne hne]; exact A2.h, by rw [upd_same, List.map_set], by rw [List.length_set]; exact A1.n⟩ fun b o e nb nc => by rw [upd_ne nc]; exact e
      · refine ⟨_, rfl, h, _, _, _, rfl, rfl, SqL.of A2.h, atI_nat (j := 0) rfl, _, _, rfl, rfl, .inr ⟨by decide, by decide⟩, _, rfl, _, _, rfl, rfl, .inr ⟨by decide, by decide⟩, _, _, rfl, rfl, _, _, rfl, rfl, _, _, rfl, rfl, (by show (0 : Int) < 2147483647; decide), _, rfl, h, _, _, 0, rfl, rfl, A2.h, rfl,
          _, rfl, h, _, _, _, rfl, rfl, SqL.of upd_same, atI_nat (j := 2) rfl, _, _, rfl, rfl, _, rfl, h, _, _, 2, rfl, rfl, upd_same, rfl,
          _, rfl, h, _, _, _, rfl, rfl, SqL.of upd_same, atI_nat (j := 0) rfl, _, _, rfl, rfl, ⟨by decide, by decide⟩, _, rfl, _, _, rfl, rfl, by omega, ?_⟩
        exact fin _ _ cs _ _ (fmod_lo m0) (fmod_hi m0) ⟨upd_same, by rw [upd_ne hne.symm, upd_ne hne.symm]; exact A2.c, A1.n⟩ fun b o e nb nc => by rw [upd_ne nb, upd_ne nb]; exact e
end
theorem HAt.set {H : Hp} {h c l : Addr} {s k : Int} {cs : List Int} {o : HO} (D : HAt H h c s k cs) (nh : l ≠ h) (nc : l ≠ c) : HAt (upd H l o) h c s k cs := ⟨by rw [upd_ne nh.symm]; exact D.h, by rw [upd_ne nc.symm]; exact D.c, D.n⟩
/-! ### the names that are drawn -/
def SN (l : List Nat) : Str := ⟨l.toArray⟩
theorem SN_inj {a b : List Nat} (h : SN a = SN b) : a = b := by
  unfold SN at h
  injection h with h
  injection h
theorem SN_list (z : Str) : SN z.cps.toList = z := rfl
theorem SN_cps (l : List Nat) : (SN l).cps.toList = l := rfl
theorem SN_len (l : List Nat) : (SN l).length = l.length := by
  simp [SN, Str.length]
theorem SN_app (a b : List Nat) : SN a ++ SN b = SN (a ++ b) := by
  show (⟨a.toArray ++ b.toArray⟩ : Str) = _
  unfold SN
  simp
def abc : List Nat := ("abcdefghijklmnopqrstuvwxyz" : Str).cps.toList
theorem abc_at : ∀ j, j < 26 → abc[j]? = some (97 + j) := by decide +kernel
theorem abc_atI {i : Int} (h0 : 0 ≤ i) (h1 : i < 26) : atI abc i = some (97 + i.toNat) := by
  have e : i = ((i.toNat : Nat) : Int) := by omega
  have a := atI_nat (xs := abc) (j := i.toNat) (abc_at i.toNat (by omega))
  rw [← e] at a
  exact a
def letterC (c : Nat) : Prop := 97 ≤ c ∧ c < 123
theorem join_ones : ∀ cs : List Nat, Str.join (SN []) (cs.map fun c => SN [c]) = SN cs
  | [] => rfl
  | [c] => rfl
  | c :: d :: r => by
    show SN [c] ++ SN [] ++ Str.join (SN []) ((d :: r).map fun c => SN [c]) = _
    rw [join_ones (d :: r), SN_app, SN_app]
    rfl
theorem cutS_take (wd : List Nat) (e : Nat) : cutS (SN wd) none (some (e : Int)) = SN (wd.take e) := by
  unfold cutS
  have h0 : HT.sIx (SN wd).length 0 none = 0 := rfl
  have h1 : HT.sIx (SN wd).length (SN wd).length (some (e : Int)) = min e wd.length := by
    rw [SN_len]
    show (if (e : Int) < 0 then ((e : Int) + (wd.length : Int)).toNat else min (e : Int).toNat wd.length) = _
    rw [if_neg (by omega), Int.toNat_natCast]
  rw [h0, h1, SN_cps, List.drop_zero, Nat.sub_zero]
  show SN _ = SN _
  congr 1
  rw [List.take_eq_take_iff]
  omega
/-- the k-th letter of a turn -/
def lett (t k : Nat) : Nat := 97 + (t + 11 * k) % 26
theorem lett_ok (t k : Nat) : letterC (lett t k) := by
  unfold letterC lett
  omega
theorem lett_inj {t k l : Nat} (hk : k < 7) (hl : l < 7) (h : lett t k = lett t l) : k = l := by
  unfold lett at h
  omega
/-- what names are like -/
structure NamesOk (ns : List Str) : Prop where
  len : ns.length = 7
  nd : ns.Nodup
  ok : ∀ n ∈ ns, 1 ≤ n.length ∧ n.length ≤ 8 ∧ ∀ c ∈ n.cps.toList, letterC c
theorem names_of_fn {f : Nat → List Nat} (inj : ∀ k l, k < 7 → l < 7 → f k = f l → k = l) (ok : ∀ k, k < 7 → 1 ≤ (f k).length ∧ (f k).length ≤ 8 ∧ ∀ c ∈ f k, letterC c) : NamesOk ((List.range 7).map fun k => SN (f k)) where
  len := by simp
  nd := by
    rw [List.nodup_iff_pairwise_ne, List.pairwise_map]
    refine List.Pairwise.imp_of_mem (fun {a b} ha hb h e => h (inj a b (List.mem_range.mp ha) (List.mem_range.mp hb) (SN_inj e))) (List.nodup_iff_pairwise_ne.mp List.nodup_range)
  ok := by
    intro n hn
    obtain ⟨k, hk, e⟩ := List.mem_map.mp hn
    subst e
    rw [SN_len, SN_cps]
    exact ok k (List.mem_range.mp hk)
theorem names_front {t : Nat} {wd : List Nat} {es : Nat → Nat} (hw : wd.length ≤ 7) (hl : ∀ c ∈ wd, letterC c) : NamesOk ((List.range 7).map fun k => SN (lett t k :: wd.take (es k))) := by
  refine names_of_fn (fun k l hk hl' e => ?_) fun k hk => ⟨by simp, ?_, fun c hc => ?_⟩
  · injection e with e1 _
    exact lett_inj hk hl' e1
  · rw [List.length_cons, List.length_take]
    omega
  · rcases List.mem_cons.mp hc with z | z
    · rw [z]
      exact lett_ok t k
    · exact hl c (List.mem_of_mem_take z)
theorem names_back {t : Nat} {wd : List Nat} {es : Nat → Nat} (hw : wd.length ≤ 7) (hl : ∀ c ∈ wd, letterC c) : NamesOk ((List.range 7).map fun k => SN (wd.take (es k) ++ [lett t k])) := by
  refine names_of_fn (fun k l hk hl' e => ?_) fun k hk => ⟨by simp, ?_, fun c hc => ?_⟩
  · have a := congrArg List.getLast? e
    rw [List.getLast?_concat, List.getLast?_concat] at a
    exact lett_inj hk hl' (Option.some.inj a)
  · rw [List.length_append, List.length_take, List.length_singleton]
    omega
  · rcases List.mem_append.mp hc with z | z
    · exact hl c (List.mem_of_mem_take z)
    · rw [show c = lett t k by simpa using z]
      exact lett_ok t k
section
variable {P : Program} {w : World} {K : PySem.W.Frag} {mg : Str → Option Value} {base : Heap} {C : Addr}
theorem ix_listK {X : Cx} {K : PySem.W.Frag} (e : X.K = K) : IxR X (rIxL K) := by
  subst e
  exact ix_list
theorem But.upd {H H1 : Hp} {h c D : Addr} {o : HO} (B : But h c H H1) (nD : H D = none) : But h c H (upd H1 D o) := fun b u e n1 n2 => by
  rw [upd_ne (ne_of_none e nD)]
  exact B b u e n1 n2
def spNames (K : PySem.W.Frag) : Sp := fun vs H Q _ => ∃ (h c : Addr) (s k : Int) (cs : List Int), vs = [.ref h] ∧ HAt H h c s k cs ∧
  ∀ (s' k' : Int) (cs' : List Int) (ns : List Str) (l : Addr) (H' : Hp), NamesOk ns → HAt H' h c s' k' cs' → But h c H H' → H l = none → l ≠ h → l ≠ c → H' l = some (.lst (ns.map V.str)) → Q (.ref l) H'
theorem range_succ_map {α : Type} (f : Nat → α) (i : Nat) : (List.range (i + 1)).map f = (List.range i).map f ++ [f i] := by
  rw [List.range_succ, List.map_append]
  rfl
theorem ok_law_names {f : Addr} {fd : FuncData} (T : Txt K mg C) (F : DefAt K mg "_law_names" "_law_names" s_law_names ["_law_h"] f fd) : FnOk P w K mg base CX0 2 f fd ["_law_h"] (spNames K) := by
  obtain ⟨f1, fd1, D_law_next⟩ := T.d_law_next
  have G_law_next : FnOk P w K mg base CX0 1 f1 fd1 ["_law_h", "_law_many"] spNext := ok_law_next T D_law_next
  refine F.F.ok sc_law_names (fun vs H Q E h => ?_) (fun cdv A outer s H vs Q E hr h => ?_)
  · obtain ⟨h, c, s, k, cs, rfl, _⟩ := h
    rfl
  · obtain ⟨h, c, z, k, cs, rfl, A1, q⟩ := h
    refine ⟨_, (pss_cons (ps_set (i := 1) sc_law_names.nd rfl (.inr rfl) pe_str)
      (pss_cons (ps_set (i := 2) sc_law_names.nd rfl (.inr rfl) (pe_join pe_str (pe_lc (own := [("_law_k", 6)]) (g := gName 6) (tt := tYes) rfl sc_law_names.nd (pi_range1 rfl T.m_range (pa_cons (pe_call G_law_next (hr.mono (by decide)) (by rfl) D_law_next.g D_law_next.F.kp D_law_next.b .nil pass0 (pa_cons (pv 0) (pa_cons pe_int pa_nil))) pa_nil)) (blkOk_by (own := [("_law_k", 6)]) (N := ["_law_h", "_law_some", "_law_word", "_law_turn", "_law_letters", "_law_ends", "_law_k", "_law_letter"]) (sc := defScope s_law_names) (by decide +kernel)) (fun _ _ _ _ _ => pg_name (i := 6) sc_law_names.nd rfl (.inl rfl)) (fun _ _ _ _ _ => pts_nil) (fun _ _ _ _ _ => (pe_ix ix_str (pv 1) (pe_call G_law_next (hr.mono (by decide)) (by rfl) D_law_next.g D_law_next.F.kp D_law_next.b .nil pass0 (pa_cons (pv 0) (pa_cons pe_int pa_nil))) (fun _ _ => rfl))))))
      (pss_cons (ps_set (i := 3) sc_law_names.nd rfl (.inr rfl) (pe_call G_law_next (hr.mono (by decide)) (by rfl) D_law_next.g D_law_next.F.kp D_law_next.b .nil pass0 (pa_cons (pv 0) (pa_cons pe_int pa_nil))))
      (pss_cons (ps_set (i := 4) sc_law_names.nd rfl (.inr rfl) (pe_lc (own := [("_law_k", 6)]) (g := gName 6) (tt := tYes) rfl sc_law_names.nd (pi_range1 rfl T.m_range (pa_cons pe_int pa_nil)) (blkOk_by (own := [("_law_k", 6)]) (N := ["_law_h", "_law_some", "_law_word", "_law_turn", "_law_letters", "_law_ends", "_law_k", "_law_letter"]) (sc := defScope s_law_names) (by decide +kernel)) (fun _ _ _ _ _ => pg_name (i := 6) sc_law_names.nd rfl (.inl rfl)) (fun _ _ _ _ _ => pts_nil) (fun _ _ _ _ _ => (pe_ix ix_str (pv 1) (pe_op op_mod (pe_op op_add (pv 3) (pe_op op_mulW pe_int (pv 6))) pe_int) (fun _ _ => rfl)))))
      (pss_cons (ps_set (i := 5) sc_law_names.nd rfl (.inr rfl) (pe_op op_rep (pe_lst (pa_cons (pe_callB call_len_str (by rfl) T.m_len (by decide +kernel) (pa_cons (pv 2) pa_nil)) pa_nil)) pe_int))
      (pss_cons (ps_if (pt_cmpR op_eq (pe_call G_law_next (hr.mono (by decide)) (by rfl) D_law_next.g D_law_next.F.kp D_law_next.b .nil pass0 (pa_cons (pv 0) (pa_cons pe_int pa_nil))) pe_int (nomark _)) (pss_one (ps_set (i := 5) sc_law_names.nd rfl (.inr rfl) (pe_lc (own := [("_law_letter", 7)]) (g := gName 7) (tt := tYes) rfl sc_law_names.nd (pi_list (pv 4)) (blkOk_by (own := [("_law_letter", 7)]) (N := ["_law_h", "_law_some", "_law_word", "_law_turn", "_law_letters", "_law_ends", "_law_k", "_law_letter"]) (sc := defScope s_law_names) (by decide +kernel)) (fun _ _ _ _ _ => pg_name (i := 7) sc_law_names.nd rfl (.inl rfl)) (fun _ _ _ _ _ => pts_nil) (fun _ _ _ _ _ => (pe_call G_law_next (hr.mono (by decide)) (by rfl) D_law_next.g D_law_next.F.kp D_law_next.b .nil pass0 (pa_cons (pv 0) (pa_cons (pe_op op_add (pe_callB call_len_str (by rfl) T.m_len (by decide +kernel) (pa_cons (pv 2) pa_nil)) pe_int) pa_nil))))))) pss_nil)
      (pss_cons (ps_if (pt_cmpR op_eq (pe_call G_law_next (hr.mono (by decide)) (by rfl) D_law_next.g D_law_next.F.kp D_law_next.b .nil pass0 (pa_cons (pv 0) (pa_cons pe_int pa_nil))) pe_int (nomark _)) (pss_one (ps_ret (pe_lc (own := [("_law_k", 6)]) (g := gName 6) (tt := tYes) rfl sc_law_names.nd (pi_range1 rfl T.m_range (pa_cons pe_int pa_nil)) (blkOk_by (own := [("_law_k", 6)]) (N := ["_law_h", "_law_some", "_law_word", "_law_turn", "_law_letters", "_law_ends", "_law_k", "_law_letter"]) (sc := defScope s_law_names) (by decide +kernel)) (fun _ _ _ _ _ => pg_name (i := 6) sc_law_names.nd rfl (.inl rfl)) (fun _ _ _ _ _ => pts_nil) (fun _ _ _ _ _ => (pe_op op_add_str (pe_ix (ix_listK (K := K) rfl) (pv 4) (pv 6) (fun _ _ => rfl)) (pe_slice sl_str (pv 2) po_none (po_some (pe_ix (ix_listK (K := K) rfl) (pv 5) (pv 6) (fun _ _ => rfl))))))))) pss_nil)
      (pss_one (ps_ret (pe_lc (own := [("_law_k", 6)]) (g := gName 6) (tt := tYes) rfl sc_law_names.nd (pi_range1 rfl T.m_range (pa_cons pe_int pa_nil)) (blkOk_by (own := [("_law_k", 6)]) (N := ["_law_h", "_law_some", "_law_word", "_law_turn", "_law_letters", "_law_ends", "_law_k", "_law_letter"]) (sc := defScope s_law_names) (by decide +kernel)) (fun _ _ _ _ _ => pg_name (i := 6) sc_law_names.nd rfl (.inl rfl)) (fun _ _ _ _ _ => pts_nil) (fun _ _ _ _ _ => (pe_op op_add_str (pe_slice sl_str (pv 2) po_none (po_some (pe_ix (ix_listK (K := K) rfl) (pv 5) (pv 6) (fun _ _ => rfl)))) (pe_ix (ix_listK (K := K) rfl) (pv 4) (pv 6) (fun _ _ => rfl)))))))))))))), ?_⟩
    -- the word
    refine ⟨⟨_, rfl⟩, _, rfl, h, c, _, _, 8, _, rfl, by decide, by decide, A1, fun s1 k1 cs1 n H1 n0 n8 A2 B1 => ⟨n, rfl, by omega, by omega, fun D nD => ?_⟩⟩
    have dh : D ≠ h := (ne_of_none A2.h nD).symm
    have dc : D ≠ c := (ne_of_none A2.c nD).symm
    refine lc_range (lo := 0) (n := n.toNat) (fun i H3 => ∃ (s k : Int) (cs : List Int) (wd : List Nat), HAt H3 h c s k cs ∧ wd.length = i ∧ (∀ x ∈ wd, letterC x) ∧ H3 D = some (.lst ((wd.map fun x => SN [x]).map V.str)) ∧ But h c H1 H3) ⟨_, _, _, [], A2.same (same_upd nD), rfl, (fun _ z => nomatch z), upd_same, Same.but (same_upd nD)⟩ ?_ ?_
    · rintro i H3 hi ⟨s3, k3, cs3, wd, A3, hl, hw, hD, B3⟩
      refine ⟨rfl, _, rfl, _, rfl, h, c, _, _, 26, _, rfl, by decide, by decide, A3, fun s4 k4 cs4 p H4 p0 p1 A4 B4 => ?_⟩
      have D4 := B4 _ _ hD dh dc
      refine ⟨_, p, _, rfl, rfl, by decide +kernel, abc_atI p0 p1, _, D4, ?_, _, _, _, wd ++ [97 + p.toNat], A4.set dh dc, by rw [List.length_append, hl]; rfl, fun x hx => ?_, ?_, (B3.trans B4).upd nD⟩
      · rw [List.length_map, List.length_map, hl]
        exact small1000 (by omega)
      · rcases List.mem_append.mp hx with m | m
        · exact hw x m
        · rw [show x = 97 + p.toNat by simpa using m]
          unfold letterC
          omega
      · rw [upd_same, List.map_append, List.map_append]
        rfl
    · rintro H3 ⟨s3, k3, cs3, wd, A3, hl, hw, hD, B3⟩
      have wl : wd.length ≤ 7 := by omega
      have hsum : ((wd.map fun x => SN [x]).map (·.length)).sum ≤ 7 := by
        have e : ∀ l : List Nat, ((l.map fun x => SN [x]).map (·.length)).sum = l.length := fun l => by
          induction l with
          | nil => rfl
          | cons x r ih =>
            rw [List.map_cons, List.map_cons, List.sum_cons, ih, SN_len, List.length_cons]
            simp
            omega
        rw [e]
        exact wl
      refine ⟨_, D, wd.map fun x => SN [x], rfl, rfl, .inl (SqL.of hD), ?_, ?_⟩
      · rw [List.length_map]
        have : (("" : Str)).length = 0 := rfl
        rw [this]
        omega
      have ej : Txt.join ("" : Str) (wd.map fun x => SN [x]) = SN wd := (TL.join_eq _ _).trans (join_ones wd)
      rw [ej]
      have B13 := B1.trans B3
      have wz : (SN wd).length ≤ sizeLine := by rw [SN_len, sizeLine_eq]; omega
      -- the turn
      refine ⟨_, rfl, h, c, _, _, 26, _, rfl, by decide, by decide, A3, fun s4 k4 cs4 t H4 t0 t1 A4 B4 => ?_⟩
      -- the letters
      refine ⟨7, rfl, by decide, by decide, fun D2 nD2 => ?_⟩
      have dh2 : D2 ≠ h := (ne_of_none A4.h nD2).symm
      have dc2 : D2 ≠ c := (ne_of_none A4.c nD2).symm
      refine lc_range (lo := 0) (n := 7) (fun i H5 => H5 D2 = some (.lst (((List.range i).map fun k => SN [lett t.toNat k]).map V.str)) ∧ Same H4 H5) ⟨upd_same, same_upd nD2⟩ ?_ ?_
      · rintro i H5 hi ⟨e5, s5⟩
        have e1 : (t + 11 * (0 + (i : Int))).fmod 26 = (((t.toNat + 11 * i) % 26 : Nat) : Int) := by
          rw [Int.fmod_eq_emod_of_nonneg _ (by decide)]
          omega
        refine ⟨rfl, _, rfl, _, rfl, _, rfl, _, _, rfl, rfl, mulOk (a := 10) (b := 10) (by decide) (by omega) (by decide) (by decide) (by decide), _, _, rfl, rfl, _, _, rfl, rfl, (by show (0 : Int) < 26; decide), _, _, lett t.toNat i, rfl, rfl, by decide +kernel, ?_, _, e5, ?_, ?_, fun b u eb => ?_⟩
        · have a := abc_atI (i := (t + 11 * (0 + (i : Int))) % 26) (by omega) (by omega)
          have e : 97 + ((t + 11 * (0 + (i : Int))) % 26).toNat = lett t.toNat i := by
            unfold lett
            omega
          rw [e] at a
          exact a
        · rw [List.length_map, List.length_map, List.length_range]
          exact small1000 (by omega)
        · rw [upd_same, range_succ_map, List.map_append]
          rfl
        · rw [upd_ne (ne_of_none eb nD2)]
          exact s5 _ _ eb
      · rintro H5 ⟨e5, s5⟩
        -- the ends
        refine ⟨_, rfl, SN wd, rfl, wz, (by show 1 ≤ sizeLine; decide), fun a0 na0 => ⟨a0, 7, _, rfl, rfl, upd_same, by decide, by decide, (by show 1 * 7 ≤ sizeLine; decide), fun a na => ?_⟩⟩
        have A5 := A4.same s5
        have s56 : Same H5 (upd (upd H5 a0 (.lst [.int ((SN wd).length : Int)])) a (.lst (List.replicate (7 : Int).toNat [V.int ((SN wd).length : Int)]).flatten)) := (same_upd na0).trans (same_upd na)
        have ea : (upd (upd H5 a0 (.lst [.int ((SN wd).length : Int)])) a (.lst (List.replicate (7 : Int).toNat [V.int ((SN wd).length : Int)]).flatten)) a = some (.lst ((List.replicate 7 (wd.length : Int)).map V.int)) := by
          rw [upd_same, SN_len]
          rfl
        generalize (upd (upd H5 a0 (.lst [.int ((SN wd).length : Int)])) a (.lst (List.replicate (7 : Int).toNat [V.int ((SN wd).length : Int)]).flatten)) = H6 at s56 ea
        have e6 : H6 D2 = some (.lst (((List.range 7).map fun k => SN [lett t.toNat k]).map V.str)) := s56 _ _ e5
        have A6 := A5.same s56
        have na4 : H4 a = none := by
          cases e0 : H4 a with
          | none => rfl
          | some u =>
            have := (same_upd na0 : Same H5 (upd H5 a0 (.lst [.int ((SN wd).length : Int)]))) _ _ (s5 _ _ e0)
            rw [na] at this
            cases this
        have nah : a ≠ h := (ne_of_none A4.h na4).symm
        have nac : a ≠ c := (ne_of_none A4.c na4).symm
        have B16 : But h c H H6 := ((B13.trans B4).trans (Same.but s5)).trans (Same.but s56)
        refine ⟨_, rfl, h, c, _, _, 2, _, rfl, by decide, by decide, A6, fun s7 k7 cs7 b1 H7 b10 b12 A7 B7 => ?_⟩
        have B27 : But h c H H7 := B16.trans B7
        have keep7 := B7 _ _ e6 dh2 dc2
        have ea := B7 _ _ ea nah nac
        refine ⟨rfl, _, rfl, ite2 (fun e => ?_) (fun e => ?_)⟩
        · refine ⟨_, rfl, D2, rfl, ⟨_, SqL.of keep7⟩, fun D4 nD4 => ?_⟩
          have dh4 : D4 ≠ h := (ne_of_none A7.h nD4).symm
          have dc4 : D4 ≠ c := (ne_of_none A7.c nD4).symm
          have d24 : D2 ≠ D4 := ne_of_none keep7 nD4
          refine lc_list (fun i H9 => ∃ (s k : Int) (cs es : List Int), HAt H9 h c s k cs ∧ es.length = i ∧ (∀ e ∈ es, 0 ≤ e ∧ e ≤ (wd.length : Int)) ∧ H9 D4 = some (.lst (es.map V.int)) ∧ But h c H7 H9) ⟨_, _, _, [], A7.same (same_upd nD4), rfl, (fun _ z => nomatch z), upd_same, Same.but (same_upd nD4)⟩ (fun i H9 _ ⟨_, _, _, _, _, _, _, _, B⟩ => SqL.of (B _ _ keep7 dh2 dc2)) ?_ ?_
          · rintro i x H9 hx ⟨s9, k9, cs9, es, A9, hl9, he9, e9, B9⟩
            refine ⟨rfl, _, rfl, _, rfl, SN wd, rfl, wz, _, _, rfl, rfl, h, c, _, _, _, _, rfl, by rw [SN_len]; omega, by rw [SN_len]; omega, A9, fun s10 k10 cs10 p H10 p0 p1 A10 B10 => ?_⟩
            rw [SN_len] at p1
            have hi : i < 7 := by
              have := (List.getElem?_eq_some_iff.mp hx).1
              rw [List.length_map, List.length_map, List.length_range] at this
              exact this
            have D10 := B10 _ _ e9 dh4 dc4
            refine ⟨_, D10, ?_, _, _, _, es ++ [p], A10.set dh4 dc4, by rw [List.length_append, hl9]; rfl, fun e he => ?_, ?_, (B9.trans B10).upd nD4⟩
            · rw [List.length_map, hl9]
              exact small1000 (by omega)
            · rcases List.mem_append.mp he with m | m
              · exact he9 e m
              · rw [show e = p by simpa using m]
                omega
            · rw [upd_same, List.map_append]
              rfl
          · rintro H9 ⟨s9, k9, cs9, es, A9, hl9, hes, e9, B9⟩
            rw [List.length_map, List.length_map, List.length_range] at hl9
            have hel : es.length = 7 := hl9
            have keep7 := B9 _ _ keep7 dh2 dc2
            have B27 := B27.trans B9
            have A7 := A9
            clear A9 hl9 ea nah nac
            have ea := e9
            have nah := dh4
            have nac := dc4
            clear dh4 dc4 B9 e9
            revert ea nah nac nD4 d24
            generalize D4 = a
            intro nD4 d24 ea nah nac
            clear nD4 B7
            revert keep7 B27 A7 ea
            generalize H9 = H7
            intro keep7 B27 A7 ea
            have D2at : H7 D2 = some (.lst (((List.range 7).map fun k => SN [lett t.toNat k]).map V.str)) := keep7
            have ixL : ∀ i : Nat, i < 7 → atI (((List.range 7).map fun k => SN [lett t.toNat k]).map V.str) (0 + (i : Int)) = some (.str (SN [lett t.toNat i])) := fun i hi => at_of (j := i) (by omega) (by rw [List.getElem?_map, List.getElem?_map, List.getElem?_range hi]; rfl)
            have ixE : ∀ i : Nat, i < 7 → atI (es.map V.int) (0 + (i : Int)) = some (.int (((es.getD i 0).toNat : Nat) : Int)) := fun i hi => at_of (j := i) (by omega) (by
              have l : i < es.length := by omega
              have g : es.getD i 0 = es[i] := by rw [List.getD_eq_getElem?_getD, List.getElem?_eq_getElem l]; rfl
              rw [List.getElem?_map, List.getElem?_eq_getElem l, g]
              have := hes es[i] (List.getElem_mem l)
              show some (V.int es[i]) = some (V.int _)
              congr 2
              omega)
            refine ⟨_, rfl, h, c, _, _, 2, _, rfl, by decide, by decide, A7, fun s8 k8 cs8 b2 H8 b20 b22 A8 B8 => ?_⟩
            have B28 : But h c H H8 := B27.trans B8
            have D8 : H8 D2 = some (.lst (((List.range 7).map fun k => SN [lett t.toNat k]).map V.str)) := B8 _ _ D2at dh2 dc2
            have a8 : H8 a = some (.lst (es.map V.int)) := B8 _ _ ea nah nac
            refine ⟨rfl, _, rfl, ite2 (fun e => ?_) (fun e => ?_)⟩
            · refine ⟨7, rfl, by decide, by decide, fun D3 nD3 => ?_⟩
              have dh3 : D3 ≠ h := (ne_of_none A8.h nD3).symm
              have dc3 : D3 ≠ c := (ne_of_none A8.c nD3).symm
              refine lc_range (lo := 0) (n := 7) (fun i H9 => H9 D3 = some (.lst (((List.range i).map fun k => SN (lett t.toNat k :: wd.take (es.getD k 0).toNat)).map V.str)) ∧ Same H8 H9) ⟨upd_same, same_upd nD3⟩ ?_ ?_
              · rintro i H9 hi ⟨e9, s9⟩
                refine ⟨rfl, _, rfl, _, rfl, D2, _, _, _, rfl, rfl, SqL.of (s9 _ _ D8), ixL i hi, _, rfl, _, rfl, _, rfl, a, _, _, _, rfl, rfl, SqL.of (s9 _ _ a8), ixE i hi, _, rfl, SN wd, rfl, wz, ?_⟩
                rw [cutS_take]
                refine ⟨_, _, rfl, rfl, ?_, _, e9, ?_, ?_, fun b u eb => ?_⟩
                · rw [SN_len, SN_len, List.length_take, sizeLine_eq]
                  show 1 + _ ≤ _
                  omega
                · rw [List.length_map, List.length_map, List.length_range]
                  exact small1000 (by omega)
                · rw [upd_same, SN_app, range_succ_map, List.map_append]
                  rfl
                · rw [upd_ne (ne_of_none eb nD3)]
                  exact s9 _ _ eb
              · rintro H9 ⟨e9, s9⟩
                exact q _ _ _ _ D3 H9 (names_front wl hw) (A8.same s9) (B28.trans (Same.but s9)) (by
                  cases e0 : H D3 with
                  | none => rfl
                  | some u =>
                    have := B28 _ _ e0 dh3 dc3
                    rw [nD3] at this
                    cases this) dh3 dc3 e9
            · refine ⟨7, rfl, by decide, by decide, fun D3 nD3 => ?_⟩
              have dh3 : D3 ≠ h := (ne_of_none A8.h nD3).symm
              have dc3 : D3 ≠ c := (ne_of_none A8.c nD3).symm
              refine lc_range (lo := 0) (n := 7) (fun i H9 => H9 D3 = some (.lst (((List.range i).map fun k => SN (wd.take (es.getD k 0).toNat ++ [lett t.toNat k])).map V.str)) ∧ Same H8 H9) ⟨upd_same, same_upd nD3⟩ ?_ ?_
              · rintro i H9 hi ⟨e9, s9⟩
                refine ⟨rfl, _, rfl, _, rfl, _, rfl, a, _, _, _, rfl, rfl, SqL.of (s9 _ _ a8), ixE i hi, _, rfl, SN wd, rfl, wz, ?_⟩
                rw [cutS_take]
                refine ⟨_, rfl, _, rfl, D2, _, _, _, rfl, rfl, SqL.of (s9 _ _ D8), ixL i hi, _, _, rfl, rfl, ?_, _, e9, ?_, ?_, fun b u eb => ?_⟩
                · rw [SN_len, SN_len, List.length_take, sizeLine_eq]
                  show _ + 1 ≤ _
                  omega
                · rw [List.length_map, List.length_map, List.length_range]
                  exact small1000 (by omega)
                · rw [upd_same, SN_app, range_succ_map, List.map_append]
                  rfl
                · rw [upd_ne (ne_of_none eb nD3)]
                  exact s9 _ _ eb
              · rintro H9 ⟨e9, s9⟩
                exact q _ _ _ _ D3 H9 (names_back wl hw) (A8.same s9) (B28.trans (Same.but s9)) (by
                  cases e0 : H D3 with
                  | none => rfl
                  | some u =>
                    have := B28 _ _ e0 dh3 dc3
                    rw [nD3] at this
                    cases this) dh3 dc3 e9
        · have hel : (List.replicate 7 (wd.length : Int)).length = 7 := List.length_replicate
          have hes : ∀ e ∈ List.replicate 7 (wd.length : Int), 0 ≤ e ∧ e ≤ (wd.length : Int) := fun e he => by
            rw [(List.mem_replicate.mp he).2]
            omega
          revert hel hes ea
          generalize List.replicate 7 (wd.length : Int) = es
          intro ea hel hes
          have D2at : H7 D2 = some (.lst (((List.range 7).map fun k => SN [lett t.toNat k]).map V.str)) := keep7
          have ixL : ∀ i : Nat, i < 7 → atI (((List.range 7).map fun k => SN [lett t.toNat k]).map V.str) (0 + (i : Int)) = some (.str (SN [lett t.toNat i])) := fun i hi => at_of (j := i) (by omega) (by rw [List.getElem?_map, List.getElem?_map, List.getElem?_range hi]; rfl)
          have ixE : ∀ i : Nat, i < 7 → atI (es.map V.int) (0 + (i : Int)) = some (.int (((es.getD i 0).toNat : Nat) : Int)) := fun i hi => at_of (j := i) (by omega) (by
            have l : i < es.length := by omega
            have g : es.getD i 0 = es[i] := by rw [List.getD_eq_getElem?_getD, List.getElem?_eq_getElem l]; rfl
            rw [List.getElem?_map, List.getElem?_eq_getElem l, g]
            have := hes es[i] (List.getElem_mem l)
            show some (V.int es[i]) = some (V.int _)
            congr 2
            omega)
          refine ⟨_, rfl, h, c, _, _, 2, _, rfl, by decide, by decide, A7, fun s8 k8 cs8 b2 H8 b20 b22 A8 B8 => ?_⟩
          have B28 : But h c H H8 := B27.trans B8
          have D8 : H8 D2 = some (.lst (((List.range 7).map fun k => SN [lett t.toNat k]).map V.str)) := B8 _ _ D2at dh2 dc2
          have a8 : H8 a = some (.lst (es.map V.int)) := B8 _ _ ea nah nac
          refine ⟨rfl, _, rfl, ite2 (fun e => ?_) (fun e => ?_)⟩
          · refine ⟨7, rfl, by decide, by decide, fun D3 nD3 => ?_⟩
            have dh3 : D3 ≠ h := (ne_of_none A8.h nD3).symm
            have dc3 : D3 ≠ c := (ne_of_none A8.c nD3).symm
            refine lc_range (lo := 0) (n := 7) (fun i H9 => H9 D3 = some (.lst (((List.range i).map fun k => SN (lett t.toNat k :: wd.take (es.getD k 0).toNat)).map V.str)) ∧ Same H8 H9) ⟨upd_same, same_upd nD3⟩ ?_ ?_
            · rintro i H9 hi ⟨e9, s9⟩
              refine ⟨rfl, _, rfl, _, rfl, D2, _, _, _, rfl, rfl, SqL.of (s9 _ _ D8), ixL i hi, _, rfl, _, rfl, _, rfl, a, _, _, _, rfl, rfl, SqL.of (s9 _ _ a8), ixE i hi, _, rfl, SN wd, rfl, wz, ?_⟩
              rw [cutS_take]
              refine ⟨_, _, rfl, rfl, ?_, _, e9, ?_, ?_, fun b u eb => ?_⟩
              · rw [SN_len, SN_len, List.length_take, sizeLine_eq]
                show 1 + _ ≤ _
                omega
              · rw [List.length_map, List.length_map, List.length_range]
                exact small1000 (by omega)
              · rw [upd_same, SN_app, range_succ_map, List.map_append]
                rfl
              · rw [upd_ne (ne_of_none eb nD3)]
                exact s9 _ _ eb
            · rintro H9 ⟨e9, s9⟩
              exact q _ _ _ _ D3 H9 (names_front wl hw) (A8.same s9) (B28.trans (Same.but s9)) (by
                cases e0 : H D3 with
                | none => rfl
                | some u =>
                  have := B28 _ _ e0 dh3 dc3
                  rw [nD3] at this
                  cases this) dh3 dc3 e9
          · refine ⟨7, rfl, by decide, by decide, fun D3 nD3 => ?_⟩
            have dh3 : D3 ≠ h := (ne_of_none A8.h nD3).symm
            have dc3 : D3 ≠ c := (ne_of_none A8.c nD3).symm
            refine lc_range (lo := 0) (n := 7) (fun i H9 => H9 D3 = some (.lst (((List.range i).map fun k => SN (wd.take (es.getD k 0).toNat ++ [lett t.toNat k])).map V.str)) ∧ Same H8 H9) ⟨upd_same, same_upd nD3⟩ ?_ ?_
            · rintro i H9 hi ⟨e9, s9⟩
              refine ⟨rfl, _, rfl, _, rfl, _, rfl, a, _, _, _, rfl, rfl, SqL.of (s9 _ _ a8), ixE i hi, _, rfl, SN wd, rfl, wz, ?_⟩
              rw [cutS_take]
              refine ⟨_, rfl, _, rfl, D2, _, _, _, rfl, rfl, SqL.of (s9 _ _ D8), ixL i hi, _, _, rfl, rfl, ?_, _, e9, ?_, ?_, fun b u eb => ?_⟩
              · rw [SN_len, SN_len, List.length_take, sizeLine_eq]
                show _ + 1 ≤ _
                omega
              · rw [List.length_map, List.length_map, List.length_range]
                exact small1000 (by omega)
              · rw [upd_same, SN_app, range_succ_map, List.map_append]
                rfl
              · rw [upd_ne (ne_of_none eb nD3)]
                exact s9 _ _ eb
            · rintro H9 ⟨e9, s9⟩
              exact q _ _ _ _ D3 H9 (names_back wl hw) (A8.same s9) (B28.trans (Same.but s9)) (by
                cases e0 : H D3 with
                | none => rfl
                | some u =>
                  have := B28 _ _ e0 dh3 dc3
                  rw [nD3] at this
                  cases this) dh3 dc3 e9
end
/-! ### programs -/
inductive Ex where | num (n : Int) | name (x : Str) | add (a b : Ex) | mul (a b : Ex)
def ExAt (K : PySem.W.Frag) (H : Hp) (p : Addr) : Ex → Prop
  | .num n => SqT K H p [.str "num", .int n]
  | .name x => SqT K H p [.str "name", .str x]
  | .add a b => ∃ q r : Addr, SqT K H p [.str "add", .ref q, .ref r] ∧ ExAt K H q a ∧ ExAt K H r b
  | .mul a b => ∃ q r : Addr, SqT K H p [.str "times", .ref q, .ref r] ∧ ExAt K H q a ∧ ExAt K H r b
theorem ExAt.stay {K : PySem.W.Frag} {H H' : Hp} (s : TupsStay H H') : ∀ {t : Ex} {p : Addr}, ExAt K H p t → ExAt K H' p t
  | .num _, _, h => SqT.keeps h s
  | .name _, _, h => SqT.keeps h s
  | .add _ _, _, ⟨q, r, h, a, b⟩ => ⟨q, r, SqT.keeps h s, ExAt.stay s a, ExAt.stay s b⟩
  | .mul _ _, _, ⟨q, r, h, a, b⟩ => ⟨q, r, SqT.keeps h s, ExAt.stay s a, ExAt.stay s b⟩
def ExOk (ns : List Str) : Nat → Ex → Prop
  | _, .num n => 0 ≤ n ∧ n < 1000
  | _, .name x => x ∈ ns
  | 0, .add _ _ => False
  | 0, .mul _ _ => False
  | d + 1, .add a b => ExOk ns d a ∧ ExOk ns d b
  | d + 1, .mul a b => ExOk ns d a ∧ ExOk ns d b
theorem ExOk.num {ns : List Str} {n : Int} (h : 0 ≤ n ∧ n < 1000) : ∀ d, ExOk ns d (.num n)
  | 0 => h
  | _ + 1 => h
theorem ExOk.name {ns : List Str} {x : Str} (h : x ∈ ns) : ∀ d, ExOk ns d (.name x)
  | 0 => h
  | _ + 1 => h
theorem ExOk.of_num {ns : List Str} {n : Int} : ∀ {d : Nat}, ExOk ns d (.num n) → 0 ≤ n ∧ n < 1000
  | 0, h => h
  | _ + 1, h => h
theorem ExOk.of_name {ns : List Str} {x : Str} : ∀ {d : Nat}, ExOk ns d (.name x) → x ∈ ns
  | 0, h => h
  | _ + 1, h => h
theorem ExOk.up {ns : List Str} : ∀ {t : Ex} {d : Nat}, ExOk ns d t → ExOk ns (d + 1) t
  | .num _, _, h => ExOk.num h.of_num _
  | .name _, _, h => ExOk.name h.of_name _
  | .add _ _, 0, h => False.elim h
  | .mul _ _, 0, h => False.elim h
  | .add _ _, _ + 1, ⟨a, b⟩ => ⟨a.up, b.up⟩
  | .mul _ _, _ + 1, ⟨a, b⟩ => ⟨a.up, b.up⟩
theorem ExOk.ups {ns : List Str} {t : Ex} {d k : Nat} (h : ExOk ns d t) (l : d ≤ k) : ExOk ns k t := by
  induction l with
  | refl => exact h
  | step _ ih => exact ih.up
theorem ExOk.sub {ns ms : List Str} (s : ∀ x ∈ ns, x ∈ ms) : ∀ {t : Ex} {d : Nat}, ExOk ns d t → ExOk ms d t
  | .num _, _, h => ExOk.num h.of_num _
  | .name _, _, h => ExOk.name (s _ h.of_name) _
  | .add _ _, 0, h => False.elim h
  | .mul _ _, 0, h => False.elim h
  | .add _ _, _ + 1, ⟨a, b⟩ => ⟨a.sub s, b.sub s⟩
  | .mul _ _, _ + 1, ⟨a, b⟩ => ⟨a.sub s, b.sub s⟩
inductive Rw where | nil | set (x : Str) (e : Ex) (r : Rw) | say (e : Ex) (r : Rw) | lap (x : Str) (m : Ex) (b r : Rw)
def StsAt (K : PySem.W.Frag) (H : Hp) : Rw → List Addr → Prop
  | .nil, qs => qs = []
  | .set x e r, qs => ∃ (q : Addr) (t : List Addr) (pe : Addr), qs = q :: t ∧ SqT K H q [.str "set", .str x, .ref pe] ∧ ExAt K H pe e ∧ StsAt K H r t
  | .say e r, qs => ∃ (q : Addr) (t : List Addr) (pe : Addr), qs = q :: t ∧ SqT K H q [.str "say", .ref pe] ∧ ExAt K H pe e ∧ StsAt K H r t
  | .lap x m b r, qs => ∃ (q : Addr) (t : List Addr) (pm pb pt : Addr) (qb : List Addr), qs = q :: t ∧ SqT K H q [.str "lap", .str x, .ref pm, .ref pb] ∧ ExAt K H pm m ∧ SqT K H pb [.str "row", .ref pt] ∧ SqT K H pt (qb.map V.ref) ∧ StsAt K H b qb ∧ StsAt K H r t
def RwAt (K : PySem.W.Frag) (H : Hp) (p : Addr) (rw : Rw) : Prop := ∃ (pt : Addr) (qs : List Addr), SqT K H p [.str "row", .ref pt] ∧ SqT K H pt (qs.map V.ref) ∧ StsAt K H rw qs
theorem StsAt.stay {K : PySem.W.Frag} {H H' : Hp} (s : TupsStay H H') : ∀ {r : Rw} {qs : List Addr}, StsAt K H r qs → StsAt K H' r qs
  | .nil, _, h => h
  | .set _ _ _, _, ⟨q, t, pe, e, h, a, b⟩ => ⟨q, t, pe, e, SqT.keeps h s, a.stay s, StsAt.stay s b⟩
  | .say _ _, _, ⟨q, t, pe, e, h, a, b⟩ => ⟨q, t, pe, e, SqT.keeps h s, a.stay s, StsAt.stay s b⟩
  | .lap _ _ _ _, _, ⟨q, t, pm, pb, pt, qb, e, h, a, h1, h2, b, c⟩ => ⟨q, t, pm, pb, pt, qb, e, SqT.keeps h s, a.stay s, SqT.keeps h1 s, SqT.keeps h2 s, StsAt.stay s b, StsAt.stay s c⟩
theorem RwAt.stay {K : PySem.W.Frag} {H H' : Hp} (s : TupsStay H H') {p : Addr} {r : Rw} (h : RwAt K H p r) : RwAt K H' p r := let ⟨pt, qs, a, b, c⟩ := h; ⟨pt, qs, SqT.keeps a s, SqT.keeps b s, c.stay s⟩
def appR : Rw → Rw → Rw
  | .nil, s => s
  | .set x e r, s => .set x e (appR r s)
  | .say e r, s => .say e (appR r s)
  | .lap x m b r, s => .lap x m b (appR r s)
def lenR : Rw → Nat
  | .nil => 0
  | .set _ _ r => lenR r + 1
  | .say _ r => lenR r + 1
  | .lap _ _ _ r => lenR r + 1
theorem lenR_app : ∀ (a b : Rw), lenR (appR a b) = lenR a + lenR b
  | .nil, b => (Nat.zero_add _).symm
  | .set _ _ r, b => by show lenR (appR r b) + 1 = lenR r + 1 + lenR b; rw [lenR_app r b]; omega
  | .say _ r, b => by show lenR (appR r b) + 1 = lenR r + 1 + lenR b; rw [lenR_app r b]; omega
  | .lap _ _ _ r, b => by show lenR (appR r b) + 1 = lenR r + 1 + lenR b; rw [lenR_app r b]; omega
theorem StsAt.len {K : PySem.W.Frag} {H : Hp} : ∀ {r : Rw} {qs : List Addr}, StsAt K H r qs → qs.length = lenR r
  | .nil, _, h => by rw [h]; rfl
  | .set _ _ _, _, ⟨_, _, _, e, _, _, b⟩ => by rw [e, List.length_cons, StsAt.len b]; rfl
  | .say _ _, _, ⟨_, _, _, e, _, _, b⟩ => by rw [e, List.length_cons, StsAt.len b]; rfl
  | .lap _ _ _ _, _, ⟨_, _, _, _, _, _, e, _, _, _, _, _, c⟩ => by rw [e, List.length_cons, StsAt.len c]; rfl
theorem StsAt.app {K : PySem.W.Frag} {H : Hp} {s : Rw} {rs : List Addr} (hs : StsAt K H s rs) : ∀ {r : Rw} {qs : List Addr}, StsAt K H r qs → StsAt K H (appR r s) (qs ++ rs)
  | .nil, _, h => by rw [h]; exact hs
  | .set _ _ _, _, ⟨q, t, pe, e, h, a, b⟩ => ⟨q, t ++ rs, pe, by rw [e]; rfl, h, a, StsAt.app hs b⟩
  | .say _ _, _, ⟨q, t, pe, e, h, a, b⟩ => ⟨q, t ++ rs, pe, by rw [e]; rfl, h, a, StsAt.app hs b⟩
  | .lap _ _ _ _, _, ⟨q, t, pm, pb, pt, qb, e, h, a, h1, h2, b, c⟩ => ⟨q, t ++ rs, pm, pb, pt, qb, by rw [e]; rfl, h, a, h1, h2, b, StsAt.app hs c⟩
def RwOk (ns : List Str) : Rw → Nat → Prop
  | .nil, _ => True
  | .set x e r, d => x ∈ ns ∧ ExOk ns 5 e ∧ RwOk ns r d
  | .say e r, d => ExOk ns 5 e ∧ RwOk ns r d
  | .lap x m b r, d => x ∈ ns ∧ ExOk ns 5 m ∧ 1 ≤ d ∧ lenR b ≤ 8 ∧ RwOk ns b (d - 1) ∧ RwOk ns r d
theorem RwOk.app {ns : List Str} {s : Rw} {d : Nat} (hs : RwOk ns s d) : ∀ {r : Rw}, RwOk ns r d → RwOk ns (appR r s) d
  | .nil, _ => hs
  | .set _ _ _, ⟨a, b, c⟩ => ⟨a, b, RwOk.app hs c⟩
  | .say _ _, ⟨a, b⟩ => ⟨a, RwOk.app hs b⟩
  | .lap _ _ _ _, ⟨a, b, e, f, g, c⟩ => ⟨a, b, e, f, g, RwOk.app hs c⟩
theorem RwOk.up {ns : List Str} : ∀ {r : Rw} {d k : Nat}, d ≤ k → RwOk ns r d → RwOk ns r k
  | .nil, _, _, _, _ => True.intro
  | .set _ _ _, _, _, l, ⟨a, b, c⟩ => ⟨a, b, RwOk.up l c⟩
  | .say _ _, _, _, l, ⟨a, b⟩ => ⟨a, RwOk.up l b⟩
  | .lap _ _ _ _, _, _, l, ⟨a, b, e, f, g, c⟩ => ⟨a, b, by omega, f, RwOk.up (by omega) g, RwOk.up l c⟩
/-! ### lists of texts compared -/
theorem dpStrs {K : PySem.W.Frag} {H : Hp} : ∀ cs : List Str, DpAll K H (cs.map V.str) (cs.map PyData.str)
  | [] => .nil
  | _ :: r => .cons (.str _) (dpStrs r)
theorem sN_len {ns : List Str} (e : ¬ PyData.eqv (.list (ns.map PyData.str)) (.list []) = true) : 0 < ns.length := by
  cases ns with
  | nil => exact absurd (by simp [PyData.eqv, PyData.eqvAll]) e
  | cons x r => exact Nat.succ_pos _
theorem But.tups {h c : Addr} {H H' : Hp} {s k : Int} {cs : List Int} (B : But h c H H') (A : HAt H h c s k cs) : TupsStay H H' := fun b xs q => by
  have nh : b ≠ h := fun z => by
    subst z
    rcases q with q | ⟨ob, q⟩
    · rw [A.h] at q
      cases q
    · rw [A.h] at q
      cases q
  have nc : b ≠ c := fun z => by
    subst z
    rcases q with q | ⟨ob, q⟩
    · rw [A.c] at q
      cases q
    · rw [A.c] at q
      cases q
  rcases q with q | ⟨ob, q⟩
  · exact .inl (B _ _ q nh nc)
  · exact .inr ⟨ob, B _ _ q nh nc⟩
def TextsOk (ns : List Str) : Prop := ∀ x ∈ ns, PyData.strOk x = true
theorem canLayStrs : ∀ {cs : List Str}, TextsOk cs → PyData.canLayAll0 (cs.map PyData.str) = true
  | [], _ => by simp [PyData.canLayAll0]
  | x :: r, h => by simp [PyData.canLayAll0, PyData.canLay0, canLayStrs (fun y hy => h y (by simp [hy]) : TextsOk r), h x (by simp)]
theorem depthStrs : ∀ cs : List Str, PyData.depthAll (cs.map PyData.str) = 0
  | [] => by simp [PyData.depthAll]
  | x :: r => by simp [PyData.depthAll, PyData.depth, depthStrs r]
theorem shapedStrs {cs : List Str} (h : TextsOk cs) : SeqAt.shaped (.list (cs.map PyData.str)) = true := by
  simp [SeqAt.shaped, PyData.canLay0, PyData.depth, canLayStrs h, depthStrs]
theorem texts_names {ns : List Str} (h : NamesOk ns) : TextsOk ns := fun x hx => by
  have l := (h.ok x hx).2.2
  unfold PyData.strOk
  rw [← Array.all_toList, List.all_eq_true]
  intro c hc
  have z := l c hc
  unfold letterC at z
  exact decide_eq_true (by omega)
theorem pick_at (x y : Int) (k : Bool) : atI [V.int x, V.int y] (if k then 1 else 0) = some (.int (if k then y else x)) := by
  cases k <;> rfl
/-! ### drawn expressions -/
section
variable {P : Program} {w : World} {K : PySem.W.Frag} {mg : Str → Option Value} {base : Heap} {C : Addr}
def spPart (K : PySem.W.Frag) : Nat → Sp
  | 0 => fun _ _ _ _ => False
  | d + 1 => fun vs H Q _ => ∃ (h c l : Addr) (s k : Int) (cs : List Int) (ns : List Str), vs = [.ref h, .ref l, .int d] ∧ HAt H h c s k cs ∧ H l = some (.lst (ns.map V.str)) ∧ l ≠ h ∧ l ≠ c ∧ ns.length < 1000 ∧ TextsOk ns ∧
    ∀ (s' k' : Int) (cs' : List Int) (p : Addr) (t : Ex) (H' : Hp), HAt H' h c s' k' cs' → But h c H H' → ExAt K H' p t → ExOk ns d t → Q (.ref p) H'
theorem ok_law_part {f : Addr} {fd : FuncData} (T : Txt K mg C) (F : DefAt K mg "_law_part" "_law_part" s_law_part ["_law_h", "_law_some", "_law_deep"] f fd) : ∀ d, FnOk P w K mg base CX0 (d + 2) f fd ["_law_h", "_law_some", "_law_deep"] (spPart K d)
  | 0 => ⟨fun _ _ _ _ h => False.elim h, fun _ _ _ _ _ _ _ _ _ _ _ _ _ h => False.elim h⟩
  | d + 1 => by
    have G_law_part := ok_law_part T F d
    have D_law_part := F
    obtain ⟨f1, fd1, D_law_next⟩ := T.d_law_next
    have G_law_next : FnOk P w K mg base CX0 1 f1 fd1 ["_law_h", "_law_many"] spNext := ok_law_next T D_law_next
    refine F.F.ok sc_law_part (fun vs H Q E h => ?_) (fun cdv A outer s H vs Q E hr h => ?_)
    · obtain ⟨h, c, l, s, k, cs, ns, rfl, _⟩ := h
      rfl
    · obtain ⟨h, c, l, z, k, cs, ns, rfl, A1, el, nlh, nlc, ns1, tx, q⟩ := h
      refine ⟨_, (pss_cons (ps_set (i := 3) sc_law_part.nd rfl (.inl rfl) (pe_call G_law_next (hr.mono (by omega)) (by rfl) D_law_next.g D_law_next.F.kp D_law_next.b .nil pass0 (pa_cons (pv 0) (pa_cons pe_int pa_nil))))
      (pss_cons (ps_if (PW.pt (pw_or (pt_cmpR op_eq (pv 2) pe_int (nomark _)) (pw_or (pt_cmpR op_lt (pv 3) pe_int (nomark _)) (pw_or1 (pt_cmpR (op_eqD hr.units) (pv 1) (pe_lst pa_nil) (nomark _)))))) (pss_cons (ps_if (PW.pt (pw_or (pt_cmpR (op_eqD hr.units) (pv 1) (pe_lst pa_nil) (nomark _)) (pw_or1 (pt_cmpR op_eq (pe_call G_law_next (hr.mono (by omega)) (by rfl) D_law_next.g D_law_next.F.kp D_law_next.b .nil pass0 (pa_cons (pv 0) (pa_cons pe_int pa_nil))) pe_int (nomark _))))) (pss_one (ps_ret (pe_tup (pa_cons pe_str (pa_cons (pe_ix ix_list (pe_lst (pa_cons (pe_call G_law_next (hr.mono (by omega)) (by rfl) D_law_next.g D_law_next.F.kp D_law_next.b .nil pass0 (pa_cons (pv 0) (pa_cons pe_int pa_nil))) (pa_cons (pe_call G_law_next (hr.mono (by omega)) (by rfl) D_law_next.g D_law_next.F.kp D_law_next.b .nil pass0 (pa_cons (pv 0) (pa_cons pe_int pa_nil))) pa_nil))) (pe_callTy call_int1 (by rfl) T.m_int (by decide +kernel) (pa_cons (pe_cmpR op_eq (pe_call G_law_next (hr.mono (by omega)) (by rfl) D_law_next.g D_law_next.F.kp D_law_next.b .nil pass0 (pa_cons (pv 0) (pa_cons pe_int pa_nil))) pe_int (nomark _)) pa_nil)) (fun _ _ => rfl)) pa_nil))))) pss_nil) (pss_one (ps_ret (pe_tup (pa_cons pe_str (pa_cons (pe_ix ix_list (pv 1) (pe_call G_law_next (hr.mono (by omega)) (by rfl) D_law_next.g D_law_next.F.kp D_law_next.b .nil pass0 (pa_cons (pv 0) (pa_cons (pe_callB call_len_seq (by rfl) T.m_len (by decide +kernel) (pa_cons (pv 1) pa_nil)) pa_nil))) (fun _ _ => rfl)) pa_nil)))))) pss_nil)
      (pss_cons (ps_set (i := 4) sc_law_part.nd rfl (.inl rfl) (pe_ifExp (pt_cmpR op_lt (pv 3) pe_int (nomark _)) pe_str pe_str))
      (pss_cons (ps_set (i := 5) sc_law_part.nd rfl (.inl rfl) (pe_call G_law_part (hr.mono (by omega)) (by rfl) D_law_part.g D_law_part.F.kp D_law_part.b .nil pass0 (pa_cons (pv 0) (pa_cons (pv 1) (pa_cons (pe_op op_sub (pv 2) pe_int) pa_nil)))))
      (pss_one (ps_ret (pe_tup (pa_cons (pv 4) (pa_cons (pv 5) (pa_cons (pe_call G_law_part (hr.mono (by omega)) (by rfl) D_law_part.g D_law_part.F.kp D_law_part.b .nil pass0 (pa_cons (pv 0) (pa_cons (pv 1) (pa_cons (pe_op op_sub (pv 2) pe_int) pa_nil)))) pa_nil)))))))))), ?_⟩
      refine ⟨_, rfl, h, c, _, _, 5, _, rfl, by decide, by decide, A1, fun s1 k1 cs1 way H1 w0 w5 A2 B1 => ?_⟩
      have el1 := B1 _ _ el nlh nlc
      refine ⟨_, rfl, rfl, _, rfl, ite2 (fun e => ?_) (fun e => ⟨_, rfl, _, _, rfl, rfl, _, rfl, ite2 (fun e2 => ?_) (fun e2 => ?_)⟩)⟩
      · skip
        refine ⟨_, rfl, (by show 0 ≤ sizeLine; decide), fun l5 nl5 => ?_⟩
        have s5 : Same H1 (upd H1 l5 (.lst [])) := same_upd nl5
        have A7 := A2.same s5
        have el7 := s5 _ _ el1
        have B7 := (B1).same s5
        refine ⟨_, _, Dp.lst (SqL.of el7) (dpStrs ns), Dp.lst (SqL.of upd_same) DpAll.nil, shapedStrs tx, by decide, _, rfl, ite2 (fun e7 => ?_) (fun e7 => ?_)⟩
        · skip
          refine ⟨_, rfl, h, c, _, _, 4, _, rfl, by decide, by decide, A7, fun s3 k3 cs3 x H3 x0 x7 A4 B3 => ⟨_, rfl, h, c, _, _, 1000, _, rfl, by decide, by decide, A4, fun s4 k4 cs4 y H4 y0 y2 A5 B4 => ⟨(by show 2 ≤ sizeLine; decide), fun l2 nl2 => ?_⟩⟩⟩
          have n2h : l2 ≠ h := (ne_of_none A5.h nl2).symm
          have n2c : l2 ≠ c := (ne_of_none A5.c nl2).symm
          have A5 := A5.same (same_upd nl2 : Same H4 (upd H4 l2 (.lst [.int x, .int y])))
          refine ⟨_, rfl, h, c, _, _, 6, _, rfl, by decide, by decide, A5, fun s5 k5 cs5 v H5 v0 v4 A6 B5 => ⟨rfl, .inr ⟨_, rfl, l2, _, _, _, rfl, rfl, SqL.of (B5 _ _ upd_same n2h n2c), pick_at _ _ _, (by show 2 ≤ sizeLine; decide), fun t nt => ?_⟩⟩⟩
          have st := same_upd (o := .tup [.str "num", .int (if decide (V.int v = V.int 0) then y else x)]) nt
          refine q _ _ _ t (.num (if decide (V.int v = V.int 0) then y else x)) _ (A6.same st) (((((B7).trans B3).trans B4).same (same_upd nl2)).trans B5 |>.trans (Same.but st)) (SqT.of upd_same) (ExOk.num ?_ _)
          split <;> omega
        · have n7 := sN_len e7
          refine ⟨_, rfl, h, c, _, _, 3, _, rfl, by decide, by decide, A7, fun s8 k8 cs8 b8 H8 b80 b82 A8 B8 => ⟨rfl, _, rfl, ite2 (fun e8 => ?_) (fun e8 => ?_)⟩⟩
          · skip
            refine ⟨_, rfl, h, c, _, _, 4, _, rfl, by decide, by decide, A8, fun s3 k3 cs3 x H3 x0 x7 A4 B3 => ⟨_, rfl, h, c, _, _, 1000, _, rfl, by decide, by decide, A4, fun s4 k4 cs4 y H4 y0 y2 A5 B4 => ⟨(by show 2 ≤ sizeLine; decide), fun l2 nl2 => ?_⟩⟩⟩
            have n2h : l2 ≠ h := (ne_of_none A5.h nl2).symm
            have n2c : l2 ≠ c := (ne_of_none A5.c nl2).symm
            have A5 := A5.same (same_upd nl2 : Same H4 (upd H4 l2 (.lst [.int x, .int y])))
            refine ⟨_, rfl, h, c, _, _, 6, _, rfl, by decide, by decide, A5, fun s5 k5 cs5 v H5 v0 v4 A6 B5 => ⟨rfl, .inr ⟨_, rfl, l2, _, _, _, rfl, rfl, SqL.of (B5 _ _ upd_same n2h n2c), pick_at _ _ _, (by show 2 ≤ sizeLine; decide), fun t nt => ?_⟩⟩⟩
            have st := same_upd (o := .tup [.str "num", .int (if decide (V.int v = V.int 0) then y else x)]) nt
            refine q _ _ _ t (.num (if decide (V.int v = V.int 0) then y else x)) _ (A6.same st) (((((B7.trans B8).trans B3).trans B4).same (same_upd nl2)).trans B5 |>.trans (Same.but st)) (SqT.of upd_same) (ExOk.num ?_ _)
            split <;> omega
          · have el8 := B8 _ _ el7 nlh nlc
            refine ⟨_, rfl, _, rfl, _, rfl, l, _, rfl, .inl (SqL.of el8), h, c, _, _, _, _, rfl, by rw [List.length_map]; omega, by rw [List.length_map]; omega, A8, fun s3 k3 cs3 x H3 x0 x7 A4 B3 => ?_⟩
            rw [List.length_map] at x7
            have hx : x.toNat < ns.length := by omega
            refine ⟨l, _, _, .str ns[x.toNat], rfl, rfl, SqL.of (B3 _ _ el8 nlh nlc), at_of (j := x.toNat) (by omega) (by rw [List.getElem?_map, List.getElem?_eq_getElem hx]; rfl), (by show 2 ≤ sizeLine; decide), fun t nt => ?_⟩
            have st := same_upd (o := .tup [.str "name", .str ns[x.toNat]]) nt
            exact q _ _ _ t (.name ns[x.toNat]) _ (A4.same st) (((B7.trans B8).trans B3).trans (Same.but st)) (SqT.of upd_same) (ExOk.name (List.getElem_mem hx) _)
      · skip
        refine ⟨_, rfl, (by show 0 ≤ sizeLine; decide), fun l5 nl5 => ?_⟩
        have s5 : Same H1 (upd H1 l5 (.lst [])) := same_upd nl5
        have A7 := A2.same s5
        have el7 := s5 _ _ el1
        have B7 := (B1).same s5
        refine ⟨_, _, Dp.lst (SqL.of el7) (dpStrs ns), Dp.lst (SqL.of upd_same) DpAll.nil, shapedStrs tx, by decide, _, rfl, ite2 (fun e7 => ?_) (fun e7 => ?_)⟩
        · skip
          refine ⟨_, rfl, h, c, _, _, 4, _, rfl, by decide, by decide, A7, fun s3 k3 cs3 x H3 x0 x7 A4 B3 => ⟨_, rfl, h, c, _, _, 1000, _, rfl, by decide, by decide, A4, fun s4 k4 cs4 y H4 y0 y2 A5 B4 => ⟨(by show 2 ≤ sizeLine; decide), fun l2 nl2 => ?_⟩⟩⟩
          have n2h : l2 ≠ h := (ne_of_none A5.h nl2).symm
          have n2c : l2 ≠ c := (ne_of_none A5.c nl2).symm
          have A5 := A5.same (same_upd nl2 : Same H4 (upd H4 l2 (.lst [.int x, .int y])))
          refine ⟨_, rfl, h, c, _, _, 6, _, rfl, by decide, by decide, A5, fun s5 k5 cs5 v H5 v0 v4 A6 B5 => ⟨rfl, .inr ⟨_, rfl, l2, _, _, _, rfl, rfl, SqL.of (B5 _ _ upd_same n2h n2c), pick_at _ _ _, (by show 2 ≤ sizeLine; decide), fun t nt => ?_⟩⟩⟩
          have st := same_upd (o := .tup [.str "num", .int (if decide (V.int v = V.int 0) then y else x)]) nt
          refine q _ _ _ t (.num (if decide (V.int v = V.int 0) then y else x)) _ (A6.same st) (((((B7).trans B3).trans B4).same (same_upd nl2)).trans B5 |>.trans (Same.but st)) (SqT.of upd_same) (ExOk.num ?_ _)
          split <;> omega
        · have n7 := sN_len e7
          refine ⟨_, rfl, h, c, _, _, 3, _, rfl, by decide, by decide, A7, fun s8 k8 cs8 b8 H8 b80 b82 A8 B8 => ⟨rfl, _, rfl, ite2 (fun e8 => ?_) (fun e8 => ?_)⟩⟩
          · skip
            refine ⟨_, rfl, h, c, _, _, 4, _, rfl, by decide, by decide, A8, fun s3 k3 cs3 x H3 x0 x7 A4 B3 => ⟨_, rfl, h, c, _, _, 1000, _, rfl, by decide, by decide, A4, fun s4 k4 cs4 y H4 y0 y2 A5 B4 => ⟨(by show 2 ≤ sizeLine; decide), fun l2 nl2 => ?_⟩⟩⟩
            have n2h : l2 ≠ h := (ne_of_none A5.h nl2).symm
            have n2c : l2 ≠ c := (ne_of_none A5.c nl2).symm
            have A5 := A5.same (same_upd nl2 : Same H4 (upd H4 l2 (.lst [.int x, .int y])))
            refine ⟨_, rfl, h, c, _, _, 6, _, rfl, by decide, by decide, A5, fun s5 k5 cs5 v H5 v0 v4 A6 B5 => ⟨rfl, .inr ⟨_, rfl, l2, _, _, _, rfl, rfl, SqL.of (B5 _ _ upd_same n2h n2c), pick_at _ _ _, (by show 2 ≤ sizeLine; decide), fun t nt => ?_⟩⟩⟩
            have st := same_upd (o := .tup [.str "num", .int (if decide (V.int v = V.int 0) then y else x)]) nt
            refine q _ _ _ t (.num (if decide (V.int v = V.int 0) then y else x)) _ (A6.same st) (((((B7.trans B8).trans B3).trans B4).same (same_upd nl2)).trans B5 |>.trans (Same.but st)) (SqT.of upd_same) (ExOk.num ?_ _)
            split <;> omega
          · have el8 := B8 _ _ el7 nlh nlc
            refine ⟨_, rfl, _, rfl, _, rfl, l, _, rfl, .inl (SqL.of el8), h, c, _, _, _, _, rfl, by rw [List.length_map]; omega, by rw [List.length_map]; omega, A8, fun s3 k3 cs3 x H3 x0 x7 A4 B3 => ?_⟩
            rw [List.length_map] at x7
            have hx : x.toNat < ns.length := by omega
            refine ⟨l, _, _, .str ns[x.toNat], rfl, rfl, SqL.of (B3 _ _ el8 nlh nlc), at_of (j := x.toNat) (by omega) (by rw [List.getElem?_map, List.getElem?_eq_getElem hx]; rfl), (by show 2 ≤ sizeLine; decide), fun t nt => ?_⟩
            have st := same_upd (o := .tup [.str "name", .str ns[x.toNat]]) nt
            exact q _ _ _ t (.name ns[x.toNat]) _ (A4.same st) (((B7.trans B8).trans B3).trans (Same.but st)) (SqT.of upd_same) (ExOk.name (List.getElem_mem hx) _)
      · refine ⟨_, rfl, (by show 0 ≤ sizeLine; decide), fun l6 nl6 => ?_⟩
        have s6 : Same H1 (upd H1 l6 (.lst [])) := same_upd nl6
        have A6' := A2.same s6
        have el6' := s6 _ _ el1
        have B6' := B1.same s6
        refine ⟨_, _, Dp.lst (SqL.of el6') (dpStrs ns), Dp.lst (SqL.of upd_same) DpAll.nil, shapedStrs tx, by decide, _, rfl, ite2 (fun e6 => ?_) (fun e6 => ?_)⟩
        · skip
          refine ⟨_, rfl, (by show 0 ≤ sizeLine; decide), fun l5 nl5 => ?_⟩
          have s5 : Same (upd H1 l6 (.lst [])) (upd (upd H1 l6 (.lst [])) l5 (.lst [])) := same_upd nl5
          have A7 := A6'.same s5
          have el7 := s5 _ _ el6'
          have B7 := (B6').same s5
          refine ⟨_, _, Dp.lst (SqL.of el7) (dpStrs ns), Dp.lst (SqL.of upd_same) DpAll.nil, shapedStrs tx, by decide, _, rfl, ite2 (fun e7 => ?_) (fun e7 => ?_)⟩
          · skip
            refine ⟨_, rfl, h, c, _, _, 4, _, rfl, by decide, by decide, A7, fun s3 k3 cs3 x H3 x0 x7 A4 B3 => ⟨_, rfl, h, c, _, _, 1000, _, rfl, by decide, by decide, A4, fun s4 k4 cs4 y H4 y0 y2 A5 B4 => ⟨(by show 2 ≤ sizeLine; decide), fun l2 nl2 => ?_⟩⟩⟩
            have n2h : l2 ≠ h := (ne_of_none A5.h nl2).symm
            have n2c : l2 ≠ c := (ne_of_none A5.c nl2).symm
            have A5 := A5.same (same_upd nl2 : Same H4 (upd H4 l2 (.lst [.int x, .int y])))
            refine ⟨_, rfl, h, c, _, _, 6, _, rfl, by decide, by decide, A5, fun s5 k5 cs5 v H5 v0 v4 A6 B5 => ⟨rfl, .inr ⟨_, rfl, l2, _, _, _, rfl, rfl, SqL.of (B5 _ _ upd_same n2h n2c), pick_at _ _ _, (by show 2 ≤ sizeLine; decide), fun t nt => ?_⟩⟩⟩
            have st := same_upd (o := .tup [.str "num", .int (if decide (V.int v = V.int 0) then y else x)]) nt
            refine q _ _ _ t (.num (if decide (V.int v = V.int 0) then y else x)) _ (A6.same st) (((((B7).trans B3).trans B4).same (same_upd nl2)).trans B5 |>.trans (Same.but st)) (SqT.of upd_same) (ExOk.num ?_ _)
            split <;> omega
          · have n7 := sN_len e7
            refine ⟨_, rfl, h, c, _, _, 3, _, rfl, by decide, by decide, A7, fun s8 k8 cs8 b8 H8 b80 b82 A8 B8 => ⟨rfl, _, rfl, ite2 (fun e8 => ?_) (fun e8 => ?_)⟩⟩
            · skip
              refine ⟨_, rfl, h, c, _, _, 4, _, rfl, by decide, by decide, A8, fun s3 k3 cs3 x H3 x0 x7 A4 B3 => ⟨_, rfl, h, c, _, _, 1000, _, rfl, by decide, by decide, A4, fun s4 k4 cs4 y H4 y0 y2 A5 B4 => ⟨(by show 2 ≤ sizeLine; decide), fun l2 nl2 => ?_⟩⟩⟩
              have n2h : l2 ≠ h := (ne_of_none A5.h nl2).symm
              have n2c : l2 ≠ c := (ne_of_none A5.c nl2).symm
              have A5 := A5.same (same_upd nl2 : Same H4 (upd H4 l2 (.lst [.int x, .int y])))
              refine ⟨_, rfl, h, c, _, _, 6, _, rfl, by decide, by decide, A5, fun s5 k5 cs5 v H5 v0 v4 A6 B5 => ⟨rfl, .inr ⟨_, rfl, l2, _, _, _, rfl, rfl, SqL.of (B5 _ _ upd_same n2h n2c), pick_at _ _ _, (by show 2 ≤ sizeLine; decide), fun t nt => ?_⟩⟩⟩
              have st := same_upd (o := .tup [.str "num", .int (if decide (V.int v = V.int 0) then y else x)]) nt
              refine q _ _ _ t (.num (if decide (V.int v = V.int 0) then y else x)) _ (A6.same st) (((((B7.trans B8).trans B3).trans B4).same (same_upd nl2)).trans B5 |>.trans (Same.but st)) (SqT.of upd_same) (ExOk.num ?_ _)
              split <;> omega
            · have el8 := B8 _ _ el7 nlh nlc
              refine ⟨_, rfl, _, rfl, _, rfl, l, _, rfl, .inl (SqL.of el8), h, c, _, _, _, _, rfl, by rw [List.length_map]; omega, by rw [List.length_map]; omega, A8, fun s3 k3 cs3 x H3 x0 x7 A4 B3 => ?_⟩
              rw [List.length_map] at x7
              have hx : x.toNat < ns.length := by omega
              refine ⟨l, _, _, .str ns[x.toNat], rfl, rfl, SqL.of (B3 _ _ el8 nlh nlc), at_of (j := x.toNat) (by omega) (by rw [List.getElem?_map, List.getElem?_eq_getElem hx]; rfl), (by show 2 ≤ sizeLine; decide), fun t nt => ?_⟩
              have st := same_upd (o := .tup [.str "name", .str ns[x.toNat]]) nt
              exact q _ _ _ t (.name ns[x.toNat]) _ (A4.same st) (((B7.trans B8).trans B3).trans (Same.but st)) (SqT.of upd_same) (ExOk.name (List.getElem_mem hx) _)
        · cases d with
          | zero => exact absurd (decide_eq_true rfl : decide (V.int ((0 : Nat) : Int) = V.int 0) = true) (by assumption)
          | succ d =>
            have ed : [V.ref h, V.ref l, V.int ((((d + 1 : Nat) : Int)) - 1)] = [.ref h, .ref l, .int (d : Int)] := by
              have e0 : (((d + 1 : Nat) : Int) - 1) = (d : Int) := by omega
              rw [e0]
            refine ⟨_, rfl, _, _, rfl, rfl, _, rfl, ite2 (fun e9 => ?_) (fun e9 => ?_)⟩
            all_goals
              refine ⟨_, rfl, _, rfl, _, rfl, _, _, rfl, rfl, h, c, l, _, _, _, ns, ed, A6', el6', nlh, nlc, ns1, tx, fun s2 k2 cs2 p1 t1 H2 A3 B2 T1 ok1 => ?_⟩
              have el3 := B2 _ _ el6' nlh nlc
              refine ⟨_, rfl, _, rfl, _, rfl, _, rfl, _, rfl, _, _, rfl, rfl, h, c, l, _, _, _, ns, ed, A3, el3, nlh, nlc, ns1, tx, fun s5 k5 cs5 p2 t2 H5 A5 B5 T2 ok2 => ⟨(by show 3 ≤ sizeLine; decide), fun t nt => ?_⟩⟩
              first
              | have st := same_upd (o := .tup [.str "add", .ref p1, .ref p2]) nt
                have T1' := (T1.stay (B5.tups A3)).stay (TupsStay.same st)
                exact q _ _ _ t (.add t1 t2) _ (A5.same st) (((B6'.trans B2).trans B5).trans (Same.but st)) ⟨p1, p2, SqT.of upd_same, T1', T2.stay (TupsStay.same st)⟩ ⟨ok1, ok2⟩
              | have st := same_upd (o := .tup [.str "times", .ref p1, .ref p2]) nt
                have T1' := (T1.stay (B5.tups A3)).stay (TupsStay.same st)
                exact q _ _ _ t (.mul t1 t2) _ (A5.same st) (((B6'.trans B2).trans B5).trans (Same.but st)) ⟨p1, p2, SqT.of upd_same, T1', T2.stay (TupsStay.same st)⟩ ⟨ok1, ok2⟩
end
/-! ### a drawn measure -/
theorem four {r : Int} (h0 : 0 ≤ r) (h4 : r < 4) (a b c d : V) : ∃ v, v ∈ [a, b, c, d] ∧ atI [a, b, c, d] r = some v := by
  have : r = 0 ∨ r = 1 ∨ r = 2 ∨ r = 3 := by omega
  rcases this with h | h | h | h
  · subst h
    exact ⟨a, by simp, rfl⟩
  · subst h
    exact ⟨b, by simp, rfl⟩
  · subst h
    exact ⟨c, by simp, rfl⟩
  · subst h
    exact ⟨d, by simp, rfl⟩
section
variable {P : Program} {w : World} {K : PySem.W.Frag} {mg : Str → Option Value} {base : Heap} {C : Addr}
def spMeas (K : PySem.W.Frag) : Sp := fun vs H Q _ => ∃ (h c l : Addr) (s k : Int) (cs : List Int) (g : Str) (ms ns : List Str), vs = [.ref h, .str g, .ref l] ∧ HAt H h c s k cs ∧ H l = some (.lst (ms.map V.str)) ∧ l ≠ h ∧ l ≠ c ∧ ms.length < 1000 ∧ TextsOk ms ∧ g ∈ ns ∧ (∀ x ∈ ms, x ∈ ns) ∧
  ∀ (s' k' : Int) (cs' : List Int) (p : Addr) (t : Ex) (H' : Hp), HAt H' h c s' k' cs' → But h c H H' → ExAt K H' p t → ExOk ns 2 t → Q (.ref p) H'
theorem ok_law_measure {f : Addr} {fd : FuncData} (T : Txt K mg C) (F : DefAt K mg "_law_measure" "_law_measure" s_law_measure ["_law_h", "_law_guard", "_law_calm"] f fd) : FnOk P w K mg base CX0 2 f fd ["_law_h", "_law_guard", "_law_calm"] (spMeas K) := by
  obtain ⟨f1, fd1, D_law_next⟩ := T.d_law_next
  have G_law_next : FnOk P w K mg base CX0 1 f1 fd1 ["_law_h", "_law_many"] spNext := ok_law_next T D_law_next
  refine F.F.ok sc_law_measure (fun vs H Q E h => ?_) (fun cdv A outer s H vs Q E hr h => ?_)
  · obtain ⟨h, c, l, s, k, cs, g, ms, ns, rfl, _⟩ := h
    rfl
  · obtain ⟨h, c, l, z, k, cs, g, ms, ns, rfl, A1, el, nlh, nlc, ms1, tx, hg, hm, q⟩ := h
    refine ⟨_, (pss_cons (ps_set (i := 3) sc_law_measure.nd rfl (.inl rfl) (pe_tup (pa_cons pe_str (pa_cons (pv 1) pa_nil))))
      (pss_cons (ps_set (i := 4) sc_law_measure.nd rfl (.inl rfl) (pe_lst (pa_cons (pv 3) (pa_cons (pe_tup (pa_cons pe_str (pa_cons (pv 3) (pa_cons (pe_tup (pa_cons pe_str (pa_cons (pe_call G_law_next (hr.mono (by decide)) (by rfl) D_law_next.g D_law_next.F.kp D_law_next.b .nil pass0 (pa_cons (pv 0) (pa_cons pe_int pa_nil))) pa_nil))) pa_nil)))) (pa_cons (pe_tup (pa_cons pe_str (pa_cons (pe_tup (pa_cons pe_str (pa_cons (pe_op op_add pe_int (pe_call G_law_next (hr.mono (by decide)) (by rfl) D_law_next.g D_law_next.F.kp D_law_next.b .nil pass0 (pa_cons (pv 0) (pa_cons pe_int pa_nil)))) pa_nil))) (pa_cons (pv 3) pa_nil)))) pa_nil)))))
      (pss_cons (ps_set (i := 5) sc_law_measure.nd rfl (.inl rfl) (pe_ix ix_list (pe_op op_cat (pv 4) (pe_lst (pa_cons (pe_tup (pa_cons pe_str (pa_cons (pv 3) (pa_cons (pv 3) pa_nil)))) pa_nil))) (pe_call G_law_next (hr.mono (by decide)) (by rfl) D_law_next.g D_law_next.F.kp D_law_next.b .nil pass0 (pa_cons (pv 0) (pa_cons pe_int pa_nil))) (fun _ _ => rfl)))
      (pss_cons (ps_if (PW.pt (pw_and (pt_cmpR (op_neD hr.units) (pv 2) (pe_lst pa_nil) (nomark _)) (pw_and1 (pt_cmpR op_eq (pe_call G_law_next (hr.mono (by decide)) (by rfl) D_law_next.g D_law_next.F.kp D_law_next.b .nil pass0 (pa_cons (pv 0) (pa_cons pe_int pa_nil))) pe_int (nomark _))))) (pss_one (ps_set (i := 5) sc_law_measure.nd rfl (.inl rfl) (pe_tup (pa_cons pe_str (pa_cons (pv 5) (pa_cons (pe_tup (pa_cons pe_str (pa_cons (pe_ix ix_list (pv 2) (pe_call G_law_next (hr.mono (by decide)) (by rfl) D_law_next.g D_law_next.F.kp D_law_next.b .nil pass0 (pa_cons (pv 0) (pa_cons (pe_callB call_len_seq (by rfl) T.m_len (by decide +kernel) (pa_cons (pv 2) pa_nil)) pa_nil))) (fun _ _ => rfl)) pa_nil))) pa_nil)))))) pss_nil)
      (pss_one (ps_ret (pv 5))))))), ?_⟩
    refine ⟨_, rfl, (by show 2 ≤ sizeLine; decide), fun tn ntn => ?_⟩
    have sn : Same H (upd H tn (.tup [.str "name", .str g])) := same_upd ntn
    have Tn : ExAt K (upd H tn (.tup [.str "name", .str g])) tn (.name g) := SqT.of upd_same
    have A := A1.same sn
    have el := sn _ _ el
    have B0 := Same.but (h := h) (c := c) sn
    generalize (upd H tn (.tup [.str "name", .str g])) = H1 at sn Tn A el B0
    refine ⟨_, rfl, _, rfl, _, rfl, h, c, _, _, 9, _, rfl, by decide, by decide, A, fun s2 k2 cs2 r2 H2 r20 r29 A2 B2 => ⟨(by show 2 ≤ sizeLine; decide), fun t1 nt1 => ⟨(by show 3 ≤ sizeLine; decide), fun t2 nt2 => ?_⟩⟩⟩
    have el := B2 _ _ el nlh nlc
    have Tn := Tn.stay (B2.tups A)
    have u1 : Same H2 (upd H2 t1 (.tup [.str "num", .int r2])) := same_upd nt1
    have u2 : Same (upd H2 t1 (.tup [.str "num", .int r2])) (upd (upd H2 t1 (.tup [.str "num", .int r2])) t2 (.tup [.str "add", .ref tn, .ref t1])) := same_upd nt2
    have X1 : ExAt K (upd H2 t1 (.tup [.str "num", .int r2])) t1 (.num r2) := SqT.of upd_same
    have Tn2 := Tn.stay (TupsStay.same (u1.trans u2))
    have X2 : ExAt K (upd (upd H2 t1 (.tup [.str "num", .int r2])) t2 (.tup [.str "add", .ref tn, .ref t1])) t2 (.add (.name g) (.num r2)) := ⟨tn, t1, SqT.of upd_same, Tn2, X1.stay (TupsStay.same u2)⟩
    have A := A2.same (u1.trans u2)
    have el := (u1.trans u2) _ _ el
    have B1 := (B0.trans B2).same (u1.trans u2)
    generalize (upd (upd H2 t1 (.tup [.str "num", .int r2])) t2 (.tup [.str "add", .ref tn, .ref t1])) = H3 at u2 Tn2 X2 A el B1
    refine ⟨_, rfl, h, c, _, _, 3, _, rfl, by decide, by decide, A, fun s4 k4 cs4 r4 H4 r40 r43 A4 B4 => ⟨_, _, rfl, rfl, (by show 2 ≤ sizeLine; decide), fun t3 nt3 => ⟨_, rfl, (by show 3 ≤ sizeLine; decide), fun t4 nt4 => ⟨(by show 3 ≤ sizeLine; decide), fun l1 nl1 => ?_⟩⟩⟩⟩
    have tt4 := B4.tups A
    have el := B4 _ _ el nlh nlc
    have Tn := Tn2.stay tt4
    have X2 := X2.stay tt4
    have u3 : Same H4 (upd H4 t3 (.tup [.str "num", .int (1 + r4)])) := same_upd nt3
    have u4 : Same (upd H4 t3 (.tup [.str "num", .int (1 + r4)])) (upd (upd H4 t3 (.tup [.str "num", .int (1 + r4)])) t4 (.tup [.str "times", .ref t3, .ref tn])) := same_upd nt4
    have X3 : ExAt K (upd H4 t3 (.tup [.str "num", .int (1 + r4)])) t3 (.num (1 + r4)) := SqT.of upd_same
    have Tn2 := Tn.stay (TupsStay.same (u3.trans u4))
    have X4 : ExAt K (upd (upd H4 t3 (.tup [.str "num", .int (1 + r4)])) t4 (.tup [.str "times", .ref t3, .ref tn])) t4 (.mul (.num (1 + r4)) (.name g)) := ⟨t3, tn, SqT.of upd_same, X3.stay (TupsStay.same u4), Tn2⟩
    have X2 := X2.stay (TupsStay.same (u3.trans u4))
    have A := A4.same (u3.trans u4)
    have el := (u3.trans u4) _ _ el
    have B2' := (B1.trans B4).same (u3.trans u4)
    generalize (upd (upd H4 t3 (.tup [.str "num", .int (1 + r4)])) t4 (.tup [.str "times", .ref t3, .ref tn])) = H5 at u4 Tn2 X4 X2 A el B2' nl1
    have u5 : Same H5 (upd H5 l1 (.lst [.ref tn, .ref t2, .ref t4])) := same_upd nl1
    have e1 : (upd H5 l1 (.lst [.ref tn, .ref t2, .ref t4])) l1 = some (.lst [.ref tn, .ref t2, .ref t4]) := upd_same
    have A := A.same u5
    have el := u5 _ _ el
    have Tn := Tn2.stay (TupsStay.same u5)
    have X2 := X2.stay (TupsStay.same u5)
    have X4 := X4.stay (TupsStay.same u5)
    have B3 := B2'.same u5
    generalize (upd H5 l1 (.lst [.ref tn, .ref t2, .ref t4])) = H6 at u5 e1 A el Tn X2 X4 B3
    refine ⟨_, rfl, _, rfl, _, rfl, (by show 3 ≤ sizeLine; decide), fun t5 nt5 => ⟨(by show 1 ≤ sizeLine; decide), fun l2 nl2 => ?_⟩⟩
    have u6 : Same H6 (upd H6 t5 (.tup [.str "times", .ref tn, .ref tn])) := same_upd nt5
    have X5 : ExAt K (upd H6 t5 (.tup [.str "times", .ref tn, .ref tn])) t5 (.mul (.name g) (.name g)) := ⟨tn, tn, SqT.of upd_same, Tn.stay (TupsStay.same u6), Tn.stay (TupsStay.same u6)⟩
    have u7 : Same (upd H6 t5 (.tup [.str "times", .ref tn, .ref tn])) (upd (upd H6 t5 (.tup [.str "times", .ref tn, .ref tn])) l2 (.lst [.ref t5])) := same_upd nl2
    have u67 := u6.trans u7
    have e2 : (upd (upd H6 t5 (.tup [.str "times", .ref tn, .ref tn])) l2 (.lst [.ref t5])) l2 = some (.lst [.ref t5]) := upd_same
    have X5 := X5.stay (TupsStay.same u7)
    have e1 := u67 _ _ e1
    have A := A.same u67
    have el := u67 _ _ el
    have Tn := Tn.stay (TupsStay.same u67)
    have X2 := X2.stay (TupsStay.same u67)
    have X4 := X4.stay (TupsStay.same u67)
    have B4' := B3.same u67
    generalize (upd (upd H6 t5 (.tup [.str "times", .ref tn, .ref tn])) l2 (.lst [.ref t5])) = H7 at u67 e2 X5 e1 A el Tn X2 X4 B4'
    refine ⟨l1, l2, _, _, rfl, rfl, e1, e2, (by show 4 ≤ sizeLine; decide), fun l3 nl3 => ?_⟩
    have u8 : Same H7 (upd H7 l3 (.lst [.ref tn, .ref t2, .ref t4, .ref t5])) := same_upd nl3
    have e3 : (upd H7 l3 (.lst [.ref tn, .ref t2, .ref t4, .ref t5])) l3 = some (.lst [.ref tn, .ref t2, .ref t4, .ref t5]) := upd_same
    have n3h : l3 ≠ h := (ne_of_none A.h nl3).symm
    have n3c : l3 ≠ c := (ne_of_none A.c nl3).symm
    have A := A.same u8
    have el := u8 _ _ el
    have Tn := Tn.stay (TupsStay.same u8)
    have X2 := X2.stay (TupsStay.same u8)
    have X4 := X4.stay (TupsStay.same u8)
    have X5 := X5.stay (TupsStay.same u8)
    have B5 := B4'.same u8
    have e3' : (upd H7 l3 (.lst ([.ref tn, .ref t2, .ref t4] ++ [.ref t5]))) l3 = some (.lst [.ref tn, .ref t2, .ref t4, .ref t5]) := e3
    refine ⟨_, rfl, h, c, _, _, 4, _, rfl, by decide, by decide, A, fun s9 k9 cs9 r9 H9 r90 r94 A9 B9 => ?_⟩
    have tt := B9.tups A
    have el := B9 _ _ el nlh nlc
    have e3 := B9 _ _ e3 n3h n3c
    have Tn := Tn.stay tt
    have X2 := X2.stay tt
    have X4 := X4.stay tt
    have X5 := X5.stay tt
    have B6 := B5.trans B9
    obtain ⟨vo, hvo, ato⟩ := four r90 r94 (V.ref tn) (V.ref t2) (V.ref t4) (V.ref t5)
    obtain ⟨po, eo, rfl, Xo, ok1⟩ : ∃ po t, vo = V.ref po ∧ ExAt K H9 po t ∧ ExOk ns 1 t := by
      simp only [List.mem_cons, List.not_mem_nil, or_false] at hvo
      rcases hvo with z | z | z | z
      · exact ⟨tn, _, z, Tn, ExOk.name hg _⟩
      · exact ⟨t2, _, z, X2, ExOk.name hg _, ExOk.num (by omega) _⟩
      · exact ⟨t4, _, z, X4, ExOk.num (by omega) _, ExOk.name hg _⟩
      · exact ⟨t5, _, z, X5, ExOk.name hg _, ExOk.name hg _⟩
    refine ⟨l3, _, _, _, rfl, rfl, SqL.of e3, ato, ?_⟩
    clear e3 e3' ato hvo Tn X2 X4 X5 u8
    refine ⟨_, rfl, (by show 0 ≤ sizeLine; decide), fun l5 nl5 => ?_⟩
    have u9 : Same H9 (upd H9 l5 (.lst [])) := same_upd nl5
    have A := A9.same u9
    have el := u9 _ _ el
    have Xo := Xo.stay (TupsStay.same u9)
    have B7 := B6.same u9
    refine ⟨_, _, Dp.lst (SqL.of el) (dpStrs ms), Dp.lst (SqL.of upd_same) DpAll.nil, shapedStrs tx, by decide, _, rfl, ite2 (fun e => ?_) (fun e => ?_)⟩
    · have n0 : 0 < ms.length := sN_len (fun z => by rw [z] at e; exact absurd e (by decide))
      refine ⟨_, rfl, h, c, _, _, 3, _, rfl, by decide, by decide, A, fun s10 k10 cs10 r10 H10 r100 r103 A10 B10 => ⟨rfl, _, rfl, ite2 (fun e2 => ?_) (fun e2 => ?_)⟩⟩
      · have el := B10 _ _ el nlh nlc
        have Xo := Xo.stay (B10.tups A)
        refine ⟨_, rfl, _, rfl, _, rfl, _, rfl, l, _, rfl, .inl (SqL.of el), h, c, _, _, _, _, rfl, by rw [List.length_map]; omega, by rw [List.length_map]; omega, A10, fun s11 k11 cs11 x H11 x0 x7 A11 B11 => ?_⟩
        rw [List.length_map] at x7
        have hx : x.toNat < ms.length := by omega
        have el2 := B11 _ _ el nlh nlc
        have Xo := Xo.stay (B11.tups A10)
        refine ⟨l, _, _, .str ms[x.toNat], rfl, rfl, SqL.of el2, at_of (j := x.toNat) (by omega) (by rw [List.getElem?_map, List.getElem?_eq_getElem hx]; rfl), (by show 2 ≤ sizeLine; decide), fun t6 nt6 => ⟨(by show 3 ≤ sizeLine; decide), fun t7 nt7 => ?_⟩⟩
        have v6 : Same H11 (upd H11 t6 (.tup [.str "name", .str ms[x.toNat]])) := same_upd nt6
        have X6 : ExAt K (upd H11 t6 (.tup [.str "name", .str ms[x.toNat]])) t6 (.name ms[x.toNat]) := SqT.of upd_same
        have v7 : Same (upd H11 t6 (.tup [.str "name", .str ms[x.toNat]])) (upd (upd H11 t6 (.tup [.str "name", .str ms[x.toNat]])) t7 (.tup [.str "add", .ref po, .ref t6])) := same_upd nt7
        exact ⟨_, rfl, q _ _ _ t7 (.add eo (.name ms[x.toNat])) _ (A11.same (v6.trans v7)) (((B7.trans B10).trans B11).same (v6.trans v7)) ⟨po, t6, SqT.of upd_same, Xo.stay (TupsStay.same (v6.trans v7)), X6.stay (TupsStay.same v7)⟩ ⟨ok1, ExOk.name (hm _ (List.getElem_mem hx)) _⟩⟩
      · exact ⟨_, rfl, q _ _ _ po eo _ A10 (B7.trans B10) (Xo.stay (B10.tups A)) ok1.up⟩
    · exact ⟨_, rfl, q _ _ _ po eo _ A B7 Xo ok1.up⟩
end
/-! ### tame expressions and rows: how numbers grow -/
def valE (v : Str → Int) : Ex → Int
  | .num n => n
  | .name x => v x
  | .add a b => valE v a + valE v b
  | .mul a b => valE v a * valE v b
def BndE (gs os : List Str) (bd : Int → Int → Int) (e : Ex) : Prop := ∀ (v : Str → Int) (G M : Int), 1 ≤ G → 0 ≤ M → (∀ x ∈ gs, 0 ≤ v x ∧ v x ≤ G) → (∀ x ∈ os, 0 ≤ v x ∧ v x ≤ M) → 0 ≤ valE v e ∧ valE v e ≤ bd G M
theorem BndE.sub {gs os gs' os' : List Str} {bd : Int → Int → Int} {e : Ex} (h : BndE gs os bd e) (a : ∀ x ∈ gs, x ∈ gs') (b : ∀ x ∈ os, x ∈ os') : BndE gs' os' bd e := fun v G M g m hg ho => h v G M g m (fun x hx => hg x (a x hx)) (fun x hx => ho x (b x hx))
theorem BndE.mono {gs os : List Str} {bd bd' : Int → Int → Int} {e : Ex} (h : BndE gs os bd e) (k : ∀ G M, 1 ≤ G → 0 ≤ M → bd G M ≤ bd' G M) : BndE gs os bd' e := fun v G M g m hg ho => ⟨(h v G M g m hg ho).1, Int.le_trans (h v G M g m hg ho).2 (k G M g m)⟩
def OneE (gs : List Str) (e : Ex) : Prop := BndE gs [] (fun G _ => G * G + 7) e
def OthE (os : List Str) (e : Ex) : Prop := BndE [] os (fun _ M => 3 * M + 1000) e
def GrowE (gs os : List Str) (e : Ex) : Prop := BndE gs os (fun G M => G * G + 3 * M + 1010) e
theorem sq_ge {G : Int} (h : 1 ≤ G) : G ≤ G * G := by
  have := Int.mul_le_mul_of_nonneg_left h (by omega : 0 ≤ G)
  omega
theorem one_num {gs : List Str} {r : Int} (h : 0 ≤ r ∧ r < 7) : OneE gs (.num r) := fun v G M g m hg ho => by
  have := sq_ge g
  exact ⟨h.1, by show r ≤ G * G + 7; omega⟩
theorem one_name {gs : List Str} {x : Str} (h : x ∈ gs) : OneE gs (.name x) := fun v G M g m hg ho => by
  have := sq_ge g
  have := hg x h
  exact ⟨this.1, by show v x ≤ G * G + 7; omega⟩
theorem one_mul {gs : List Str} {x y : Str} (h : x ∈ gs) (k : y ∈ gs) : OneE gs (.mul (.name x) (.name y)) := fun v G M g m hg ho => by
  have a := hg x h
  have b := hg y k
  refine ⟨Int.mul_nonneg a.1 b.1, ?_⟩
  show v x * v y ≤ G * G + 7
  have := Int.mul_le_mul a.2 b.2 b.1 (by omega : 0 ≤ G)
  omega
theorem oth_num {os : List Str} {r : Int} (h : 0 ≤ r ∧ r < 1000) : OthE os (.num r) := fun v G M g m hg ho => ⟨h.1, by show r ≤ 3 * M + 1000; omega⟩
theorem oth_name {os : List Str} {x : Str} (h : x ∈ os) : OthE os (.name x) := fun v G M g m hg ho => by
  have := ho x h
  exact ⟨this.1, by show v x ≤ 3 * M + 1000; omega⟩
theorem oth_mul {os : List Str} {r : Int} {x : Str} (h : 0 ≤ r ∧ r < 4) (k : x ∈ os) : OthE os (.mul (.num r) (.name x)) := fun v G M g m hg ho => by
  have b := ho x k
  refine ⟨Int.mul_nonneg h.1 b.1, ?_⟩
  show r * v x ≤ 3 * M + 1000
  have := Int.mul_le_mul (show r ≤ 3 by omega) b.2 b.1 (by omega : (0 : Int) ≤ 3)
  omega
theorem OneE.grow {gs os : List Str} {a b : Ex} (h : OneE gs a) (k : OthE os b) : GrowE gs os (.add a b) := fun v G M g m hg ho => by
  have x := h v G M g m hg (fun _ h => nomatch h)
  have y := k v G M g m (fun _ h => nomatch h) ho
  have x2 : valE v a ≤ G * G + 7 := x.2
  have y2 : valE v b ≤ 3 * M + 1000 := y.2
  exact ⟨Int.add_nonneg x.1 y.1, by show valE v a + valE v b ≤ G * G + 3 * M + 1010; omega⟩
theorem GrowE.sub {gs os gs' os' : List Str} {e : Ex} (h : GrowE gs os e) (a : ∀ x ∈ gs, x ∈ gs') (b : ∀ x ∈ os, x ∈ os') : GrowE gs' os' e := BndE.sub h a b
theorem GrowE.more {gs os : List Str} {e : Ex} (h : GrowE gs os e) {y : Str} (hy : y ∈ os) : BndE gs os (fun G M => G * G + 4 * M + 1010) (.add (.name y) e) := fun v G M g m hg ho => by
  have x := h v G M g m hg ho
  have b := ho y hy
  have x2 : valE v e ≤ G * G + 3 * M + 1010 := x.2
  exact ⟨Int.add_nonneg b.1 x.1, by show v y + valE v e ≤ G * G + 4 * M + 1010; omega⟩
theorem GrowE.big {gs os : List Str} {e : Ex} (h : GrowE gs os e) : BndE gs os (fun G M => G * G + 4 * M + 1010) e := BndE.mono h fun G M g m => by
  show G * G + 3 * M + 1010 ≤ G * G + 4 * M + 1010
  omega
theorem grd_num {gs os : List Str} {r : Int} (h : 0 ≤ r ∧ r < 1000) : BndE gs os (fun G _ => 2 * G + 1010) (.num r) := fun v G M g m hg ho => ⟨h.1, by show r ≤ 2 * G + 1010; omega⟩
theorem grd_two {gs os : List Str} {x y : Str} (h : x ∈ gs) (k : y ∈ gs) : BndE gs os (fun G _ => 2 * G + 1010) (.add (.name x) (.name y)) := fun v G M g m hg ho => by
  have a := hg x h
  have b := hg y k
  exact ⟨Int.add_nonneg a.1 b.1, by show v x + v y ≤ 2 * G + 1010; omega⟩
theorem grd_more {gs os : List Str} {x : Str} {r : Int} (h : x ∈ gs) (k : 0 ≤ r ∧ r < 1000) : BndE gs os (fun G _ => 2 * G + 1010) (.add (.name x) (.num r)) := fun v G M g m hg ho => by
  have a := hg x h
  exact ⟨Int.add_nonneg a.1 k.1, by show v x + r ≤ 2 * G + 1010; omega⟩
/-- the guards' names and the last one; the others -/
def gsOf (ns : List Str) : List Str := ns.take 3 ++ ns.drop 6
def osOf (ns : List Str) : List Str := (ns.drop 3).take 3
def ExS (ns : List Str) (e : Ex) : Prop := ExOk ns 2 e ∨ ∃ y t, e = .add (.name y) t ∧ y ∈ ns ∧ ExOk ns 2 t
def RwT (ns : List Str) : Rw → Prop
  | .nil => True
  | .set x e r => ((x ∈ gsOf ns ∧ BndE (gsOf ns) (osOf ns) (fun G _ => 2 * G + 1010) e) ∨ (x ∈ osOf ns ∧ BndE (gsOf ns) (osOf ns) (fun G M => G * G + 4 * M + 1010) e)) ∧ ExS ns e ∧ RwT ns r
  | .say e r => ExOk ns 2 e ∧ RwT ns r
  | .lap x m b r => x ∈ gsOf ns ∧ ExOk ns 2 m ∧ RwT ns b ∧ RwT ns r
theorem RwT.app {ns : List Str} {s : Rw} (hs : RwT ns s) : ∀ {r : Rw}, RwT ns r → RwT ns (appR r s)
  | .nil, _ => hs
  | .set _ _ _, ⟨a, b, c⟩ => ⟨a, b, RwT.app hs c⟩
  | .say _ _, ⟨a, b⟩ => ⟨a, RwT.app hs b⟩
  | .lap _ _ _ _, ⟨a, b, e, c⟩ => ⟨a, b, e, RwT.app hs c⟩
theorem at_guard {ns : List Str} (h7 : ns.length = 7) {i : Int} (h : (0 ≤ i ∧ i < 3) ∨ i = 6) : ∃ x, x ∈ ns ∧ x ∈ gsOf ns ∧ atI (ns.map V.str) i = some (.str x) := by
  have hx : i.toNat < ns.length := by omega
  refine ⟨ns[i.toNat], List.getElem_mem hx, ?_, at_of (j := i.toNat) (by omega) (by rw [List.getElem?_map, List.getElem?_eq_getElem hx]; rfl)⟩
  match ns, h7 with
  | [a, b, c, d, e, f, g], _ =>
    have : i = 0 ∨ i = 1 ∨ i = 2 ∨ i = 6 := by omega
    rcases this with z | z | z | z <;> subst z <;> simp [gsOf]
theorem at_other {ns : List Str} (h7 : ns.length = 7) {i : Int} (h0 : 3 ≤ i) (h1 : i < 6) : ∃ x, x ∈ ns ∧ x ∈ osOf ns ∧ atI (ns.map V.str) i = some (.str x) := by
  have hx : i.toNat < ns.length := by omega
  refine ⟨ns[i.toNat], List.getElem_mem hx, ?_, at_of (j := i.toNat) (by omega) (by rw [List.getElem?_map, List.getElem?_eq_getElem hx]; rfl)⟩
  match ns, h7 with
  | [a, b, c, d, e, f, g], _ =>
    have : i = 3 ∨ i = 4 ∨ i = 5 := by omega
    rcases this with z | z | z <;> subst z <;> simp [osOf]
theorem strs_inj {ys zs : List Str} (h : ys.map V.str = zs.map V.str) : ys = zs := by
  induction ys generalizing zs with
  | nil => cases zs with
    | nil => rfl
    | cons _ _ => cases h
  | cons y r ih => cases zs with
    | nil => cases h
    | cons z t =>
      injection h with h1 h2
      injection h1 with h3
      rw [h3, ih h2]
theorem cut_guard {ns ys : List Str} {d : Nat} (hd : d ≤ 3) (e : cutV (ns.map V.str) none (some (d : Int)) = ys.map V.str) : ∀ x ∈ ys, x ∈ gsOf ns := fun x hx => by
  unfold cutV at e
  rw [HT.sIx_none, HT.sIx_nat, List.drop_zero, ← List.map_take] at e
  have e2 := strs_inj e
  rw [← e2] at hx
  refine List.mem_append_left _ ?_
  have : min d (ns.map V.str).length - 0 ≤ 3 := by omega
  exact (List.take_sublist_take_left (l := ns) this).subset hx
theorem cut_other {ns zs : List Str} {a : Int} (h0 : 0 ≤ a) (h3 : a < 3) (e : cutV (ns.map V.str) (some 3) (some (3 + a)) = zs.map V.str) : ∀ x ∈ zs, x ∈ osOf ns := fun x hx => by
  have e3 : (3 : Int) + a = ((3 + a.toNat : Nat) : Int) := by omega
  unfold cutV at e
  rw [e3, show (3 : Int) = ((3 : Nat) : Int) from rfl, HT.sIx_nat, HT.sIx_nat, ← List.map_drop, ← List.map_take] at e
  have e2 := strs_inj e
  rw [← e2] at hx
  by_cases l : 3 ≤ ns.length
  · have m3 : min 3 (ns.map V.str).length = 3 := by rw [List.length_map]; omega
    rw [m3] at hx
    have : min (3 + a.toNat) (ns.map V.str).length - 3 ≤ 3 := by omega
    exact (List.take_sublist_take_left (l := ns.drop 3) this).subset hx
  · have m3 : min 3 (ns.map V.str).length = ns.length := by rw [List.length_map]; omega
    rw [m3, List.drop_length] at hx
    simp at hx
/-! ### what a name grows by -/
theorem two_at {r : Int} (h0 : 0 ≤ r) (h2 : r < 2) (x y : Int) : ∃ v, (v = x ∨ v = y) ∧ atI [V.int x, V.int y] r = some (.int v) := by
  have : r = 0 ∨ r = 1 := by omega
  rcases this with h | h
  · subst h
    exact ⟨x, .inl rfl, rfl⟩
  · subst h
    exact ⟨y, .inr rfl, rfl⟩
section
variable {P : Program} {w : World} {K : PySem.W.Frag} {mg : Str → Option Value} {base : Heap} {C : Addr}
def spGrow (K : PySem.W.Frag) : Sp := fun vs H Q _ => ∃ (h c l m : Addr) (s k : Int) (cs : List Int) (ls ms ns : List Str), vs = [.ref h, .ref l, .ref m] ∧ HAt H h c s k cs ∧ H l = some (.lst (ls.map V.str)) ∧ H m = some (.lst (ms.map V.str)) ∧ l ≠ h ∧ l ≠ c ∧ m ≠ h ∧ m ≠ c ∧ ls.length < 1000 ∧ ms.length < 1000 ∧ TextsOk ls ∧ TextsOk ms ∧ (∀ x ∈ ls, x ∈ ns) ∧ (∀ x ∈ ms, x ∈ ns) ∧
  ∀ (s' k' : Int) (cs' : List Int) (p : Addr) (t : Ex) (H' : Hp), HAt H' h c s' k' cs' → But h c H H' → ExAt K H' p t → ExOk ns 2 t → GrowE ls ms t → Q (.ref p) H'
set_option maxHeartbeats 4000000 in
theorem ok_law_grow {f : Addr} {fd : FuncData} (T : Txt K mg C) (F : DefAt K mg "_law_grow" "_law_grow" s_law_grow ["_law_h", "_law_low", "_law_some"] f fd) : FnOk P w K mg base CX0 2 f fd ["_law_h", "_law_low", "_law_some"] (spGrow K) := by
  obtain ⟨f1, fd1, D_law_next⟩ := T.d_law_next
  have G_law_next : FnOk P w K mg base CX0 1 f1 fd1 ["_law_h", "_law_many"] spNext := ok_law_next T D_law_next
  refine F.F.ok sc_law_grow (fun vs H Q E h => ?_) (fun cdv A outer s H vs Q E hr h => ?_)
  · obtain ⟨h, c, l, m, s, k, cs, ls, ms, ns, rfl, _⟩ := h
    rfl
  · obtain ⟨h, c, l, m, z, k, cs, ls, ms, ns, rfl, A, el, em, nlh, nlc, nmh, nmc, ls1, ms1, txl, txm, hl, hm, q⟩ := h
    refine ⟨_, (pss_cons (ps_set (i := 3) sc_law_grow.nd rfl (.inl rfl) (pe_tup (pa_cons pe_str (pa_cons (pe_call G_law_next (hr.mono (by decide)) (by rfl) D_law_next.g D_law_next.F.kp D_law_next.b .nil pass0 (pa_cons (pv 0) (pa_cons pe_int pa_nil))) pa_nil))))
      (pss_cons (ps_if (PW.pt (pw_and (pt_cmpR (op_neD hr.units) (pv 1) (pe_lst pa_nil) (nomark _)) (pw_and1 (pt_cmpR op_gt (pe_call G_law_next (hr.mono (by decide)) (by rfl) D_law_next.g D_law_next.F.kp D_law_next.b .nil pass0 (pa_cons (pv 0) (pa_cons pe_int pa_nil))) pe_int (nomark _))))) (pss_cons (ps_set (i := 3) sc_law_grow.nd rfl (.inl rfl) (pe_tup (pa_cons pe_str (pa_cons (pe_ix ix_list (pv 1) (pe_call G_law_next (hr.mono (by decide)) (by rfl) D_law_next.g D_law_next.F.kp D_law_next.b .nil pass0 (pa_cons (pv 0) (pa_cons (pe_callB call_len_seq (by rfl) T.m_len (by decide +kernel) (pa_cons (pv 1) pa_nil)) pa_nil))) (fun _ _ => rfl)) pa_nil)))) (pss_one (ps_if (pt_cmpR op_eq (pe_call G_law_next (hr.mono (by decide)) (by rfl) D_law_next.g D_law_next.F.kp D_law_next.b .nil pass0 (pa_cons (pv 0) (pa_cons pe_int pa_nil))) pe_int (nomark _)) (pss_one (ps_set (i := 3) sc_law_grow.nd rfl (.inl rfl) (pe_tup (pa_cons pe_str (pa_cons (pv 3) (pa_cons (pe_tup (pa_cons pe_str (pa_cons (pe_ix ix_list (pv 1) (pe_call G_law_next (hr.mono (by decide)) (by rfl) D_law_next.g D_law_next.F.kp D_law_next.b .nil pass0 (pa_cons (pv 0) (pa_cons (pe_callB call_len_seq (by rfl) T.m_len (by decide +kernel) (pa_cons (pv 1) pa_nil)) pa_nil))) (fun _ _ => rfl)) pa_nil))) pa_nil)))))) pss_nil))) pss_nil)
      (pss_cons (ps_set (i := 4) sc_law_grow.nd rfl (.inl rfl) (pe_tup (pa_cons pe_str (pa_cons (pe_ix ix_list (pe_lst (pa_cons (pe_call G_law_next (hr.mono (by decide)) (by rfl) D_law_next.g D_law_next.F.kp D_law_next.b .nil pass0 (pa_cons (pv 0) (pa_cons pe_int pa_nil))) (pa_cons (pe_call G_law_next (hr.mono (by decide)) (by rfl) D_law_next.g D_law_next.F.kp D_law_next.b .nil pass0 (pa_cons (pv 0) (pa_cons pe_int pa_nil))) pa_nil))) (pe_call G_law_next (hr.mono (by decide)) (by rfl) D_law_next.g D_law_next.F.kp D_law_next.b .nil pass0 (pa_cons (pv 0) (pa_cons pe_int pa_nil))) (fun _ _ => rfl)) pa_nil))))
      (pss_cons (ps_if (PW.pt (pw_and (pt_cmpR (op_neD hr.units) (pv 2) (pe_lst pa_nil) (nomark _)) (pw_and1 (pt_cmpR op_eq (pe_call G_law_next (hr.mono (by decide)) (by rfl) D_law_next.g D_law_next.F.kp D_law_next.b .nil pass0 (pa_cons (pv 0) (pa_cons pe_int pa_nil))) pe_int (nomark _))))) (pss_cons (ps_set (i := 4) sc_law_grow.nd rfl (.inl rfl) (pe_tup (pa_cons pe_str (pa_cons (pe_ix ix_list (pv 2) (pe_call G_law_next (hr.mono (by decide)) (by rfl) D_law_next.g D_law_next.F.kp D_law_next.b .nil pass0 (pa_cons (pv 0) (pa_cons (pe_callB call_len_seq (by rfl) T.m_len (by decide +kernel) (pa_cons (pv 2) pa_nil)) pa_nil))) (fun _ _ => rfl)) pa_nil)))) (pss_one (ps_if (pt_cmpR op_eq (pe_call G_law_next (hr.mono (by decide)) (by rfl) D_law_next.g D_law_next.F.kp D_law_next.b .nil pass0 (pa_cons (pv 0) (pa_cons pe_int pa_nil))) pe_int (nomark _)) (pss_one (ps_set (i := 4) sc_law_grow.nd rfl (.inl rfl) (pe_tup (pa_cons pe_str (pa_cons (pe_tup (pa_cons pe_str (pa_cons (pe_call G_law_next (hr.mono (by decide)) (by rfl) D_law_next.g D_law_next.F.kp D_law_next.b .nil pass0 (pa_cons (pv 0) (pa_cons pe_int pa_nil))) pa_nil))) (pa_cons (pv 4) pa_nil)))))) pss_nil))) pss_nil)
      (pss_one (ps_ret (pe_tup (pa_cons pe_str (pa_cons (pv 3) (pa_cons (pv 4) pa_nil)))))))))), ?_⟩
    have B := But.refl h c H
    refine ⟨_, rfl, h, c, _, _, 7, _, rfl, by decide, by decide, A, fun s10 k10 cs10 r10 H10 r100 r101 A10 B10 => ⟨(by show 2 ≤ sizeLine; decide), fun t10 nt10 => ?_⟩⟩
    have tt10 := B10.tups A
    have el := B10 _ _ el nlh nlc
    have em := B10 _ _ em nmh nmc
    have u10 : Same H10 (upd H10 t10 (.tup [.str "num", .int r10])) := same_upd nt10
    have Xa : ExAt K (upd H10 t10 (.tup [.str "num", .int r10])) t10 (.num r10) := SqT.of upd_same
    have oka : ExOk ns 0 (.num r10) := ExOk.num (by omega) _
    have A := A10.same u10
    have el := u10 _ _ el
    have em := u10 _ _ em
    have B := (B.trans B10).same u10
    generalize (upd H10 t10 (.tup [.str "num", .int r10])) = G10 at u10 Xa A el em B 
    refine ⟨_, rfl, (by show 0 ≤ sizeLine; decide), fun l11 nl11 => ?_⟩
    have u11 : Same G10 (upd G10 l11 (.lst [])) := same_upd nl11
    have e11 : (upd G10 l11 (.lst [])) l11 = some (.lst []) := upd_same
    have A := A.same u11
    have el := u11 _ _ el
    have em := u11 _ _ em
    have Xa := Xa.stay (TupsStay.same u11)
    have B := B.same u11
    generalize (upd G10 l11 (.lst [])) = G11 at u11 e11 A el em B Xa
    refine ⟨_, _, Dp.lst (SqL.of el) (dpStrs ls), Dp.lst (SqL.of e11) DpAll.nil, shapedStrs txl, by decide, _, rfl, ite2 (fun e => ?_) (fun e => ?_)⟩
    · have n11 : 0 < ls.length := sN_len (fun z => by rw [z] at e; exact absurd e (by decide))
      refine ⟨_, rfl, h, c, _, _, 3, _, rfl, by decide, by decide, A, fun s12 k12 cs12 r12 H12 r120 r121 A12 B12 => ⟨_, _, rfl, rfl, _, rfl, ite2 (fun e => ?_) (fun e => ?_)⟩⟩
      · skip
        have tt12 := B12.tups A
        have el := B12 _ _ el nlh nlc
        have em := B12 _ _ em nmh nmc
        have Xa := Xa.stay tt12
        have B := B.trans B12
        have A := A12
        refine ⟨_, rfl, _, rfl, _, rfl, l, _, rfl, .inl (SqL.of el), h, c, _, _, _, _, rfl, by rw [List.length_map]; omega, by rw [List.length_map]; omega, A, fun s13 k13 cs13 x13 H13 x130 x137 A13 B13 => ?_⟩
        rw [List.length_map] at x137
        have hx13 : x13.toNat < ls.length := by omega
        have tt13 := B13.tups A
        have el := B13 _ _ el nlh nlc
        have em := B13 _ _ em nmh nmc
        refine ⟨l, _, _, .str ls[x13.toNat], rfl, rfl, SqL.of el, at_of (j := x13.toNat) (by omega) (by rw [List.getElem?_map, List.getElem?_eq_getElem hx13]; rfl), (by show 2 ≤ sizeLine; decide), fun t13 nt13 => ?_⟩
        have u13 : Same H13 (upd H13 t13 (.tup [.str "name", .str ls[x13.toNat]])) := same_upd nt13
        have Xb : ExAt K (upd H13 t13 (.tup [.str "name", .str ls[x13.toNat]])) t13 (.name ls[x13.toNat]) := SqT.of upd_same
        have okb : ExOk ns 0 (.name ls[x13.toNat]) := ExOk.name (hl _ (List.getElem_mem hx13)) _
        have A := A13.same u13
        have el := u13 _ _ el
        have em := u13 _ _ em
        have B := (B.trans B13).same u13
        generalize (upd H13 t13 (.tup [.str "name", .str ls[x13.toNat]])) = G13 at u13 Xb A el em B 
        refine ⟨_, rfl, h, c, _, _, 3, _, rfl, by decide, by decide, A, fun s14 k14 cs14 r14 H14 r140 r141 A14 B14 => ⟨rfl, _, rfl, ite2 (fun e => ?_) (fun e => ?_)⟩⟩
        · skip
          have tt14 := B14.tups A
          have el := B14 _ _ el nlh nlc
          have em := B14 _ _ em nmh nmc
          have Xb := Xb.stay tt14
          have B := B.trans B14
          have A := A14
          refine ⟨_, rfl, _, rfl, _, rfl, _, rfl, l, _, rfl, .inl (SqL.of el), h, c, _, _, _, _, rfl, by rw [List.length_map]; omega, by rw [List.length_map]; omega, A, fun s15 k15 cs15 x15 H15 x150 x157 A15 B15 => ?_⟩
          rw [List.length_map] at x157
          have hx15 : x15.toNat < ls.length := by omega
          have tt15 := B15.tups A
          have el := B15 _ _ el nlh nlc
          have em := B15 _ _ em nmh nmc
          have Xb := Xb.stay tt15
          refine ⟨l, _, _, .str ls[x15.toNat], rfl, rfl, SqL.of el, at_of (j := x15.toNat) (by omega) (by rw [List.getElem?_map, List.getElem?_eq_getElem hx15]; rfl), (by show 2 ≤ sizeLine; decide), fun t15 nt15 => ⟨(by show 3 ≤ sizeLine; decide), fun v15 nv15 => ?_⟩⟩
          have u15 : Same H15 (upd H15 t15 (.tup [.str "name", .str ls[x15.toNat]])) := same_upd nt15
          have Xn15 : ExAt K (upd H15 t15 (.tup [.str "name", .str ls[x15.toNat]])) t15 (.name ls[x15.toNat]) := SqT.of upd_same
          have w15 : Same (upd H15 t15 (.tup [.str "name", .str ls[x15.toNat]])) (upd (upd H15 t15 (.tup [.str "name", .str ls[x15.toNat]])) v15 (.tup [.str "times", .ref t13, .ref t15])) := same_upd nv15
          have Xd : ExAt K (upd (upd H15 t15 (.tup [.str "name", .str ls[x15.toNat]])) v15 (.tup [.str "times", .ref t13, .ref t15])) v15 (.mul (.name ls[x13.toNat]) (.name ls[x15.toNat])) := ⟨t13, t15, SqT.of upd_same, Xb.stay (TupsStay.same (u15.trans w15)), Xn15.stay (TupsStay.same w15)⟩
          have okd : ExOk ns 1 (.mul (.name ls[x13.toNat]) (.name ls[x15.toNat])) := ⟨okb, ExOk.name (hl _ (List.getElem_mem hx15)) _⟩
          have A := A15.same (u15.trans w15)
          have el := (u15.trans w15) _ _ el
          have em := (u15.trans w15) _ _ em
          have B := (B.trans B15).same (u15.trans w15)
          clear u15 Xn15
          generalize (upd (upd H15 t15 (.tup [.str "name", .str ls[x15.toNat]])) v15 (.tup [.str "times", .ref t13, .ref t15])) = G15 at w15 Xd A el em B 
          refine ⟨_, rfl, h, c, _, _, 4, _, rfl, by decide, by decide, A, fun s30 k30 cs30 r30 H30 r300 r301 A30 B30 => ⟨_, rfl, h, c, _, _, 1000, _, rfl, by decide, by decide, A30, fun s31 k31 cs31 r31 H31 r310 r311 A31 B31 => ⟨(by show 2 ≤ sizeLine; decide), fun l32 nl32 => ?_⟩⟩⟩
          have n2h : l32 ≠ h := (ne_of_none A31.h nl32).symm
          have n2c : l32 ≠ c := (ne_of_none A31.c nl32).symm
          have B31' := B30.trans B31
          have tt30 := (B30.tups A).trans (B31.tups A30)
          have el := B31' _ _ el nlh nlc
          have em := B31' _ _ em nmh nmc
          have Xd := Xd.stay tt30
          have u32 : Same H31 (upd H31 l32 (.lst [.int r30, .int r31])) := same_upd nl32
          have e32 : (upd H31 l32 (.lst [.int r30, .int r31])) l32 = some (.lst [.int r30, .int r31]) := upd_same
          have A := A31.same u32
          have el := u32 _ _ el
          have em := u32 _ _ em
          have Xd := Xd.stay (TupsStay.same u32)
          have B := (B.trans B31').same u32
          generalize (upd H31 l32 (.lst [.int r30, .int r31])) = G32 at u32 e32 A el em B Xd
          refine ⟨_, rfl, h, c, _, _, 2, _, rfl, by decide, by decide, A, fun s33 k33 cs33 r33 H33 r330 r331 A33 B33 => ?_⟩
          obtain ⟨v33, hv33, at33⟩ := two_at r330 r331 r30 r31
          refine ⟨l32, _, _, _, rfl, rfl, SqL.of (B33 _ _ e32 n2h n2c), at33, (by show 2 ≤ sizeLine; decide), fun t34 nt34 => ?_⟩
          have tt33 := B33.tups A
          have el := B33 _ _ el nlh nlc
          have em := B33 _ _ em nmh nmc
          have Xd := Xd.stay tt33
          have u34 : Same H33 (upd H33 t34 (.tup [.str "num", .int v33])) := same_upd nt34
          have Xo : ExAt K (upd H33 t34 (.tup [.str "num", .int v33])) t34 (.num v33) := SqT.of upd_same
          have oko : ExOk ns 0 (.num v33) := ExOk.num (by rcases hv33 with z | z <;> omega) _
          have A := A33.same u34
          have el := u34 _ _ el
          have em := u34 _ _ em
          have Xd := Xd.stay (TupsStay.same u34)
          have B := (B.trans B33).same u34
          generalize (upd H33 t34 (.tup [.str "num", .int v33])) = G34 at u34 Xo A el em B Xd
          refine ⟨_, rfl, (by show 0 ≤ sizeLine; decide), fun l35 nl35 => ?_⟩
          have u35 : Same G34 (upd G34 l35 (.lst [])) := same_upd nl35
          have e35 : (upd G34 l35 (.lst [])) l35 = some (.lst []) := upd_same
          have A := A.same u35
          have el := u35 _ _ el
          have em := u35 _ _ em
          have Xd := Xd.stay (TupsStay.same u35)
          have Xo := Xo.stay (TupsStay.same u35)
          have B := B.same u35
          generalize (upd G34 l35 (.lst [])) = G35 at u35 e35 A el em B Xd Xo
          refine ⟨_, _, Dp.lst (SqL.of em) (dpStrs ms), Dp.lst (SqL.of e35) DpAll.nil, shapedStrs txm, by decide, _, rfl, ite2 (fun e => ?_) (fun e => ?_)⟩
          · have n35 : 0 < ms.length := sN_len (fun z => by rw [z] at e; exact absurd e (by decide))
            refine ⟨_, rfl, h, c, _, _, 2, _, rfl, by decide, by decide, A, fun s36 k36 cs36 r36 H36 r360 r361 A36 B36 => ⟨rfl, _, rfl, ite2 (fun e => ?_) (fun e => ?_)⟩⟩
            · skip
              have tt36 := B36.tups A
              have el := B36 _ _ el nlh nlc
              have em := B36 _ _ em nmh nmc
              have Xd := Xd.stay tt36
              have Xo := Xo.stay tt36
              have B := B.trans B36
              have A := A36
              refine ⟨_, rfl, _, rfl, _, rfl, m, _, rfl, .inl (SqL.of em), h, c, _, _, _, _, rfl, by rw [List.length_map]; omega, by rw [List.length_map]; omega, A, fun s37 k37 cs37 x37 H37 x370 x377 A37 B37 => ?_⟩
              rw [List.length_map] at x377
              have hx37 : x37.toNat < ms.length := by omega
              have tt37 := B37.tups A
              have el := B37 _ _ el nlh nlc
              have em := B37 _ _ em nmh nmc
              have Xd := Xd.stay tt37
              refine ⟨m, _, _, .str ms[x37.toNat], rfl, rfl, SqL.of em, at_of (j := x37.toNat) (by omega) (by rw [List.getElem?_map, List.getElem?_eq_getElem hx37]; rfl), (by show 2 ≤ sizeLine; decide), fun t37 nt37 => ?_⟩
              have u37 : Same H37 (upd H37 t37 (.tup [.str "name", .str ms[x37.toNat]])) := same_upd nt37
              have Xp : ExAt K (upd H37 t37 (.tup [.str "name", .str ms[x37.toNat]])) t37 (.name ms[x37.toNat]) := SqT.of upd_same
              have okp : ExOk ns 0 (.name ms[x37.toNat]) := ExOk.name (hm _ (List.getElem_mem hx37)) _
              have A := A37.same u37
              have el := u37 _ _ el
              have em := u37 _ _ em
              have Xd := Xd.stay (TupsStay.same u37)
              have B := (B.trans B37).same u37
              generalize (upd H37 t37 (.tup [.str "name", .str ms[x37.toNat]])) = G37 at u37 Xp A el em B Xd
              refine ⟨_, rfl, h, c, _, _, 3, _, rfl, by decide, by decide, A, fun s38 k38 cs38 r38 H38 r380 r381 A38 B38 => ⟨rfl, _, rfl, ite2 (fun e => ?_) (fun e => ?_)⟩⟩
              · skip
                have tt38 := B38.tups A
                have el := B38 _ _ el nlh nlc
                have em := B38 _ _ em nmh nmc
                have Xd := Xd.stay tt38
                have Xp := Xp.stay tt38
                have B := B.trans B38
                have A := A38
                refine ⟨_, rfl, h, c, _, _, 4, _, rfl, by decide, by decide, A, fun s39 k39 cs39 r39 H39 r390 r391 A39 B39 => ⟨(by show 2 ≤ sizeLine; decide), fun t39 nt39 => ⟨_, rfl, (by show 3 ≤ sizeLine; decide), fun v39 nv39 => ?_⟩⟩⟩
                have tt39 := B39.tups A
                have el := B39 _ _ el nlh nlc
                have em := B39 _ _ em nmh nmc
                have Xd := Xd.stay tt39
                have Xp := Xp.stay tt39
                have u39 : Same H39 (upd H39 t39 (.tup [.str "num", .int r39])) := same_upd nt39
                have Xm : ExAt K (upd H39 t39 (.tup [.str "num", .int r39])) t39 (.num r39) := SqT.of upd_same
                have w39 : Same (upd H39 t39 (.tup [.str "num", .int r39])) (upd (upd H39 t39 (.tup [.str "num", .int r39])) v39 (.tup [.str "times", .ref t39, .ref t37])) := same_upd nv39
                have Xr : ExAt K (upd (upd H39 t39 (.tup [.str "num", .int r39])) v39 (.tup [.str "times", .ref t39, .ref t37])) v39 (.mul (.num r39) (.name ms[x37.toNat])) := ⟨t39, t37, SqT.of upd_same, Xm.stay (TupsStay.same w39), Xp.stay (TupsStay.same (u39.trans w39))⟩
                have okr : ExOk ns 1 (.mul (.num r39) (.name ms[x37.toNat])) := ⟨ExOk.num (by omega) _, okp⟩
                have A := A39.same (u39.trans w39)
                have Xd := Xd.stay (TupsStay.same (u39.trans w39))
                have B := (B.trans B39).same (u39.trans w39)
                refine ⟨_, rfl, _, rfl, (by show 3 ≤ sizeLine; decide), fun tz ntz => ?_⟩
                have sz : Same _ (upd _ tz (.tup [.str "add", .ref v15, .ref v39])) := same_upd ntz
                exact q _ _ _ tz (.add (.mul (.name ls[x13.toNat]) (.name ls[x15.toNat])) (.mul (.num r39) (.name ms[x37.toNat]))) _ (A.same sz) (B.same sz) ⟨v15, v39, SqT.of upd_same, Xd.stay (TupsStay.same sz), Xr.stay (TupsStay.same sz)⟩ ⟨okd.ups (by decide), okr.ups (by decide)⟩ ((one_mul (List.getElem_mem hx13) (List.getElem_mem hx15)).grow (oth_mul (r := r39) (by omega) (List.getElem_mem hx37)))
              · skip
                have tt38 := B38.tups A
                have el := B38 _ _ el nlh nlc
                have em := B38 _ _ em nmh nmc
                have Xd := Xd.stay tt38
                have Xp := Xp.stay tt38
                have B := B.trans B38
                have A := A38
                refine ⟨_, rfl, _, rfl, (by show 3 ≤ sizeLine; decide), fun tz ntz => ?_⟩
                have sz : Same _ (upd _ tz (.tup [.str "add", .ref v15, .ref t37])) := same_upd ntz
                exact q _ _ _ tz (.add (.mul (.name ls[x13.toNat]) (.name ls[x15.toNat])) (.name ms[x37.toNat])) _ (A.same sz) (B.same sz) ⟨v15, t37, SqT.of upd_same, Xd.stay (TupsStay.same sz), Xp.stay (TupsStay.same sz)⟩ ⟨okd.ups (by decide), okp.ups (by decide)⟩ ((one_mul (List.getElem_mem hx13) (List.getElem_mem hx15)).grow (oth_name (List.getElem_mem hx37)))
            · skip
              have tt36 := B36.tups A
              have el := B36 _ _ el nlh nlc
              have em := B36 _ _ em nmh nmc
              have Xd := Xd.stay tt36
              have Xo := Xo.stay tt36
              have B := B.trans B36
              have A := A36
              refine ⟨_, rfl, _, rfl, (by show 3 ≤ sizeLine; decide), fun tz ntz => ?_⟩
              have sz : Same _ (upd _ tz (.tup [.str "add", .ref v15, .ref t34])) := same_upd ntz
              exact q _ _ _ tz (.add (.mul (.name ls[x13.toNat]) (.name ls[x15.toNat])) (.num v33)) _ (A.same sz) (B.same sz) ⟨v15, t34, SqT.of upd_same, Xd.stay (TupsStay.same sz), Xo.stay (TupsStay.same sz)⟩ ⟨okd.ups (by decide), oko.ups (by decide)⟩ ((one_mul (List.getElem_mem hx13) (List.getElem_mem hx15)).grow (oth_num (r := v33) (by rcases hv33 with z | z <;> omega)))
          · skip
            refine ⟨_, rfl, _, rfl, (by show 3 ≤ sizeLine; decide), fun tz ntz => ?_⟩
            have sz : Same _ (upd _ tz (.tup [.str "add", .ref v15, .ref t34])) := same_upd ntz
            exact q _ _ _ tz (.add (.mul (.name ls[x13.toNat]) (.name ls[x15.toNat])) (.num v33)) _ (A.same sz) (B.same sz) ⟨v15, t34, SqT.of upd_same, Xd.stay (TupsStay.same sz), Xo.stay (TupsStay.same sz)⟩ ⟨okd.ups (by decide), oko.ups (by decide)⟩ ((one_mul (List.getElem_mem hx13) (List.getElem_mem hx15)).grow (oth_num (r := v33) (by rcases hv33 with z | z <;> omega)))
        · skip
          have tt14 := B14.tups A
          have el := B14 _ _ el nlh nlc
          have em := B14 _ _ em nmh nmc
          have Xb := Xb.stay tt14
          have B := B.trans B14
          have A := A14
          refine ⟨_, rfl, h, c, _, _, 4, _, rfl, by decide, by decide, A, fun s30 k30 cs30 r30 H30 r300 r301 A30 B30 => ⟨_, rfl, h, c, _, _, 1000, _, rfl, by decide, by decide, A30, fun s31 k31 cs31 r31 H31 r310 r311 A31 B31 => ⟨(by show 2 ≤ sizeLine; decide), fun l32 nl32 => ?_⟩⟩⟩
          have n2h : l32 ≠ h := (ne_of_none A31.h nl32).symm
          have n2c : l32 ≠ c := (ne_of_none A31.c nl32).symm
          have B31' := B30.trans B31
          have tt30 := (B30.tups A).trans (B31.tups A30)
          have el := B31' _ _ el nlh nlc
          have em := B31' _ _ em nmh nmc
          have Xb := Xb.stay tt30
          have u32 : Same H31 (upd H31 l32 (.lst [.int r30, .int r31])) := same_upd nl32
          have e32 : (upd H31 l32 (.lst [.int r30, .int r31])) l32 = some (.lst [.int r30, .int r31]) := upd_same
          have A := A31.same u32
          have el := u32 _ _ el
          have em := u32 _ _ em
          have Xb := Xb.stay (TupsStay.same u32)
          have B := (B.trans B31').same u32
          generalize (upd H31 l32 (.lst [.int r30, .int r31])) = G32 at u32 e32 A el em B Xb
          refine ⟨_, rfl, h, c, _, _, 2, _, rfl, by decide, by decide, A, fun s33 k33 cs33 r33 H33 r330 r331 A33 B33 => ?_⟩
          obtain ⟨v33, hv33, at33⟩ := two_at r330 r331 r30 r31
          refine ⟨l32, _, _, _, rfl, rfl, SqL.of (B33 _ _ e32 n2h n2c), at33, (by show 2 ≤ sizeLine; decide), fun t34 nt34 => ?_⟩
          have tt33 := B33.tups A
          have el := B33 _ _ el nlh nlc
          have em := B33 _ _ em nmh nmc
          have Xb := Xb.stay tt33
          have u34 : Same H33 (upd H33 t34 (.tup [.str "num", .int v33])) := same_upd nt34
          have Xo : ExAt K (upd H33 t34 (.tup [.str "num", .int v33])) t34 (.num v33) := SqT.of upd_same
          have oko : ExOk ns 0 (.num v33) := ExOk.num (by rcases hv33 with z | z <;> omega) _
          have A := A33.same u34
          have el := u34 _ _ el
          have em := u34 _ _ em
          have Xb := Xb.stay (TupsStay.same u34)
          have B := (B.trans B33).same u34
          generalize (upd H33 t34 (.tup [.str "num", .int v33])) = G34 at u34 Xo A el em B Xb
          refine ⟨_, rfl, (by show 0 ≤ sizeLine; decide), fun l35 nl35 => ?_⟩
          have u35 : Same G34 (upd G34 l35 (.lst [])) := same_upd nl35
          have e35 : (upd G34 l35 (.lst [])) l35 = some (.lst []) := upd_same
          have A := A.same u35
          have el := u35 _ _ el
          have em := u35 _ _ em
          have Xb := Xb.stay (TupsStay.same u35)
          have Xo := Xo.stay (TupsStay.same u35)
          have B := B.same u35
          generalize (upd G34 l35 (.lst [])) = G35 at u35 e35 A el em B Xb Xo
          refine ⟨_, _, Dp.lst (SqL.of em) (dpStrs ms), Dp.lst (SqL.of e35) DpAll.nil, shapedStrs txm, by decide, _, rfl, ite2 (fun e => ?_) (fun e => ?_)⟩
          · have n35 : 0 < ms.length := sN_len (fun z => by rw [z] at e; exact absurd e (by decide))
            refine ⟨_, rfl, h, c, _, _, 2, _, rfl, by decide, by decide, A, fun s36 k36 cs36 r36 H36 r360 r361 A36 B36 => ⟨rfl, _, rfl, ite2 (fun e => ?_) (fun e => ?_)⟩⟩
            · skip
              have tt36 := B36.tups A
              have el := B36 _ _ el nlh nlc
              have em := B36 _ _ em nmh nmc
              have Xb := Xb.stay tt36
              have Xo := Xo.stay tt36
              have B := B.trans B36
              have A := A36
              refine ⟨_, rfl, _, rfl, _, rfl, m, _, rfl, .inl (SqL.of em), h, c, _, _, _, _, rfl, by rw [List.length_map]; omega, by rw [List.length_map]; omega, A, fun s37 k37 cs37 x37 H37 x370 x377 A37 B37 => ?_⟩
              rw [List.length_map] at x377
              have hx37 : x37.toNat < ms.length := by omega
              have tt37 := B37.tups A
              have el := B37 _ _ el nlh nlc
              have em := B37 _ _ em nmh nmc
              have Xb := Xb.stay tt37
              refine ⟨m, _, _, .str ms[x37.toNat], rfl, rfl, SqL.of em, at_of (j := x37.toNat) (by omega) (by rw [List.getElem?_map, List.getElem?_eq_getElem hx37]; rfl), (by show 2 ≤ sizeLine; decide), fun t37 nt37 => ?_⟩
              have u37 : Same H37 (upd H37 t37 (.tup [.str "name", .str ms[x37.toNat]])) := same_upd nt37
              have Xp : ExAt K (upd H37 t37 (.tup [.str "name", .str ms[x37.toNat]])) t37 (.name ms[x37.toNat]) := SqT.of upd_same
              have okp : ExOk ns 0 (.name ms[x37.toNat]) := ExOk.name (hm _ (List.getElem_mem hx37)) _
              have A := A37.same u37
              have el := u37 _ _ el
              have em := u37 _ _ em
              have Xb := Xb.stay (TupsStay.same u37)
              have B := (B.trans B37).same u37
              generalize (upd H37 t37 (.tup [.str "name", .str ms[x37.toNat]])) = G37 at u37 Xp A el em B Xb
              refine ⟨_, rfl, h, c, _, _, 3, _, rfl, by decide, by decide, A, fun s38 k38 cs38 r38 H38 r380 r381 A38 B38 => ⟨rfl, _, rfl, ite2 (fun e => ?_) (fun e => ?_)⟩⟩
              · skip
                have tt38 := B38.tups A
                have el := B38 _ _ el nlh nlc
                have em := B38 _ _ em nmh nmc
                have Xb := Xb.stay tt38
                have Xp := Xp.stay tt38
                have B := B.trans B38
                have A := A38
                refine ⟨_, rfl, h, c, _, _, 4, _, rfl, by decide, by decide, A, fun s39 k39 cs39 r39 H39 r390 r391 A39 B39 => ⟨(by show 2 ≤ sizeLine; decide), fun t39 nt39 => ⟨_, rfl, (by show 3 ≤ sizeLine; decide), fun v39 nv39 => ?_⟩⟩⟩
                have tt39 := B39.tups A
                have el := B39 _ _ el nlh nlc
                have em := B39 _ _ em nmh nmc
                have Xb := Xb.stay tt39
                have Xp := Xp.stay tt39
                have u39 : Same H39 (upd H39 t39 (.tup [.str "num", .int r39])) := same_upd nt39
                have Xm : ExAt K (upd H39 t39 (.tup [.str "num", .int r39])) t39 (.num r39) := SqT.of upd_same
                have w39 : Same (upd H39 t39 (.tup [.str "num", .int r39])) (upd (upd H39 t39 (.tup [.str "num", .int r39])) v39 (.tup [.str "times", .ref t39, .ref t37])) := same_upd nv39
                have Xr : ExAt K (upd (upd H39 t39 (.tup [.str "num", .int r39])) v39 (.tup [.str "times", .ref t39, .ref t37])) v39 (.mul (.num r39) (.name ms[x37.toNat])) := ⟨t39, t37, SqT.of upd_same, Xm.stay (TupsStay.same w39), Xp.stay (TupsStay.same (u39.trans w39))⟩
                have okr : ExOk ns 1 (.mul (.num r39) (.name ms[x37.toNat])) := ⟨ExOk.num (by omega) _, okp⟩
                have A := A39.same (u39.trans w39)
                have Xb := Xb.stay (TupsStay.same (u39.trans w39))
                have B := (B.trans B39).same (u39.trans w39)
                refine ⟨_, rfl, _, rfl, (by show 3 ≤ sizeLine; decide), fun tz ntz => ?_⟩
                have sz : Same _ (upd _ tz (.tup [.str "add", .ref t13, .ref v39])) := same_upd ntz
                exact q _ _ _ tz (.add (.name ls[x13.toNat]) (.mul (.num r39) (.name ms[x37.toNat]))) _ (A.same sz) (B.same sz) ⟨t13, v39, SqT.of upd_same, Xb.stay (TupsStay.same sz), Xr.stay (TupsStay.same sz)⟩ ⟨okb.ups (by decide), okr.ups (by decide)⟩ ((one_name (List.getElem_mem hx13)).grow (oth_mul (r := r39) (by omega) (List.getElem_mem hx37)))
              · skip
                have tt38 := B38.tups A
                have el := B38 _ _ el nlh nlc
                have em := B38 _ _ em nmh nmc
                have Xb := Xb.stay tt38
                have Xp := Xp.stay tt38
                have B := B.trans B38
                have A := A38
                refine ⟨_, rfl, _, rfl, (by show 3 ≤ sizeLine; decide), fun tz ntz => ?_⟩
                have sz : Same _ (upd _ tz (.tup [.str "add", .ref t13, .ref t37])) := same_upd ntz
                exact q _ _ _ tz (.add (.name ls[x13.toNat]) (.name ms[x37.toNat])) _ (A.same sz) (B.same sz) ⟨t13, t37, SqT.of upd_same, Xb.stay (TupsStay.same sz), Xp.stay (TupsStay.same sz)⟩ ⟨okb.ups (by decide), okp.ups (by decide)⟩ ((one_name (List.getElem_mem hx13)).grow (oth_name (List.getElem_mem hx37)))
            · skip
              have tt36 := B36.tups A
              have el := B36 _ _ el nlh nlc
              have em := B36 _ _ em nmh nmc
              have Xb := Xb.stay tt36
              have Xo := Xo.stay tt36
              have B := B.trans B36
              have A := A36
              refine ⟨_, rfl, _, rfl, (by show 3 ≤ sizeLine; decide), fun tz ntz => ?_⟩
              have sz : Same _ (upd _ tz (.tup [.str "add", .ref t13, .ref t34])) := same_upd ntz
              exact q _ _ _ tz (.add (.name ls[x13.toNat]) (.num v33)) _ (A.same sz) (B.same sz) ⟨t13, t34, SqT.of upd_same, Xb.stay (TupsStay.same sz), Xo.stay (TupsStay.same sz)⟩ ⟨okb.ups (by decide), oko.ups (by decide)⟩ ((one_name (List.getElem_mem hx13)).grow (oth_num (r := v33) (by rcases hv33 with z | z <;> omega)))
          · skip
            refine ⟨_, rfl, _, rfl, (by show 3 ≤ sizeLine; decide), fun tz ntz => ?_⟩
            have sz : Same _ (upd _ tz (.tup [.str "add", .ref t13, .ref t34])) := same_upd ntz
            exact q _ _ _ tz (.add (.name ls[x13.toNat]) (.num v33)) _ (A.same sz) (B.same sz) ⟨t13, t34, SqT.of upd_same, Xb.stay (TupsStay.same sz), Xo.stay (TupsStay.same sz)⟩ ⟨okb.ups (by decide), oko.ups (by decide)⟩ ((one_name (List.getElem_mem hx13)).grow (oth_num (r := v33) (by rcases hv33 with z | z <;> omega)))
      · skip
        have tt12 := B12.tups A
        have el := B12 _ _ el nlh nlc
        have em := B12 _ _ em nmh nmc
        have Xa := Xa.stay tt12
        have B := B.trans B12
        have A := A12
        refine ⟨_, rfl, h, c, _, _, 4, _, rfl, by decide, by decide, A, fun s30 k30 cs30 r30 H30 r300 r301 A30 B30 => ⟨_, rfl, h, c, _, _, 1000, _, rfl, by decide, by decide, A30, fun s31 k31 cs31 r31 H31 r310 r311 A31 B31 => ⟨(by show 2 ≤ sizeLine; decide), fun l32 nl32 => ?_⟩⟩⟩
        have n2h : l32 ≠ h := (ne_of_none A31.h nl32).symm
        have n2c : l32 ≠ c := (ne_of_none A31.c nl32).symm
        have B31' := B30.trans B31
        have tt30 := (B30.tups A).trans (B31.tups A30)
        have el := B31' _ _ el nlh nlc
        have em := B31' _ _ em nmh nmc
        have Xa := Xa.stay tt30
        have u32 : Same H31 (upd H31 l32 (.lst [.int r30, .int r31])) := same_upd nl32
        have e32 : (upd H31 l32 (.lst [.int r30, .int r31])) l32 = some (.lst [.int r30, .int r31]) := upd_same
        have A := A31.same u32
        have el := u32 _ _ el
        have em := u32 _ _ em
        have Xa := Xa.stay (TupsStay.same u32)
        have B := (B.trans B31').same u32
        generalize (upd H31 l32 (.lst [.int r30, .int r31])) = G32 at u32 e32 A el em B Xa
        refine ⟨_, rfl, h, c, _, _, 2, _, rfl, by decide, by decide, A, fun s33 k33 cs33 r33 H33 r330 r331 A33 B33 => ?_⟩
        obtain ⟨v33, hv33, at33⟩ := two_at r330 r331 r30 r31
        refine ⟨l32, _, _, _, rfl, rfl, SqL.of (B33 _ _ e32 n2h n2c), at33, (by show 2 ≤ sizeLine; decide), fun t34 nt34 => ?_⟩
        have tt33 := B33.tups A
        have el := B33 _ _ el nlh nlc
        have em := B33 _ _ em nmh nmc
        have Xa := Xa.stay tt33
        have u34 : Same H33 (upd H33 t34 (.tup [.str "num", .int v33])) := same_upd nt34
        have Xo : ExAt K (upd H33 t34 (.tup [.str "num", .int v33])) t34 (.num v33) := SqT.of upd_same
        have oko : ExOk ns 0 (.num v33) := ExOk.num (by rcases hv33 with z | z <;> omega) _
        have A := A33.same u34
        have el := u34 _ _ el
        have em := u34 _ _ em
        have Xa := Xa.stay (TupsStay.same u34)
        have B := (B.trans B33).same u34
        generalize (upd H33 t34 (.tup [.str "num", .int v33])) = G34 at u34 Xo A el em B Xa
        refine ⟨_, rfl, (by show 0 ≤ sizeLine; decide), fun l35 nl35 => ?_⟩
        have u35 : Same G34 (upd G34 l35 (.lst [])) := same_upd nl35
        have e35 : (upd G34 l35 (.lst [])) l35 = some (.lst []) := upd_same
        have A := A.same u35
        have el := u35 _ _ el
        have em := u35 _ _ em
        have Xa := Xa.stay (TupsStay.same u35)
        have Xo := Xo.stay (TupsStay.same u35)
        have B := B.same u35
        generalize (upd G34 l35 (.lst [])) = G35 at u35 e35 A el em B Xa Xo
        refine ⟨_, _, Dp.lst (SqL.of em) (dpStrs ms), Dp.lst (SqL.of e35) DpAll.nil, shapedStrs txm, by decide, _, rfl, ite2 (fun e => ?_) (fun e => ?_)⟩
        · have n35 : 0 < ms.length := sN_len (fun z => by rw [z] at e; exact absurd e (by decide))
          refine ⟨_, rfl, h, c, _, _, 2, _, rfl, by decide, by decide, A, fun s36 k36 cs36 r36 H36 r360 r361 A36 B36 => ⟨rfl, _, rfl, ite2 (fun e => ?_) (fun e => ?_)⟩⟩
          · skip
            have tt36 := B36.tups A
            have el := B36 _ _ el nlh nlc
            have em := B36 _ _ em nmh nmc
            have Xa := Xa.stay tt36
            have Xo := Xo.stay tt36
            have B := B.trans B36
            have A := A36
            refine ⟨_, rfl, _, rfl, _, rfl, m, _, rfl, .inl (SqL.of em), h, c, _, _, _, _, rfl, by rw [List.length_map]; omega, by rw [List.length_map]; omega, A, fun s37 k37 cs37 x37 H37 x370 x377 A37 B37 => ?_⟩
            rw [List.length_map] at x377
            have hx37 : x37.toNat < ms.length := by omega
            have tt37 := B37.tups A
            have el := B37 _ _ el nlh nlc
            have em := B37 _ _ em nmh nmc
            have Xa := Xa.stay tt37
            refine ⟨m, _, _, .str ms[x37.toNat], rfl, rfl, SqL.of em, at_of (j := x37.toNat) (by omega) (by rw [List.getElem?_map, List.getElem?_eq_getElem hx37]; rfl), (by show 2 ≤ sizeLine; decide), fun t37 nt37 => ?_⟩
            have u37 : Same H37 (upd H37 t37 (.tup [.str "name", .str ms[x37.toNat]])) := same_upd nt37
            have Xp : ExAt K (upd H37 t37 (.tup [.str "name", .str ms[x37.toNat]])) t37 (.name ms[x37.toNat]) := SqT.of upd_same
            have okp : ExOk ns 0 (.name ms[x37.toNat]) := ExOk.name (hm _ (List.getElem_mem hx37)) _
            have A := A37.same u37
            have el := u37 _ _ el
            have em := u37 _ _ em
            have Xa := Xa.stay (TupsStay.same u37)
            have B := (B.trans B37).same u37
            generalize (upd H37 t37 (.tup [.str "name", .str ms[x37.toNat]])) = G37 at u37 Xp A el em B Xa
            refine ⟨_, rfl, h, c, _, _, 3, _, rfl, by decide, by decide, A, fun s38 k38 cs38 r38 H38 r380 r381 A38 B38 => ⟨rfl, _, rfl, ite2 (fun e => ?_) (fun e => ?_)⟩⟩
            · skip
              have tt38 := B38.tups A
              have el := B38 _ _ el nlh nlc
              have em := B38 _ _ em nmh nmc
              have Xa := Xa.stay tt38
              have Xp := Xp.stay tt38
              have B := B.trans B38
              have A := A38
              refine ⟨_, rfl, h, c, _, _, 4, _, rfl, by decide, by decide, A, fun s39 k39 cs39 r39 H39 r390 r391 A39 B39 => ⟨(by show 2 ≤ sizeLine; decide), fun t39 nt39 => ⟨_, rfl, (by show 3 ≤ sizeLine; decide), fun v39 nv39 => ?_⟩⟩⟩
              have tt39 := B39.tups A
              have el := B39 _ _ el nlh nlc
              have em := B39 _ _ em nmh nmc
              have Xa := Xa.stay tt39
              have Xp := Xp.stay tt39
              have u39 : Same H39 (upd H39 t39 (.tup [.str "num", .int r39])) := same_upd nt39
              have Xm : ExAt K (upd H39 t39 (.tup [.str "num", .int r39])) t39 (.num r39) := SqT.of upd_same
              have w39 : Same (upd H39 t39 (.tup [.str "num", .int r39])) (upd (upd H39 t39 (.tup [.str "num", .int r39])) v39 (.tup [.str "times", .ref t39, .ref t37])) := same_upd nv39
              have Xr : ExAt K (upd (upd H39 t39 (.tup [.str "num", .int r39])) v39 (.tup [.str "times", .ref t39, .ref t37])) v39 (.mul (.num r39) (.name ms[x37.toNat])) := ⟨t39, t37, SqT.of upd_same, Xm.stay (TupsStay.same w39), Xp.stay (TupsStay.same (u39.trans w39))⟩
              have okr : ExOk ns 1 (.mul (.num r39) (.name ms[x37.toNat])) := ⟨ExOk.num (by omega) _, okp⟩
              have A := A39.same (u39.trans w39)
              have Xa := Xa.stay (TupsStay.same (u39.trans w39))
              have B := (B.trans B39).same (u39.trans w39)
              refine ⟨_, rfl, _, rfl, (by show 3 ≤ sizeLine; decide), fun tz ntz => ?_⟩
              have sz : Same _ (upd _ tz (.tup [.str "add", .ref t10, .ref v39])) := same_upd ntz
              exact q _ _ _ tz (.add (.num r10) (.mul (.num r39) (.name ms[x37.toNat]))) _ (A.same sz) (B.same sz) ⟨t10, v39, SqT.of upd_same, Xa.stay (TupsStay.same sz), Xr.stay (TupsStay.same sz)⟩ ⟨oka.ups (by decide), okr.ups (by decide)⟩ ((one_num (r := r10) (by omega)).grow (oth_mul (r := r39) (by omega) (List.getElem_mem hx37)))
            · skip
              have tt38 := B38.tups A
              have el := B38 _ _ el nlh nlc
              have em := B38 _ _ em nmh nmc
              have Xa := Xa.stay tt38
              have Xp := Xp.stay tt38
              have B := B.trans B38
              have A := A38
              refine ⟨_, rfl, _, rfl, (by show 3 ≤ sizeLine; decide), fun tz ntz => ?_⟩
              have sz : Same _ (upd _ tz (.tup [.str "add", .ref t10, .ref t37])) := same_upd ntz
              exact q _ _ _ tz (.add (.num r10) (.name ms[x37.toNat])) _ (A.same sz) (B.same sz) ⟨t10, t37, SqT.of upd_same, Xa.stay (TupsStay.same sz), Xp.stay (TupsStay.same sz)⟩ ⟨oka.ups (by decide), okp.ups (by decide)⟩ ((one_num (r := r10) (by omega)).grow (oth_name (List.getElem_mem hx37)))
          · skip
            have tt36 := B36.tups A
            have el := B36 _ _ el nlh nlc
            have em := B36 _ _ em nmh nmc
            have Xa := Xa.stay tt36
            have Xo := Xo.stay tt36
            have B := B.trans B36
            have A := A36
            refine ⟨_, rfl, _, rfl, (by show 3 ≤ sizeLine; decide), fun tz ntz => ?_⟩
            have sz : Same _ (upd _ tz (.tup [.str "add", .ref t10, .ref t34])) := same_upd ntz
            exact q _ _ _ tz (.add (.num r10) (.num v33)) _ (A.same sz) (B.same sz) ⟨t10, t34, SqT.of upd_same, Xa.stay (TupsStay.same sz), Xo.stay (TupsStay.same sz)⟩ ⟨oka.ups (by decide), oko.ups (by decide)⟩ ((one_num (r := r10) (by omega)).grow (oth_num (r := v33) (by rcases hv33 with z | z <;> omega)))
        · skip
          refine ⟨_, rfl, _, rfl, (by show 3 ≤ sizeLine; decide), fun tz ntz => ?_⟩
          have sz : Same _ (upd _ tz (.tup [.str "add", .ref t10, .ref t34])) := same_upd ntz
          exact q _ _ _ tz (.add (.num r10) (.num v33)) _ (A.same sz) (B.same sz) ⟨t10, t34, SqT.of upd_same, Xa.stay (TupsStay.same sz), Xo.stay (TupsStay.same sz)⟩ ⟨oka.ups (by decide), oko.ups (by decide)⟩ ((one_num (r := r10) (by omega)).grow (oth_num (r := v33) (by rcases hv33 with z | z <;> omega)))
    · skip
      refine ⟨_, rfl, h, c, _, _, 4, _, rfl, by decide, by decide, A, fun s30 k30 cs30 r30 H30 r300 r301 A30 B30 => ⟨_, rfl, h, c, _, _, 1000, _, rfl, by decide, by decide, A30, fun s31 k31 cs31 r31 H31 r310 r311 A31 B31 => ⟨(by show 2 ≤ sizeLine; decide), fun l32 nl32 => ?_⟩⟩⟩
      have n2h : l32 ≠ h := (ne_of_none A31.h nl32).symm
      have n2c : l32 ≠ c := (ne_of_none A31.c nl32).symm
      have B31' := B30.trans B31
      have tt30 := (B30.tups A).trans (B31.tups A30)
      have el := B31' _ _ el nlh nlc
      have em := B31' _ _ em nmh nmc
      have Xa := Xa.stay tt30
      have u32 : Same H31 (upd H31 l32 (.lst [.int r30, .int r31])) := same_upd nl32
      have e32 : (upd H31 l32 (.lst [.int r30, .int r31])) l32 = some (.lst [.int r30, .int r31]) := upd_same
      have A := A31.same u32
      have el := u32 _ _ el
      have em := u32 _ _ em
      have Xa := Xa.stay (TupsStay.same u32)
      have B := (B.trans B31').same u32
      generalize (upd H31 l32 (.lst [.int r30, .int r31])) = G32 at u32 e32 A el em B Xa
      refine ⟨_, rfl, h, c, _, _, 2, _, rfl, by decide, by decide, A, fun s33 k33 cs33 r33 H33 r330 r331 A33 B33 => ?_⟩
      obtain ⟨v33, hv33, at33⟩ := two_at r330 r331 r30 r31
      refine ⟨l32, _, _, _, rfl, rfl, SqL.of (B33 _ _ e32 n2h n2c), at33, (by show 2 ≤ sizeLine; decide), fun t34 nt34 => ?_⟩
      have tt33 := B33.tups A
      have el := B33 _ _ el nlh nlc
      have em := B33 _ _ em nmh nmc
      have Xa := Xa.stay tt33
      have u34 : Same H33 (upd H33 t34 (.tup [.str "num", .int v33])) := same_upd nt34
      have Xo : ExAt K (upd H33 t34 (.tup [.str "num", .int v33])) t34 (.num v33) := SqT.of upd_same
      have oko : ExOk ns 0 (.num v33) := ExOk.num (by rcases hv33 with z | z <;> omega) _
      have A := A33.same u34
      have el := u34 _ _ el
      have em := u34 _ _ em
      have Xa := Xa.stay (TupsStay.same u34)
      have B := (B.trans B33).same u34
      generalize (upd H33 t34 (.tup [.str "num", .int v33])) = G34 at u34 Xo A el em B Xa
      refine ⟨_, rfl, (by show 0 ≤ sizeLine; decide), fun l35 nl35 => ?_⟩
      have u35 : Same G34 (upd G34 l35 (.lst [])) := same_upd nl35
      have e35 : (upd G34 l35 (.lst [])) l35 = some (.lst []) := upd_same
      have A := A.same u35
      have el := u35 _ _ el
      have em := u35 _ _ em
      have Xa := Xa.stay (TupsStay.same u35)
      have Xo := Xo.stay (TupsStay.same u35)
      have B := B.same u35
      generalize (upd G34 l35 (.lst [])) = G35 at u35 e35 A el em B Xa Xo
      refine ⟨_, _, Dp.lst (SqL.of em) (dpStrs ms), Dp.lst (SqL.of e35) DpAll.nil, shapedStrs txm, by decide, _, rfl, ite2 (fun e => ?_) (fun e => ?_)⟩
      · have n35 : 0 < ms.length := sN_len (fun z => by rw [z] at e; exact absurd e (by decide))
        refine ⟨_, rfl, h, c, _, _, 2, _, rfl, by decide, by decide, A, fun s36 k36 cs36 r36 H36 r360 r361 A36 B36 => ⟨rfl, _, rfl, ite2 (fun e => ?_) (fun e => ?_)⟩⟩
        · skip
          have tt36 := B36.tups A
          have el := B36 _ _ el nlh nlc
          have em := B36 _ _ em nmh nmc
          have Xa := Xa.stay tt36
          have Xo := Xo.stay tt36
          have B := B.trans B36
          have A := A36
          refine ⟨_, rfl, _, rfl, _, rfl, m, _, rfl, .inl (SqL.of em), h, c, _, _, _, _, rfl, by rw [List.length_map]; omega, by rw [List.length_map]; omega, A, fun s37 k37 cs37 x37 H37 x370 x377 A37 B37 => ?_⟩
          rw [List.length_map] at x377
          have hx37 : x37.toNat < ms.length := by omega
          have tt37 := B37.tups A
          have el := B37 _ _ el nlh nlc
          have em := B37 _ _ em nmh nmc
          have Xa := Xa.stay tt37
          refine ⟨m, _, _, .str ms[x37.toNat], rfl, rfl, SqL.of em, at_of (j := x37.toNat) (by omega) (by rw [List.getElem?_map, List.getElem?_eq_getElem hx37]; rfl), (by show 2 ≤ sizeLine; decide), fun t37 nt37 => ?_⟩
          have u37 : Same H37 (upd H37 t37 (.tup [.str "name", .str ms[x37.toNat]])) := same_upd nt37
          have Xp : ExAt K (upd H37 t37 (.tup [.str "name", .str ms[x37.toNat]])) t37 (.name ms[x37.toNat]) := SqT.of upd_same
          have okp : ExOk ns 0 (.name ms[x37.toNat]) := ExOk.name (hm _ (List.getElem_mem hx37)) _
          have A := A37.same u37
          have el := u37 _ _ el
          have em := u37 _ _ em
          have Xa := Xa.stay (TupsStay.same u37)
          have B := (B.trans B37).same u37
          generalize (upd H37 t37 (.tup [.str "name", .str ms[x37.toNat]])) = G37 at u37 Xp A el em B Xa
          refine ⟨_, rfl, h, c, _, _, 3, _, rfl, by decide, by decide, A, fun s38 k38 cs38 r38 H38 r380 r381 A38 B38 => ⟨rfl, _, rfl, ite2 (fun e => ?_) (fun e => ?_)⟩⟩
          · skip
            have tt38 := B38.tups A
            have el := B38 _ _ el nlh nlc
            have em := B38 _ _ em nmh nmc
            have Xa := Xa.stay tt38
            have Xp := Xp.stay tt38
            have B := B.trans B38
            have A := A38
            refine ⟨_, rfl, h, c, _, _, 4, _, rfl, by decide, by decide, A, fun s39 k39 cs39 r39 H39 r390 r391 A39 B39 => ⟨(by show 2 ≤ sizeLine; decide), fun t39 nt39 => ⟨_, rfl, (by show 3 ≤ sizeLine; decide), fun v39 nv39 => ?_⟩⟩⟩
            have tt39 := B39.tups A
            have el := B39 _ _ el nlh nlc
            have em := B39 _ _ em nmh nmc
            have Xa := Xa.stay tt39
            have Xp := Xp.stay tt39
            have u39 : Same H39 (upd H39 t39 (.tup [.str "num", .int r39])) := same_upd nt39
            have Xm : ExAt K (upd H39 t39 (.tup [.str "num", .int r39])) t39 (.num r39) := SqT.of upd_same
            have w39 : Same (upd H39 t39 (.tup [.str "num", .int r39])) (upd (upd H39 t39 (.tup [.str "num", .int r39])) v39 (.tup [.str "times", .ref t39, .ref t37])) := same_upd nv39
            have Xr : ExAt K (upd (upd H39 t39 (.tup [.str "num", .int r39])) v39 (.tup [.str "times", .ref t39, .ref t37])) v39 (.mul (.num r39) (.name ms[x37.toNat])) := ⟨t39, t37, SqT.of upd_same, Xm.stay (TupsStay.same w39), Xp.stay (TupsStay.same (u39.trans w39))⟩
            have okr : ExOk ns 1 (.mul (.num r39) (.name ms[x37.toNat])) := ⟨ExOk.num (by omega) _, okp⟩
            have A := A39.same (u39.trans w39)
            have Xa := Xa.stay (TupsStay.same (u39.trans w39))
            have B := (B.trans B39).same (u39.trans w39)
            refine ⟨_, rfl, _, rfl, (by show 3 ≤ sizeLine; decide), fun tz ntz => ?_⟩
            have sz : Same _ (upd _ tz (.tup [.str "add", .ref t10, .ref v39])) := same_upd ntz
            exact q _ _ _ tz (.add (.num r10) (.mul (.num r39) (.name ms[x37.toNat]))) _ (A.same sz) (B.same sz) ⟨t10, v39, SqT.of upd_same, Xa.stay (TupsStay.same sz), Xr.stay (TupsStay.same sz)⟩ ⟨oka.ups (by decide), okr.ups (by decide)⟩ ((one_num (r := r10) (by omega)).grow (oth_mul (r := r39) (by omega) (List.getElem_mem hx37)))
          · skip
            have tt38 := B38.tups A
            have el := B38 _ _ el nlh nlc
            have em := B38 _ _ em nmh nmc
            have Xa := Xa.stay tt38
            have Xp := Xp.stay tt38
            have B := B.trans B38
            have A := A38
            refine ⟨_, rfl, _, rfl, (by show 3 ≤ sizeLine; decide), fun tz ntz => ?_⟩
            have sz : Same _ (upd _ tz (.tup [.str "add", .ref t10, .ref t37])) := same_upd ntz
            exact q _ _ _ tz (.add (.num r10) (.name ms[x37.toNat])) _ (A.same sz) (B.same sz) ⟨t10, t37, SqT.of upd_same, Xa.stay (TupsStay.same sz), Xp.stay (TupsStay.same sz)⟩ ⟨oka.ups (by decide), okp.ups (by decide)⟩ ((one_num (r := r10) (by omega)).grow (oth_name (List.getElem_mem hx37)))
        · skip
          have tt36 := B36.tups A
          have el := B36 _ _ el nlh nlc
          have em := B36 _ _ em nmh nmc
          have Xa := Xa.stay tt36
          have Xo := Xo.stay tt36
          have B := B.trans B36
          have A := A36
          refine ⟨_, rfl, _, rfl, (by show 3 ≤ sizeLine; decide), fun tz ntz => ?_⟩
          have sz : Same _ (upd _ tz (.tup [.str "add", .ref t10, .ref t34])) := same_upd ntz
          exact q _ _ _ tz (.add (.num r10) (.num v33)) _ (A.same sz) (B.same sz) ⟨t10, t34, SqT.of upd_same, Xa.stay (TupsStay.same sz), Xo.stay (TupsStay.same sz)⟩ ⟨oka.ups (by decide), oko.ups (by decide)⟩ ((one_num (r := r10) (by omega)).grow (oth_num (r := v33) (by rcases hv33 with z | z <;> omega)))
      · skip
        refine ⟨_, rfl, _, rfl, (by show 3 ≤ sizeLine; decide), fun tz ntz => ?_⟩
        have sz : Same _ (upd _ tz (.tup [.str "add", .ref t10, .ref t34])) := same_upd ntz
        exact q _ _ _ tz (.add (.num r10) (.num v33)) _ (A.same sz) (B.same sz) ⟨t10, t34, SqT.of upd_same, Xa.stay (TupsStay.same sz), Xo.stay (TupsStay.same sz)⟩ ⟨oka.ups (by decide), oko.ups (by decide)⟩ ((one_num (r := r10) (by omega)).grow (oth_num (r := v33) (by rcases hv33 with z | z <;> omega)))
end
def cntR : Rw → Nat
  | .nil => 0
  | .set _ _ r => cntR r + 1
  | .say _ r => cntR r + 1
  | .lap _ _ b r => cntR b + cntR r + 1
theorem cntR_app : ∀ (a b : Rw), cntR (appR a b) = cntR a + cntR b
  | .nil, b => (Nat.zero_add _).symm
  | .set _ _ r, b => by show cntR (appR r b) + 1 = cntR r + 1 + cntR b; rw [cntR_app r b]; omega
  | .say _ r, b => by show cntR (appR r b) + 1 = cntR r + 1 + cntR b; rw [cntR_app r b]; omega
  | .lap _ _ q r, b => by show cntR q + cntR (appR r b) + 1 = cntR q + cntR r + 1 + cntR b; rw [cntR_app r b]; omega
/-! ### drawn laps and rows -/
theorem cut_sub (ns : List Str) (a b : Option Int) : ∃ ys : List Str, cutV (ns.map V.str) a b = ys.map V.str ∧ (∀ y ∈ ys, y ∈ ns) ∧ ys.length ≤ ns.length := by
  unfold cutV
  rw [← List.map_drop, ← List.map_take]
  refine ⟨_, rfl, fun y hy => List.mem_of_mem_drop (List.mem_of_mem_take hy), ?_⟩
  rw [List.length_take, List.length_drop]
  omega
theorem TextsOk.sub {ns ms : List Str} (h : TextsOk ns) (s : ∀ y ∈ ms, y ∈ ns) : TextsOk ms := fun x hx => h x (s x hx)
theorem at_name {ns : List Str} (h7 : ns.length = 7) {i : Int} (h0 : 0 ≤ i) (h1 : i < 7) : ∃ x, x ∈ ns ∧ atI (ns.map V.str) i = some (.str x) := by
  have hx : i.toNat < ns.length := by omega
  refine ⟨ns[i.toNat], List.getElem_mem hx, at_of (j := i.toNat) (by omega) ?_⟩
  rw [List.getElem?_map, List.getElem?_eq_getElem hx]
  rfl
theorem StsAt.app' {K : PySem.W.Frag} {H : Hp} {r s : Rw} {qs rs : List Addr} (hs : StsAt K H s rs) (hr : StsAt K H r qs) : StsAt K H (appR r s) (qs ++ rs) := StsAt.app hs hr
def SqL1 (K : PySem.W.Frag) (H : Hp) (p : Addr) (qs : List Addr) : Prop := SqT K H p (qs.map V.ref)
theorem SqL1.stay {K : PySem.W.Frag} {H H' : Hp} {p : Addr} {qs : List Addr} (h : SqL1 K H p qs) (s : TupsStay H H') : SqL1 K H' p qs := SqT.keeps h s
section
variable {P : Program} {w : World} {K : PySem.W.Frag} {mg : Str → Option Value} {base : Heap} {C : Addr}
def spRow (K : PySem.W.Frag) (n : Nat) : Sp := fun vs H Q _ => ∃ (h c l : Addr) (s k : Int) (cs : List Int) (ns : List Str) (d : Nat) (odd : Bool), vs = [.ref h, .ref l, .int (d : Int), .bl odd] ∧ d + n = 3 ∧ HAt H h c s k cs ∧ H l = some (.lst (ns.map V.str)) ∧ l ≠ h ∧ l ≠ c ∧ ns.length = 7 ∧ TextsOk ns ∧
  ∀ (s' k' : Int) (cs' : List Int) (p : Addr) (rw_ : Rw) (H' : Hp), HAt H' h c s' k' cs' → But h c H H' → RwAt K H' p rw_ → RwOk ns rw_ n → RwT ns rw_ → lenR rw_ ≤ 6 → 1 ≤ lenR rw_ → cntR rw_ ≤ 4 * n + 5 → (n = 0 → cntR rw_ ≤ 3) → Q (.ref p) H'
def spLap (K : PySem.W.Frag) (n : Nat) : Sp := fun vs H Q _ => ∃ (h c l : Addr) (s k : Int) (cs : List Int) (ns : List Str) (d : Nat) (odd : Bool), vs = [.ref h, .ref l, .int (d : Int), .bl odd] ∧ d + n = 3 ∧ 1 ≤ n ∧ HAt H h c s k cs ∧ H l = some (.lst (ns.map V.str)) ∧ l ≠ h ∧ l ≠ c ∧ ns.length = 7 ∧ TextsOk ns ∧
  ∀ (s' k' : Int) (cs' : List Int) (p : Addr) (x : Str) (m : Ex) (b : Rw) (H' : Hp), HAt H' h c s' k' cs' → But h c H H' → StsAt K H' (.lap x m b .nil) [p] → RwOk ns (.lap x m b .nil) n → RwT ns (.lap x m b .nil) → cntR b ≤ 4 * n + 1 → Q (.ref p) H'
theorem fn_or {CX : CXT} {k : Nat} {f : Addr} {fd : FuncData} {ps : List Str} {sp sp' : Sp} (F : FnOk P w K mg base CX k f fd ps sp) (G : FnOk P w K mg base CX k f fd ps sp') : FnOk P w K mg base CX k f fd ps (fun vs H Q E => sp vs H Q E ∨ sp' vs H Q E) :=
  ⟨fun vs H Q E q => q.elim (F.len vs H Q E) (G.len vs H Q E), fun A outer s H args us vs Q E hr he hb hv hs => hs.elim (F.run A outer s H args us vs Q E hr he hb hv) (G.run A outer s H args us vs Q E hr he hb hv)⟩
set_option maxHeartbeats 4000000 in
theorem ok_law_lap {f f0 : Addr} {fd fd0 : FuncData} {n : Nat} (T : Txt K mg C) (F : DefAt K mg "_law_lap" "_law_lap" s_law_lap ["_law_h", "_law_names_here", "_law_depth", "_law_odd"] f fd) (D_law_row : DefAt K mg "_law_row" "_law_row" s_law_row ["_law_h", "_law_names_here", "_law_depth", "_law_odd"] f0 fd0)
    (G0 : FnOk P w K mg base CX0 6 f0 fd0 ["_law_h", "_law_names_here", "_law_depth", "_law_odd"] (spRow K 0)) (G1 : FnOk P w K mg base CX0 (2 * n + 6) f0 fd0 ["_law_h", "_law_names_here", "_law_depth", "_law_odd"] (spRow K n)) :
    FnOk P w K mg base CX0 (2 * n + 7) f fd ["_law_h", "_law_names_here", "_law_depth", "_law_odd"] (spLap K (n + 1)) := by
  have G_law_row := fn_or (G0.mono (by omega : 6 ≤ 2 * n + 6)) G1
  obtain ⟨f1, fd1, D_law_next⟩ := T.d_law_next
  have G_law_next : FnOk P w K mg base CX0 1 f1 fd1 ["_law_h", "_law_many"] spNext := ok_law_next T D_law_next
  obtain ⟨f2, fd2, D_law_measure⟩ := T.d_law_measure
  have G_law_measure : FnOk P w K mg base CX0 2 f2 fd2 ["_law_h", "_law_guard", "_law_calm"] (spMeas K) := ok_law_measure T D_law_measure
  refine F.F.ok sc_law_lap (fun vs H Q E h => ?_) (fun cdv A outer s H vs Q E hr h => ?_)
  · obtain ⟨h, c, l, s, k, cs, ns, d, odd, rfl, _⟩ := h
    rfl
  · obtain ⟨h, c, l, z, k, cs, ns, d, odd, rfl, hd, _, A, el, nlh, nlc, h7, tx, q⟩ := h
    refine ⟨_, (pss_cons (ps_set (i := 4) sc_law_lap.nd rfl (.inl rfl) (pe_ix ix_list (pv 1) (pv 2) (fun _ _ => rfl)))
      (pss_cons (ps_if (PW.pt (pw_and (pt_val (pv 3)) (pw_and1 (pt_cmpR op_eq (pe_call G_law_next (hr.mono (by omega)) (by rfl) D_law_next.g D_law_next.F.kp D_law_next.b .nil pass0 (pa_cons (pv 0) (pa_cons pe_int pa_nil))) pe_int (nomark _))))) (pss_cons (ps_set (i := 5) sc_law_lap.nd rfl (.inl rfl) (pe_call G_law_row (hr.mono (by omega)) (by rfl) D_law_row.g D_law_row.F.kp D_law_row.b .nil pass0 (pa_cons (pv 0) (pa_cons (pv 1) (pa_cons pe_int (pa_cons (pv 3) pa_nil)))))) (pss_cons (ps_set (i := 6) sc_law_lap.nd rfl (.inl rfl) (pe_tup (pa_cons pe_str (pa_cons (pe_ix ix_list (pv 1) pe_int (fun _ _ => rfl)) pa_nil)))) (pss_cons (ps_set (i := 7) sc_law_lap.nd rfl (.inl rfl) (pe_tup (pa_cons (pe_tup (pa_cons pe_str (pa_cons (pv 4) (pa_cons (pe_tup (pa_cons pe_str (pa_cons (pv 6) (pa_cons (pe_tup (pa_cons pe_str (pa_cons (pv 4) pa_nil))) pa_nil)))) pa_nil)))) (pa_cons (pe_tup (pa_cons pe_str (pa_cons (pe_ix ix_list (pv 1) pe_int (fun _ _ => rfl)) (pa_cons (pe_tup (pa_cons pe_str (pa_cons pe_int pa_nil))) pa_nil)))) pa_nil)))) (pss_one (ps_ret (pe_tup (pa_cons pe_str (pa_cons (pv 4) (pa_cons (pe_tup (pa_cons pe_str (pa_cons (pe_tup (pa_cons pe_str (pa_cons (pv 4) pa_nil))) (pa_cons (pv 6) pa_nil)))) (pa_cons (pe_tup (pa_cons pe_str (pa_cons (pe_op op_catT (pe_ix ix_tup (pv 5) pe_int (fun _ _ => rfl)) (pv 7)) pa_nil))) pa_nil)))))))))) pss_nil)
      (pss_one (ps_ret (pe_tup (pa_cons pe_str (pa_cons (pv 4) (pa_cons (pe_call G_law_measure (hr.mono (by omega)) (by rfl) D_law_measure.g D_law_measure.F.kp D_law_measure.b .nil pass0 (pa_cons (pv 0) (pa_cons (pv 4) (pa_cons (pe_slice sl_list (pv 1) po_none (po_some (pv 2))) pa_nil)))) (pa_cons (pe_call G_law_row (hr.mono (by omega)) (by rfl) D_law_row.g D_law_row.F.kp D_law_row.b .nil pass0 (pa_cons (pv 0) (pa_cons (pv 1) (pa_cons (pe_op op_add (pv 2) pe_int) (pa_cons (pv 3) pa_nil))))) pa_nil))))))))), ?_⟩
    obtain ⟨g, hg, gg, atg⟩ := at_guard h7 (i := (d : Int)) (by omega)
    obtain ⟨y, hy, gy, aty⟩ := at_guard h7 (i := 6) (by omega)
    have len7 : 7 ≤ sizeLine := by rw [sizeLine_eq]; decide
    refine ⟨_, rfl, _, rfl, l, _, _, _, rfl, rfl, SqL.of el, atg, ?_⟩
    have B := But.refl h c H
    refine ⟨_, rfl, _, rfl, ?_⟩
    cases odd with
    | false =>
      simp only [Bool.false_eq_true, ↓reduceIte]
      refine ⟨_, rfl, _, rfl, _, rfl, _, rfl, _, rfl, (d : Int), rfl, l, _, rfl, SqL.of el, fun ls nls => ?_⟩
      obtain ⟨ys, ey, sy, ly⟩ := cut_sub ns none (some (d : Int))
      rw [ey]
      have uls : Same H (upd H ls (.lst (ys.map V.str))) := same_upd nls
      have nlsh : ls ≠ h := (ne_of_none A.h nls).symm
      have nlsc : ls ≠ c := (ne_of_none A.c nls).symm
      have A := A.same uls
      have el := uls _ _ el
      have B := B.same uls
      refine ⟨h, c, ls, _, _, _, g, ys, ns, rfl, A, upd_same, nlsh, nlsc, by omega, tx.sub sy, hg, sy, fun s5 k5 cs5 pm m H5 A5 B5 Xm okm => ?_⟩
      have el := B5 _ _ el nlh nlc
      refine ⟨_, rfl, _, rfl, _, rfl, _, _, rfl, rfl, _, rfl, .inr ⟨h, c, l, _, _, _, ns, d + 1, _, rfl, by omega, A5, el, nlh, nlc, h7, tx, fun s6 k6 cs6 pb b H6 A6 B6 Rb okb tb lb _ cb _ => ⟨(by show 4 ≤ sizeLine; decide), fun p np => ?_⟩⟩⟩
      have up : Same H6 (upd H6 p (.tup [.str "lap", .str g, .ref pm, .ref pb])) := same_upd np
      obtain ⟨pt, qb, r1, r2, r3⟩ := Rb.stay (TupsStay.same up)
      exact q _ _ _ p g m b _ (A6.same up) (((B.trans B5).trans B6).same up) ⟨p, [], pm, pb, pt, qb, rfl, SqT.of upd_same, (Xm.stay (B6.tups A5)).stay (TupsStay.same up), r1, r2, r3, rfl⟩ ⟨hg, okm.ups (by decide), by omega, by omega, okb, True.intro⟩ ⟨gg, okm, tb, True.intro⟩ (by omega)
    | true =>
      simp only [↓reduceIte]
      refine ⟨_, rfl, h, c, _, _, 3, _, rfl, by decide, by decide, A, fun s2 k2 cs2 r2 H2 r20 r23 A2 B2 => ⟨rfl, _, rfl, ite2 (fun e => ?_) (fun e => ?_)⟩⟩
      · skip
        have tt2 := B2.tups A
        have el := B2 _ _ el nlh nlc
        have B := B.trans B2
        have A := A2
        refine ⟨_, rfl, _, rfl, _, rfl, .inl ⟨h, c, l, _, _, _, ns, 3, _, rfl, by omega, A, el, nlh, nlc, h7, tx, fun s3 k3 cs3 pi b0 H3 A3 B3 R0 ok0 tm0 l0 l1 _ c0 => ?_⟩⟩
        have el := B3 _ _ el nlh nlc
        have B := B.trans B3
        have A := A3
        refine ⟨_, rfl, l, _, _, _, rfl, rfl, SqL.of el, aty, (by show 2 ≤ sizeLine; decide), fun tl ntl => ?_⟩
        have utl : Same H3 (upd H3 tl (.tup [.str "name", .str y])) := same_upd ntl
        have Xl : ExAt K (upd H3 tl (.tup [.str "name", .str y])) tl (.name y) := SqT.of upd_same
        have A := A.same utl
        have el := utl _ _ el
        have R0 := R0.stay (TupsStay.same utl)
        have B := B.same utl
        generalize (upd H3 tl (.tup [.str "name", .str y])) = H_tl at utl A el B R0 Xl
        refine ⟨_, rfl, _, rfl, _, rfl, (by show 2 ≤ sizeLine; decide), fun tg ntg => ?_⟩
        have utg : Same H_tl (upd H_tl tg (.tup [.str "name", .str g])) := same_upd ntg
        have Xg : ExAt K (upd H_tl tg (.tup [.str "name", .str g])) tg (.name g) := SqT.of upd_same
        have A := A.same utg
        have el := utg _ _ el
        have R0 := R0.stay (TupsStay.same utg)
        have Xl := Xl.stay (TupsStay.same utg)
        have B := B.same utg
        generalize (upd H_tl tg (.tup [.str "name", .str g])) = H_tg at utg A el B R0 Xl Xg
        refine ⟨(by show 3 ≤ sizeLine; decide), fun ta nta => ?_⟩
        have uta : Same H_tg (upd H_tg ta (.tup [.str "add", .ref tl, .ref tg])) := same_upd nta
        have Xa : ExAt K (upd H_tg ta (.tup [.str "add", .ref tl, .ref tg])) ta (.add (.name y) (.name g)) := ⟨tl, tg, SqT.of upd_same, Xl.stay (TupsStay.same uta), Xg.stay (TupsStay.same uta)⟩
        have A := A.same uta
        have el := uta _ _ el
        have R0 := R0.stay (TupsStay.same uta)
        have Xl := Xl.stay (TupsStay.same uta)
        have Xg := Xg.stay (TupsStay.same uta)
        have B := B.same uta
        generalize (upd H_tg ta (.tup [.str "add", .ref tl, .ref tg])) = H_ta at uta A el B R0 Xl Xg Xa
        refine ⟨(by show 3 ≤ sizeLine; decide), fun ts nts => ?_⟩
        have uts : Same H_ta (upd H_ta ts (.tup [.str "set", .str g, .ref ta])) := same_upd nts
        have Xs : StsAt K (upd H_ta ts (.tup [.str "set", .str g, .ref ta])) (.set g (.add (.name y) (.name g)) .nil) [ts] := ⟨ts, [], ta, rfl, SqT.of upd_same, Xa.stay (TupsStay.same uts), rfl⟩
        have A := A.same uts
        have el := uts _ _ el
        have R0 := R0.stay (TupsStay.same uts)
        have Xl := Xl.stay (TupsStay.same uts)
        have Xg := Xg.stay (TupsStay.same uts)
        have Xa := Xa.stay (TupsStay.same uts)
        have B := B.same uts
        generalize (upd H_ta ts (.tup [.str "set", .str g, .ref ta])) = H_ts at uts A el B R0 Xl Xg Xa Xs
        refine ⟨_, rfl, l, _, _, _, rfl, rfl, SqL.of el, aty, (by show 2 ≤ sizeLine; decide), fun tz ntz => ?_⟩
        have utz : Same H_ts (upd H_ts tz (.tup [.str "num", .int 0])) := same_upd ntz
        have Xz : ExAt K (upd H_ts tz (.tup [.str "num", .int 0])) tz (.num 0) := SqT.of upd_same
        have A := A.same utz
        have el := utz _ _ el
        have R0 := R0.stay (TupsStay.same utz)
        have Xl := Xl.stay (TupsStay.same utz)
        have Xg := Xg.stay (TupsStay.same utz)
        have Xa := Xa.stay (TupsStay.same utz)
        have Xs := Xs.stay (TupsStay.same utz)
        have B := B.same utz
        generalize (upd H_ts tz (.tup [.str "num", .int 0])) = H_tz at utz A el B R0 Xl Xg Xa Xs Xz
        refine ⟨(by show 3 ≤ sizeLine; decide), fun tt ntt => ?_⟩
        have utt : Same H_tz (upd H_tz tt (.tup [.str "set", .str y, .ref tz])) := same_upd ntt
        have Xt : StsAt K (upd H_tz tt (.tup [.str "set", .str y, .ref tz])) (.set y (.num 0) .nil) [tt] := ⟨tt, [], tz, rfl, SqT.of upd_same, Xz.stay (TupsStay.same utt), rfl⟩
        have A := A.same utt
        have el := utt _ _ el
        have R0 := R0.stay (TupsStay.same utt)
        have Xl := Xl.stay (TupsStay.same utt)
        have Xg := Xg.stay (TupsStay.same utt)
        have Xa := Xa.stay (TupsStay.same utt)
        have Xs := Xs.stay (TupsStay.same utt)
        have Xz := Xz.stay (TupsStay.same utt)
        have B := B.same utt
        generalize (upd H_tz tt (.tup [.str "set", .str y, .ref tz])) = H_tt at utt A el B R0 Xl Xg Xa Xs Xz Xt
        have Xst := Xt.app' Xs
        refine ⟨(by show 2 ≤ sizeLine; decide), fun tm ntm => ?_⟩
        have utm : Same H_tt (upd H_tt tm (.tup [.ref ts, .ref tt])) := same_upd ntm
        have Xm : SqL1 K (upd H_tt tm (.tup [.ref ts, .ref tt])) tm [ts, tt] := SqT.of upd_same
        have A := A.same utm
        have el := utm _ _ el
        have R0 := R0.stay (TupsStay.same utm)
        have Xl := Xl.stay (TupsStay.same utm)
        have Xg := Xg.stay (TupsStay.same utm)
        have Xa := Xa.stay (TupsStay.same utm)
        have Xs := Xs.stay (TupsStay.same utm)
        have Xz := Xz.stay (TupsStay.same utm)
        have Xt := Xt.stay (TupsStay.same utm)
        have Xst := Xst.stay (TupsStay.same utm)
        have B := B.same utm
        generalize (upd H_tt tm (.tup [.ref ts, .ref tt])) = H_tm at utm A el B R0 Xl Xg Xa Xs Xz Xt Xst Xm
        refine ⟨_, rfl, _, rfl, (by show 2 ≤ sizeLine; decide), fun tu ntu => ?_⟩
        have utu : Same H_tm (upd H_tm tu (.tup [.str "name", .str g])) := same_upd ntu
        have Xu : ExAt K (upd H_tm tu (.tup [.str "name", .str g])) tu (.name g) := SqT.of upd_same
        have A := A.same utu
        have el := utu _ _ el
        have R0 := R0.stay (TupsStay.same utu)
        have Xl := Xl.stay (TupsStay.same utu)
        have Xg := Xg.stay (TupsStay.same utu)
        have Xa := Xa.stay (TupsStay.same utu)
        have Xs := Xs.stay (TupsStay.same utu)
        have Xz := Xz.stay (TupsStay.same utu)
        have Xt := Xt.stay (TupsStay.same utu)
        have Xst := Xst.stay (TupsStay.same utu)
        have Xm := Xm.stay (TupsStay.same utu)
        have B := B.same utu
        generalize (upd H_tm tu (.tup [.str "name", .str g])) = H_tu at utu A el B R0 Xl Xg Xa Xs Xz Xt Xst Xm Xu
        refine ⟨_, rfl, (by show 3 ≤ sizeLine; decide), fun tv ntv => ?_⟩
        have utv : Same H_tu (upd H_tu tv (.tup [.str "add", .ref tu, .ref tl])) := same_upd ntv
        have Xv : ExAt K (upd H_tu tv (.tup [.str "add", .ref tu, .ref tl])) tv (.add (.name g) (.name y)) := ⟨tu, tl, SqT.of upd_same, Xu.stay (TupsStay.same utv), Xl.stay (TupsStay.same utv)⟩
        have A := A.same utv
        have el := utv _ _ el
        have R0 := R0.stay (TupsStay.same utv)
        have Xl := Xl.stay (TupsStay.same utv)
        have Xg := Xg.stay (TupsStay.same utv)
        have Xa := Xa.stay (TupsStay.same utv)
        have Xs := Xs.stay (TupsStay.same utv)
        have Xz := Xz.stay (TupsStay.same utv)
        have Xt := Xt.stay (TupsStay.same utv)
        have Xst := Xst.stay (TupsStay.same utv)
        have Xm := Xm.stay (TupsStay.same utv)
        have Xu := Xu.stay (TupsStay.same utv)
        have B := B.same utv
        generalize (upd H_tu tv (.tup [.str "add", .ref tu, .ref tl])) = H_tv at utv A el B R0 Xl Xg Xa Xs Xz Xt Xst Xm Xu Xv
        obtain ⟨p0, q0, w1, w2, w3⟩ := id R0
        have lq := w3.len
        refine ⟨_, rfl, pi, _, _, _, rfl, rfl, w1, atI_nat (j := 1) rfl, _, rfl, p0, tm, _, _, rfl, rfl, w2, Xm, ?_, ?_, ?_⟩
        · intro z0
          have z1 := congrArg List.length z0
          rw [List.length_map, lq] at z1
          have z2 : lenR b0 = 0 := z1
          omega
        · rw [List.length_map, lq, List.length_map, sizeLine_eq]
          show lenR b0 + 2 ≤ _
          omega
        · refine ⟨fun z0 => (nomatch z0), fun _ pq npq => ⟨(by show 2 ≤ sizeLine; decide), fun pr npr => ⟨(by show 4 ≤ sizeLine; decide), fun p np => ?_⟩⟩⟩
          have g1 := same_upd (o := .tup (q0.map V.ref ++ [ts, tt].map V.ref)) npq
          have g2 := same_upd (o := .tup [.str "row", .ref pq]) npr
          have g3 := same_upd (o := .tup [.str "lap", .str g, .ref tv, .ref pr]) np
          have g123 := (g1.trans g2).trans g3
          have okb : RwOk ns (appR b0 (appR (.set g (.add (.name y) (.name g)) .nil) (.set y (.num 0) .nil))) n := RwOk.app (show RwOk ns (appR (.set g (.add (.name y) (.name g)) .nil) (.set y (.num 0) .nil)) n from ⟨hg, ⟨ExOk.name hy _, ExOk.name hg _⟩, hy, ExOk.num (by omega) _, True.intro⟩) (RwOk.up (Nat.zero_le _) ok0)
          have lb : lenR (appR b0 (appR (.set g (.add (.name y) (.name g)) .nil) (.set y (.num 0) .nil))) ≤ 8 := by
            rw [lenR_app]
            show lenR b0 + 2 ≤ 8
            omega
          have eqs : (q0 ++ ([ts] ++ [tt])).map V.ref = q0.map V.ref ++ [ts, tt].map V.ref := by rw [List.map_append]; rfl
          have w4 := (Xst.app' w3).stay (TupsStay.same g123)
          exact q _ _ _ p g (.add (.name g) (.name y)) _ _ (A.same g123) (B.same g123) ⟨p, [], tv, pr, pq, q0 ++ ([ts] ++ [tt]), rfl, SqT.of upd_same, Xv.stay (TupsStay.same g123), SqT.keeps (SqT.of upd_same) (TupsStay.same g3), by rw [eqs]; exact SqT.keeps (SqT.of upd_same) (TupsStay.same (g2.trans g3)), w4, rfl⟩ ⟨hg, ⟨ExOk.name hg _, ExOk.name hy _⟩, by omega, lb, okb, True.intro⟩ ⟨gg, ⟨ExOk.name hg _, ExOk.name hy _⟩, RwT.app (show RwT ns (appR (.set g (.add (.name y) (.name g)) .nil) (.set y (.num 0) .nil)) from ⟨.inl ⟨gg, grd_two gy gg⟩, .inl ⟨ExOk.name hy _, ExOk.name hg _⟩, .inl ⟨gy, grd_num (by omega)⟩, .inl (ExOk.num (by omega) _), True.intro⟩) tm0, True.intro⟩ (by rw [cntR_app]; show cntR b0 + 2 ≤ _; have := c0 rfl; omega)
      · skip
        have tt2 := B2.tups A
        have el := B2 _ _ el nlh nlc
        have B := B.trans B2
        have A := A2
        refine ⟨_, rfl, _, rfl, _, rfl, _, rfl, _, rfl, (d : Int), rfl, l, _, rfl, SqL.of el, fun ls nls => ?_⟩
        obtain ⟨ys, ey, sy, ly⟩ := cut_sub ns none (some (d : Int))
        rw [ey]
        have uls : Same H2 (upd H2 ls (.lst (ys.map V.str))) := same_upd nls
        have nlsh : ls ≠ h := (ne_of_none A.h nls).symm
        have nlsc : ls ≠ c := (ne_of_none A.c nls).symm
        have A := A.same uls
        have el := uls _ _ el
        have B := B.same uls
        refine ⟨h, c, ls, _, _, _, g, ys, ns, rfl, A, upd_same, nlsh, nlsc, by omega, tx.sub sy, hg, sy, fun s5 k5 cs5 pm m H5 A5 B5 Xm okm => ?_⟩
        have el := B5 _ _ el nlh nlc
        refine ⟨_, rfl, _, rfl, _, rfl, _, _, rfl, rfl, _, rfl, .inr ⟨h, c, l, _, _, _, ns, d + 1, _, rfl, by omega, A5, el, nlh, nlc, h7, tx, fun s6 k6 cs6 pb b H6 A6 B6 Rb okb tb lb _ cb _ => ⟨(by show 4 ≤ sizeLine; decide), fun p np => ?_⟩⟩⟩
        have up : Same H6 (upd H6 p (.tup [.str "lap", .str g, .ref pm, .ref pb])) := same_upd np
        obtain ⟨pt, qb, r1, r2, r3⟩ := Rb.stay (TupsStay.same up)
        exact q _ _ _ p g m b _ (A6.same up) (((B.trans B5).trans B6).same up) ⟨p, [], pm, pb, pt, qb, rfl, SqT.of upd_same, (Xm.stay (B6.tups A5)).stay (TupsStay.same up), r1, r2, r3, rfl⟩ ⟨hg, okm.ups (by decide), by omega, by omega, okb, True.intro⟩ ⟨gg, okm, tb, True.intro⟩ (by omega)
end
def budR (n : Nat) (laps : Int) : Nat := if laps = 3 ∧ 1 ≤ n then 4 * n + 2 else 0
theorem budR_no {n : Nat} {laps : Int} (h : laps ≤ 2) : budR n laps = 0 := if_neg fun z => by omega
theorem budR_3 {n : Nat} (h : 1 ≤ n) : budR n 3 = 4 * n + 2 := if_pos ⟨rfl, h⟩
theorem budR_0 {laps : Int} : budR 0 laps = 0 := if_neg fun z => by omega
theorem budR_le (n : Nat) (laps : Int) : budR n laps ≤ 4 * n + 2 := by unfold budR; split <;> omega
/-- what a row's loop keeps -/
structure RI (K : PySem.W.Frag) (H : Hp) (h c l lp lw : Addr) (ns ys : List Str) (n : Nat) (H2 : Hp) (qs : List Addr) (rw_ : Rw) : Prop where
  A : ∃ (s k : Int) (cs : List Int), HAt H2 h c s k cs
  el : H2 l = some (.lst (ns.map V.str))
  ep : H2 lp = some (.lst (qs.map V.ref))
  ew : H2 lw = some (.lst (ys.map V.str))
  st : StsAt K H2 rw_ qs
  ok : RwOk ns rw_ n
  tm : RwT ns rw_
  B : But h c H H2
structure Apart (H : Hp) (h c l lp lw : Addr) : Prop where
  ph : lp ≠ h
  pc : lp ≠ c
  pl : lp ≠ l
  pw : lp ≠ lw
  wh : lw ≠ h
  wc : lw ≠ c
  lh : l ≠ h
  lc : l ≠ c
  new : H lp = none
section
variable {P : Program} {w : World} {K : PySem.W.Frag} {mg : Str → Option Value} {base : Heap} {C : Addr}
theorem But.other {h c l : Addr} {H H1 H2 : Hp} (B : But h c H H1) (e : Else l H1 H2) (n : H l = none) : But h c H H2 := fun p o q nh nc => e p o (B p o q nh nc) (fun z => by rw [z, n] at q; cases q)
theorem RI.same {H H2 H3 : Hp} {h c l lp lw : Addr} {ns ys : List Str} {n : Nat} {qs : List Addr} {r : Rw} (I : RI K H h c l lp lw ns ys n H2 qs r) (u : Same H2 H3) : RI K H h c l lp lw ns ys n H3 qs r :=
  ⟨let ⟨s, k, cs, a⟩ := I.A; ⟨s, k, cs, a.same u⟩, u _ _ I.el, u _ _ I.ep, u _ _ I.ew, I.st.stay (TupsStay.same u), I.ok, I.tm, I.B.same u⟩
theorem RI.but {H H2 H3 : Hp} {h c l lp lw : Addr} {ns ys : List Str} {n : Nat} {qs : List Addr} {r : Rw} (I : RI K H h c l lp lw ns ys n H2 qs r) (D : Apart H h c l lp lw) {s k : Int} {cs : List Int} (A : HAt H3 h c s k cs) (B : But h c H2 H3) : RI K H h c l lp lw ns ys n H3 qs r :=
  let ⟨_, _, _, a⟩ := I.A
  ⟨⟨s, k, cs, A⟩, B _ _ I.el D.lh D.lc, B _ _ I.ep D.ph D.pc, B _ _ I.ew D.wh D.wc, I.st.stay (B.tups a), I.ok, I.tm, I.B.trans B⟩
theorem RI.fresh {H H2 : Hp} {h c l lp lw a : Addr} {ns ys : List Str} {n : Nat} {qs : List Addr} {r : Rw} (I : RI K H h c l lp lw ns ys n H2 qs r) (e : H2 a = none) (ah : a ≠ h) (ac : a ≠ c) : H a = none := by
  cases q : H a with
  | none => rfl
  | some o => rw [I.B a o q ah ac] at e; cases e
theorem RI.els {H H2 : Hp} {h c l lp lw a : Addr} {ns ys : List Str} {n : Nat} {qs : List Addr} {r : Rw} {u o : HO} (I : RI K H h c l lp lw ns ys n H2 qs r) (na : H a = none) (ah : a ≠ h) (ac : a ≠ c) (al : a ≠ l) (ap : a ≠ lp) (aw : a ≠ lw) (e : H2 a = some u) (nt : NotTup u) : RI K H h c l lp lw ns ys n (upd H2 a o) qs r :=
  ⟨let ⟨s, k, cs, x⟩ := I.A; ⟨s, k, cs, ⟨by rw [upd_ne ah.symm]; exact x.h, by rw [upd_ne ac.symm]; exact x.c, x.n⟩⟩, by rw [upd_ne al.symm]; exact I.el, by rw [upd_ne ap.symm]; exact I.ep, by rw [upd_ne aw.symm]; exact I.ew, I.st.stay (TupsStay.upd e nt), I.ok, I.tm, I.B.other Else.upd na⟩
theorem RI.tups {H H2 H3 : Hp} {h c l lp lw : Addr} {ns ys : List Str} {n : Nat} {qs : List Addr} {r : Rw} (I : RI K H h c l lp lw ns ys n H2 qs r) (B : But h c H2 H3) : TupsStay H2 H3 := let ⟨_, _, _, a⟩ := I.A; B.tups a
theorem RI.add {H H2 : Hp} {h c l lp lw : Addr} {ns ys : List Str} {n : Nat} {qs : List Addr} {r : Rw} (I : RI K H h c l lp lw ns ys n H2 qs r) (D : Apart H h c l lp lw) {one : Rw} {p : Addr} (st : StsAt K H2 one [p]) (ok : RwOk ns one n) (tm : RwT ns one) : RI K H h c l lp lw ns ys n (upd H2 lp (.lst (qs.map V.ref ++ [V.ref p]))) (qs ++ [p]) (appR r one) :=
  have t : TupsStay H2 (upd H2 lp (.lst (qs.map V.ref ++ [V.ref p]))) := TupsStay.upd I.ep True.intro
  ⟨let ⟨s, k, cs, a⟩ := I.A; ⟨s, k, cs, ⟨by rw [upd_ne D.ph.symm]; exact a.h, by rw [upd_ne D.pc.symm]; exact a.c, a.n⟩⟩, by rw [upd_ne D.pl.symm]; exact I.el, by rw [upd_same, List.map_append]; rfl, by rw [upd_ne D.pw.symm]; exact I.ew, StsAt.app (st.stay t) (I.st.stay t), RwOk.app ok I.ok, RwT.app tm I.tm, I.B.other Else.upd D.new⟩
def rowVars : List Str := ["_law_h", "_law_names_here", "_law_depth", "_law_odd", "_law_parts", "_law_low", "_law_laps", "_law_k", "_law_way", "_law_at", "_law_part_here", "_law_some"]
set_option maxHeartbeats 4000000 in
theorem ok_law_row {f f0 : Addr} {fd fd0 : FuncData} {n : Nat} (T : Txt K mg C) (F : DefAt K mg "_law_row" "_law_row" s_law_row ["_law_h", "_law_names_here", "_law_depth", "_law_odd"] f fd) (D_law_lap : DefAt K mg "_law_lap" "_law_lap" s_law_lap ["_law_h", "_law_names_here", "_law_depth", "_law_odd"] f0 fd0)
    (G_law_lap : FnOk P w K mg base CX0 (2 * n + 5) f0 fd0 ["_law_h", "_law_names_here", "_law_depth", "_law_odd"] (fun vs H Q E => 1 ≤ n ∧ spLap K n vs H Q E)) :
    FnOk P w K mg base CX0 (2 * n + 6) f fd ["_law_h", "_law_names_here", "_law_depth", "_law_odd"] (spRow K n) := by
  obtain ⟨f1, fd1, D_law_next⟩ := T.d_law_next
  have G_law_next : FnOk P w K mg base CX0 1 f1 fd1 ["_law_h", "_law_many"] spNext := ok_law_next T D_law_next
  obtain ⟨f2, fd2, D_law_grow⟩ := T.d_law_grow
  have G_law_grow : FnOk P w K mg base CX0 2 f2 fd2 ["_law_h", "_law_low", "_law_some"] (spGrow K) := ok_law_grow T D_law_grow
  obtain ⟨f3, fd3, D_law_part⟩ := T.d_law_part
  have G_law_part : FnOk P w K mg base CX0 5 f3 fd3 ["_law_h", "_law_some", "_law_deep"] (spPart K 3) := ok_law_part T D_law_part 3
  refine F.F.ok sc_law_row (fun vs H Q E h => ?_) (fun cdv A outer s H vs Q E hr h => ?_)
  · obtain ⟨h, c, l, s, k, cs, ns, d, odd, rfl, _⟩ := h
    rfl
  · obtain ⟨h, c, l, z, k, cs, ns, d, odd, rfl, hd, A, el, nlh, nlc, h7, tx, q⟩ := h
    refine ⟨_, (pss_cons (ps_set (i := 4) sc_law_row.nd rfl (.inl rfl) (pe_lst pa_nil))
      (pss_cons (ps_set (i := 5) sc_law_row.nd rfl (.inl rfl) (pe_slice sl_list (pv 1) po_none (po_some (pv 2))))
      (pss_cons (ps_set (i := 6) sc_law_row.nd rfl (.inl rfl) (pv 2))
      (pss_cons (ps_for PassesOwn.never rfl (pi_range1 rfl T.m_range (pa_cons (pe_op op_add pe_int (pe_call G_law_next (hr.mono (by omega)) (by rfl) D_law_next.g D_law_next.F.kp D_law_next.b .nil pass0 (pa_cons (pv 0) (pa_cons pe_int pa_nil)))) pa_nil)) (pg_name (i := 7) sc_law_row.nd rfl (.inl rfl)) (pss_cons (ps_set (i := 8) sc_law_row.nd rfl (.inl rfl) (pe_call G_law_next (hr.mono (by omega)) (by rfl) D_law_next.g D_law_next.F.kp D_law_next.b .nil pass0 (pa_cons (pv 0) (pa_cons pe_int pa_nil)))) (pss_one (ps_if (pt_cmpR op_lt (pv 8) pe_int (nomark _)) (pss_cons (ps_set (i := 9) sc_law_row.nd rfl (.inl rfl) (pe_op op_add pe_int (pe_call G_law_next (hr.mono (by omega)) (by rfl) D_law_next.g D_law_next.F.kp D_law_next.b .nil pass0 (pa_cons (pv 0) (pa_cons pe_int pa_nil))))) (pss_cons (ps_set (i := 10) sc_law_row.nd rfl (.inl rfl) (pe_call G_law_grow (hr.mono (by omega)) (by rfl) D_law_grow.g D_law_grow.F.kp D_law_grow.b .nil pass0 (pa_cons (pv 0) (pa_cons (pv 5) (pa_cons (pe_slice sl_list (pv 1) (po_some pe_int) (po_some (pv 9))) pa_nil))))) (pss_cons (ps_if (pt_cmpR op_gt (pe_call G_law_next (hr.mono (by omega)) (by rfl) D_law_next.g D_law_next.F.kp D_law_next.b .nil pass0 (pa_cons (pv 0) (pa_cons pe_int pa_nil))) pe_int (nomark _)) (pss_one (ps_set (i := 10) sc_law_row.nd rfl (.inl rfl) (pe_tup (pa_cons pe_str (pa_cons (pe_tup (pa_cons pe_str (pa_cons (pe_ix ix_list (pv 1) (pv 9) (fun _ _ => rfl)) pa_nil))) (pa_cons (pv 10) pa_nil)))))) pss_nil) (pss_one (ps_expr (pe_bm PySem.F.plainAttrs_list PySem.F.slot_list_append PySem.F.type_list_append mt_append (pv 4) (pa_cons (pe_tup (pa_cons pe_str (pa_cons (pe_ix ix_list (pv 1) (pv 9) (fun _ _ => rfl)) (pa_cons (pv 10) pa_nil)))) pa_nil))))))) (pss_one (ps_if (PW.pt (pw_or (pt_cmpR op_eq (pv 8) pe_int (nomark _)) (pw_or1 (pt_cmpR op_gt (pv 6) pe_int (nomark _))))) (pss_one (ps_expr (pe_bm PySem.F.plainAttrs_list PySem.F.slot_list_append PySem.F.type_list_append mt_append (pv 4) (pa_cons (pe_tup (pa_cons pe_str (pa_cons (pe_call G_law_part (hr.mono (by omega)) (by rfl) D_law_part.g D_law_part.F.kp D_law_part.b .nil pass0 (pa_cons (pv 0) (pa_cons (pe_op op_cat (pv 5) (pe_slice sl_list (pv 1) (po_some pe_int) (po_some pe_int))) (pa_cons pe_int pa_nil)))) pa_nil))) pa_nil)))) (pss_cons (ps_set (i := 6) sc_law_row.nd rfl (.inl rfl) pe_int) (pss_cons (ps_if (PW.pt (pw_or (pt_cmpR op_gt (pv 2) pe_int (nomark _)) (pw_or1 (pt_cmpR op_eq (pe_call G_law_next (hr.mono (by omega)) (by rfl) D_law_next.g D_law_next.F.kp D_law_next.b .nil pass0 (pa_cons (pv 0) (pa_cons pe_int pa_nil))) pe_int (nomark _))))) (pss_cons (ps_set (i := 11) sc_law_row.nd rfl (.inl rfl) (pe_lst (pa_cons (pe_tup (pa_cons pe_str (pa_cons (pe_call G_law_next (hr.mono (by omega)) (by rfl) D_law_next.g D_law_next.F.kp D_law_next.b .nil pass0 (pa_cons (pv 0) (pa_cons pe_int pa_nil))) pa_nil))) pa_nil))) (pss_cons (ps_expr (pe_bm PySem.F.plainAttrs_list PySem.F.slot_list_append PySem.F.type_list_append mt_append (pv 11) (pa_cons (pe_tup (pa_cons pe_str (pa_cons (pe_tup (pa_cons pe_str (pa_cons (pe_ix ix_list (pv 1) (pe_callB (call_max2 rfl) (by rfl) T.m_max (by decide +kernel) (pa_cons pe_int (pa_cons (pe_op op_sub (pv 2) pe_int) pa_nil))) (fun _ _ => rfl)) pa_nil))) (pa_cons (pe_tup (pa_cons pe_str (pa_cons (pe_call G_law_next (hr.mono (by omega)) (by rfl) D_law_next.g D_law_next.F.kp D_law_next.b .nil pass0 (pa_cons (pv 0) (pa_cons pe_int pa_nil))) pa_nil))) pa_nil)))) pa_nil))) (pss_one (ps_expr (pe_bm PySem.F.plainAttrs_list PySem.F.slot_list_append PySem.F.type_list_append mt_append (pv 4) (pa_cons (pe_tup (pa_cons pe_str (pa_cons (pe_ix ix_list (pv 1) (pv 2) (fun _ _ => rfl)) (pa_cons (pe_ix ix_list (pv 11) (pe_call G_law_next (hr.mono (by omega)) (by rfl) D_law_next.g D_law_next.F.kp D_law_next.b .nil pass0 (pa_cons (pv 0) (pa_cons pe_int pa_nil))) (fun _ _ => rfl)) pa_nil)))) pa_nil)))))) pss_nil) (pss_one (ps_expr (pe_bm PySem.F.plainAttrs_list PySem.F.slot_list_append PySem.F.type_list_append mt_append (pv 4) (pa_cons (pe_call G_law_lap (hr.mono (by omega)) (by rfl) D_law_lap.g D_law_lap.F.kp D_law_lap.b .nil pass0 (pa_cons (pv 0) (pa_cons (pv 1) (pa_cons (pv 2) (pa_cons (pv 3) pa_nil))))) pa_nil))))))))))))
      (pss_one (ps_ret (pe_tup (pa_cons pe_str (pa_cons (pe_tupleOf (by rfl) T.m_tuple (pv 4)) pa_nil))))))))), ?_⟩
    refine ⟨(by show 0 ≤ sizeLine; decide), fun lp nlp => ?_⟩
    have up : Same H (upd H lp (.lst [])) := same_upd nlp
    have AH := A
    have elH := el
    have A := A.same up
    have el := up _ _ el
    refine ⟨_, rfl, _, rfl, (d : Int), rfl, l, _, rfl, SqL.of el, fun lw nlw => ?_⟩
    obtain ⟨ys, ey, sy, ly⟩ := cut_sub ns none (some (d : Int))
    rw [ey]
    have uw : Same (upd H lp (.lst [])) (upd (upd H lp (.lst [])) lw (.lst (ys.map V.str))) := same_upd nlw
    have A0 := A
    have A := A.same uw
    have ep : (upd H lp (.lst [])) lp = some (.lst []) := upd_same
    have el0 := el
    have nph : lp ≠ h := (ne_of_none AH.h nlp).symm
    have npc : lp ≠ c := (ne_of_none AH.c nlp).symm
    have npl : lp ≠ l := (ne_of_none elH nlp).symm
    have D : Apart H h c l lp lw := ⟨nph, npc, npl, (ne_of_none ep nlw), (ne_of_none A0.h nlw).symm, (ne_of_none A0.c nlw).symm, nlh, nlc, nlp⟩
    have I : RI K H h c l lp lw ns ys n (upd (upd H lp (.lst [])) lw (.lst (ys.map V.str))) [] .nil := ⟨⟨_, _, _, A⟩, uw _ _ el, uw _ _ ep, upd_same, rfl, True.intro, True.intro, ((But.refl h c H).same up).same uw⟩
    have lenY : ys.length < 1000 := by omega
    have txY := tx.sub sy
    have gY : ∀ x ∈ ys, x ∈ gsOf ns := cut_guard (by omega) ey
    refine ⟨_, rfl, _, rfl, h, c, _, _, 3, _, rfl, by decide, by decide, A, fun s1 k1 cs1 m H1 m0 m3 A1 B1 => ⟨_, _, rfl, rfl, 1 + m, rfl, by omega, Int.lt_of_le_of_lt (by omega : 1 + m ≤ 3) (by decide), for_range (lo := 0) (n := (1 + m).toNat) (fun i σ H2 => ∃ (v7 v8 v9 v10 v11 : Option V) (laps : Int) (qs : List Addr) (r : Rw), σ = [some (.ref h), some (.ref l), some (.int (d : Int)), some (.bl odd), some (.ref lp), some (.ref lw), some (.int laps), v7, v8, v9, v10, v11] ∧ RI K H h c l lp lw ns ys n H2 qs r ∧ (laps = d ∨ laps = 3) ∧ lenR r ≤ 2 * i ∧ i ≤ lenR r ∧ cntR r ≤ i + budR n laps)
      ⟨none, none, none, none, none, _, [], .nil, rfl, I.but D A1 B1, .inl rfl, Nat.le_refl _, Nat.le_refl _, Nat.zero_le _⟩ ?_ ?_⟩⟩
    · clear I A A0 ep el el0 uw up AH elH ey
      rintro i σ H2 hi ⟨v7, v8, v9, v10, v11, laps, qs, r, rfl, I, hl, l1, l2, lc1⟩
      obtain ⟨s2, k2, cs2, A⟩ := I.A
      have lenq : ∀ {H4 : Hp} {qs4 : List Addr} {r4 : Rw}, RI K H h c l lp lw ns ys n H4 qs4 r4 → lenR r4 ≤ 7 → (qs4.map V.ref).length < sizeLine := fun I4 z => by
        rw [List.length_map, I4.st.len, sizeLine_eq]
        omega
      refine ⟨_, rfl, h, c, _, _, 6, _, rfl, by decide, by decide, A, fun s3 k3 cs3 way H3 way0 way6 A3 B3 => ?_⟩
      have I := I.but D A3 B3
      clear A B3
      refine ⟨_, rfl, _, _, rfl, rfl, _, rfl, ite2 (fun e1 => ?_) (fun e1 => ?_)⟩
      · skip
        refine ⟨_, rfl, h, c, _, _, 3, _, rfl, by decide, by decide, A3, fun s4 k4 cs4 at_ H4 at0 at3 A4 B4 => ⟨_, _, rfl, rfl, ?_⟩⟩
        have I := I.but D A4 B4
        clear A3 B4
        refine ⟨_, rfl, _, rfl, _, rfl, (3 : Int), rfl, _, rfl, 3 + at_, rfl, l, _, rfl, SqL.of I.el, fun mm nmm => ?_⟩
        obtain ⟨zs, ez, sz, lz⟩ := cut_sub ns (some 3) (some (3 + at_))
        rw [ez]
        have um : Same H4 (upd H4 mm (.lst (zs.map V.str))) := same_upd nmm
        have I := I.same um
        refine ⟨h, c, lw, mm, _, _, _, ys, zs, ns, rfl, A4.same um, I.ew, upd_same, D.wh, D.wc, (ne_of_none A4.h nmm).symm, (ne_of_none A4.c nmm).symm, lenY, by omega, txY, tx.sub sz, sy, sz, fun s5 k5 cs5 pg g H5 A5 B5 Xg okg grg => ?_⟩
        have I := I.but D A5 B5
        clear A4 B5 um nmm
        obtain ⟨y, hy, oy, aty⟩ := at_other h7 (i := 3 + at_) (by omega) (by omega)
        have oZ : ∀ x ∈ zs, x ∈ osOf ns := cut_other (by omega) (by omega) ez
        refine ⟨_, rfl, h, c, _, _, 4, _, rfl, by decide, by decide, A5, fun s6 k6 cs6 b6 H6 b60 b64 A6 B6 => ⟨_, _, rfl, rfl, _, rfl, ite2 (fun e2 => ?_) (fun e2 => ?_)⟩⟩
        · skip
          have Xg := Xg.stay (I.tups B6)
          have I := I.but D A6 B6
          refine ⟨_, rfl, _, rfl, l, _, _, _, rfl, rfl, SqL.of I.el, aty, (by show 2 ≤ sizeLine; decide), fun t7 n7 => ⟨_, rfl, (by show 3 ≤ sizeLine; decide), fun t8 n8 => ?_⟩⟩
          have u7 : Same H6 (upd H6 t7 (.tup [.str "name", .str y])) := same_upd n7
          have u8 : Same (upd H6 t7 (.tup [.str "name", .str y])) (upd (upd H6 t7 (.tup [.str "name", .str y])) t8 (.tup [.str "add", .ref t7, .ref pg])) := same_upd n8
          have X8 : ExAt K (upd (upd H6 t7 (.tup [.str "name", .str y])) t8 (.tup [.str "add", .ref t7, .ref pg])) t8 (.add (.name y) g) := ⟨t7, pg, SqT.of upd_same, SqT.keeps (SqT.of upd_same) (TupsStay.same u8), Xg.stay (TupsStay.same (u7.trans u8))⟩
          have ok8 : ExOk ns 5 (.add (.name y) g) := ⟨ExOk.name hy _, okg.ups (by decide)⟩
          have I := I.same (u7.trans u8)
          refine ⟨_, rfl, .inl ⟨rfl, _, SqL.of I.ep⟩, _, rfl, _, rfl, l, _, _, _, rfl, rfl, SqL.of I.el, aty, _, rfl, (by show 3 ≤ sizeLine; decide), fun t9 n9 => ?_⟩
          have u9 : Same (upd (upd H6 t7 (.tup [.str "name", .str y])) t8 (.tup [.str "add", .ref t7, .ref pg])) (upd (upd (upd H6 t7 (.tup [.str "name", .str y])) t8 (.tup [.str "add", .ref t7, .ref pg])) t9 (.tup [.str "set", .str y, .ref t8])) := same_upd n9
          have I := I.same u9
          refine ⟨lp, _, _, rfl, rfl, I.ep, lenq I (by omega), ?_⟩
          exact ⟨_, _, _, _, _, laps, _, _, rfl, I.add D (one := .set y (.add (.name y) g) .nil) ⟨t9, [], t8, rfl, SqT.of upd_same, X8.stay (TupsStay.same u9), rfl⟩ ⟨hy, ok8, True.intro⟩ ⟨.inr ⟨oy, (grg.sub gY oZ).more oy⟩, .inr ⟨y, g, rfl, hy, okg⟩, True.intro⟩, hl, by rw [lenR_app]; show lenR r + 1 ≤ _; omega, by rw [lenR_app]; show _ ≤ lenR r + 1; omega, by rw [cntR_app]; show cntR r + 1 ≤ _; omega⟩
        · skip
          have Xg := Xg.stay (I.tups B6)
          have I := I.but D A6 B6
          refine ⟨_, rfl, .inl ⟨rfl, _, SqL.of I.ep⟩, _, rfl, _, rfl, l, _, _, _, rfl, rfl, SqL.of I.el, aty, _, rfl, (by show 3 ≤ sizeLine; decide), fun t9 n9 => ?_⟩
          have u9 : Same H6 (upd H6 t9 (.tup [.str "set", .str y, .ref pg])) := same_upd n9
          have I := I.same u9
          refine ⟨lp, _, _, rfl, rfl, I.ep, lenq I (by omega), ?_⟩
          exact ⟨_, _, _, _, _, laps, _, _, rfl, I.add D (one := .set y g .nil) ⟨t9, [], pg, rfl, SqT.of upd_same, Xg.stay (TupsStay.same u9), rfl⟩ ⟨hy, (okg.ups (by decide)), True.intro⟩ ⟨.inr ⟨oy, (grg.sub gY oZ).big⟩, .inl okg, True.intro⟩, hl, by rw [lenR_app]; show lenR r + 1 ≤ _; omega, by rw [lenR_app]; show _ ≤ lenR r + 1; omega, by rw [cntR_app]; show cntR r + 1 ≤ _; omega⟩
      · skip
        refine ⟨_, rfl, rfl, _, rfl, ite2 (fun e2 => ?_) (fun e2 => ⟨_, rfl, _, _, rfl, rfl, _, rfl, ite2 (fun e3 => ?_) (fun e3 => ?_)⟩)⟩
        · skip
          refine ⟨_, rfl, .inl ⟨rfl, _, SqL.of I.ep⟩, _, rfl, _, rfl, _, rfl, (3 : Int), rfl, (6 : Int), rfl, l, _, rfl, SqL.of I.el, fun mm nmm => ?_⟩
          obtain ⟨zs, ez, sz, lz⟩ := cut_sub ns (some 3) (some 6)
          rw [ez]
          have um : Same H3 (upd H3 mm (.lst (zs.map V.str))) := same_upd nmm
          have I := I.same um
          have A4 := A3.same um
          refine ⟨_, _, _, _, rfl, rfl, I.ew, upd_same, by rw [List.length_map, List.length_map, sizeLine_eq]; omega, fun lc nlc2 => ?_⟩
          rw [← List.map_append]
          have uc : Same (upd H3 mm (.lst (zs.map V.str))) (upd (upd H3 mm (.lst (zs.map V.str))) lc (.lst ((ys ++ zs).map V.str))) := same_upd nlc2
          have I := I.same uc
          have sY : ∀ x ∈ ys ++ zs, x ∈ ns := fun x hx => (List.mem_append.mp hx).elim (sy x) (sz x)
          refine ⟨h, c, lc, _, _, _, ys ++ zs, rfl, A4.same uc, upd_same, (ne_of_none A4.h nlc2).symm, (ne_of_none A4.c nlc2).symm, by rw [List.length_append]; omega, tx.sub sY, fun s5 k5 cs5 pe e H5 A5 B5 Xe oke => ⟨(by show 2 ≤ sizeLine; decide), fun t6 n6 => ?_⟩⟩
          have I := I.but D A5 B5
          have u6 : Same H5 (upd H5 t6 (.tup [.str "say", .ref pe])) := same_upd n6
          have I := I.same u6
          refine ⟨lp, _, _, rfl, rfl, I.ep, lenq I (by omega), ?_⟩
          exact ⟨_, _, _, _, _, laps, _, _, rfl, I.add D (one := .say e .nil) ⟨t6, [], pe, rfl, SqT.of upd_same, Xe.stay (TupsStay.same u6), rfl⟩ ⟨(oke.sub sY).ups (by decide), True.intro⟩ ⟨oke.sub sY, True.intro⟩, hl, by rw [lenR_app]; show lenR r + 1 ≤ _; omega, by rw [lenR_app]; show _ ≤ lenR r + 1; omega, by rw [cntR_app]; show cntR r + 1 ≤ _; omega⟩
        · skip
          refine ⟨_, rfl, .inl ⟨rfl, _, SqL.of I.ep⟩, _, rfl, _, rfl, _, rfl, (3 : Int), rfl, (6 : Int), rfl, l, _, rfl, SqL.of I.el, fun mm nmm => ?_⟩
          obtain ⟨zs, ez, sz, lz⟩ := cut_sub ns (some 3) (some 6)
          rw [ez]
          have um : Same H3 (upd H3 mm (.lst (zs.map V.str))) := same_upd nmm
          have I := I.same um
          have A4 := A3.same um
          refine ⟨_, _, _, _, rfl, rfl, I.ew, upd_same, by rw [List.length_map, List.length_map, sizeLine_eq]; omega, fun lc nlc2 => ?_⟩
          rw [← List.map_append]
          have uc : Same (upd H3 mm (.lst (zs.map V.str))) (upd (upd H3 mm (.lst (zs.map V.str))) lc (.lst ((ys ++ zs).map V.str))) := same_upd nlc2
          have I := I.same uc
          have sY : ∀ x ∈ ys ++ zs, x ∈ ns := fun x hx => (List.mem_append.mp hx).elim (sy x) (sz x)
          refine ⟨h, c, lc, _, _, _, ys ++ zs, rfl, A4.same uc, upd_same, (ne_of_none A4.h nlc2).symm, (ne_of_none A4.c nlc2).symm, by rw [List.length_append]; omega, tx.sub sY, fun s5 k5 cs5 pe e H5 A5 B5 Xe oke => ⟨(by show 2 ≤ sizeLine; decide), fun t6 n6 => ?_⟩⟩
          have I := I.but D A5 B5
          have u6 : Same H5 (upd H5 t6 (.tup [.str "say", .ref pe])) := same_upd n6
          have I := I.same u6
          refine ⟨lp, _, _, rfl, rfl, I.ep, lenq I (by omega), ?_⟩
          exact ⟨_, _, _, _, _, laps, _, _, rfl, I.add D (one := .say e .nil) ⟨t6, [], pe, rfl, SqT.of upd_same, Xe.stay (TupsStay.same u6), rfl⟩ ⟨(oke.sub sY).ups (by decide), True.intro⟩ ⟨oke.sub sY, True.intro⟩, hl, by rw [lenR_app]; show lenR r + 1 ≤ _; omega, by rw [lenR_app]; show _ ≤ lenR r + 1; omega, by rw [cntR_app]; show cntR r + 1 ≤ _; omega⟩
        · skip
          have el3 : laps ≤ 2 := by have z : ¬ 2 < laps := fun q => e3 (decide_eq_true q); omega
          have dn : 1 ≤ n ∧ d ≤ 2 := by rcases hl with z | z <;> omega
          have hd7 : (d : Int) ≤ 2 := by omega
          clear e1 e2 e3 hl
          obtain ⟨g, hg, gg, atg⟩ := at_guard h7 (i := (d : Int)) (by omega)
          refine ⟨_, rfl, _, _, rfl, rfl, _, rfl, ite2 (fun e => ?_) (fun e => ⟨_, rfl, h, c, _, _, 2, _, rfl, by decide, by decide, A3, fun s8 k8 cs8 r8 H8 r80 r82 A8 B8 => ⟨rfl, _, rfl, ite2 (fun e8 => ?_) (fun e8 => ?_)⟩⟩)⟩
          · skip
            refine ⟨_, rfl, h, c, _, _, 4, _, rfl, by decide, by decide, A3, fun s4 k4 cs4 r4 H4 r40 r44 A4 B4 => ⟨(by show 2 ≤ sizeLine; decide), fun t1 n1 => ⟨(by show 1 ≤ sizeLine; decide), fun ls nls => ?_⟩⟩⟩
            have I := I.but D A4 B4
            have u1 : Same H4 (upd H4 t1 (.tup [.str "num", .int r4])) := same_upd n1
            have X1 : ExAt K (upd H4 t1 (.tup [.str "num", .int r4])) t1 (.num r4) := SqT.of upd_same
            have I := I.same u1
            have A := A4.same u1
            have lsh : ls ≠ h := (ne_of_none A.h nls).symm
            have lsc : ls ≠ c := (ne_of_none A.c nls).symm
            have lsl : ls ≠ l := (ne_of_none I.el nls).symm
            have lsp : ls ≠ lp := (ne_of_none I.ep nls).symm
            have lsw : ls ≠ lw := (ne_of_none I.ew nls).symm
            have ls0 := I.fresh nls lsh lsc
            have u2 : Same (upd H4 t1 (.tup [.str "num", .int r4])) (upd (upd H4 t1 (.tup [.str "num", .int r4])) ls (.lst [.ref t1])) := same_upd nls
            have els : (upd (upd H4 t1 (.tup [.str "num", .int r4])) ls (.lst [.ref t1])) ls = some (.lst [.ref t1]) := upd_same
            have I := I.same u2
            have A := A.same u2
            have X1 := X1.stay (TupsStay.same u2)
            clear u1 u2 n1 nls A4 B4
            generalize (upd (upd H4 t1 (.tup [.str "num", .int r4])) ls (.lst [.ref t1])) = G1 at els I A X1
            obtain ⟨y, hy, gy, aty⟩ := at_guard h7 (i := if 0 < (d : Int) - 1 then (d : Int) - 1 else 0) (.inl (by split <;> omega))
            refine ⟨_, rfl, .inl ⟨rfl, _, SqL.of els⟩, _, rfl, _, rfl, _, _, rfl, rfl, 0, _, rfl, l, _, _, _, rfl, rfl, SqL.of I.el, aty, (by show 2 ≤ sizeLine; decide), fun t2 n2 => ?_⟩
            have u2 : Same G1 (upd G1 t2 (.tup [.str "name", .str y])) := same_upd n2
            have X2 : ExAt K (upd G1 t2 (.tup [.str "name", .str y])) t2 (.name y) := SqT.of upd_same
            have I := I.same u2
            have A := A.same u2
            have X1 := X1.stay (TupsStay.same u2)
            have els := u2 _ _ els
            refine ⟨_, rfl, h, c, _, _, 3, _, rfl, by decide, by decide, A, fun s5 k5 cs5 r5 H5 r50 r53 A5 B5 => ⟨(by show 2 ≤ sizeLine; decide), fun t3 n3 => ⟨(by show 3 ≤ sizeLine; decide), fun t4 n4 => ?_⟩⟩⟩
            have X1 := X1.stay (I.tups B5)
            have X2 := X2.stay (I.tups B5)
            have I := I.but D A5 B5
            have els := B5 _ _ els lsh lsc
            have u3 : Same H5 (upd H5 t3 (.tup [.str "num", .int r5])) := same_upd n3
            have X3 : ExAt K (upd H5 t3 (.tup [.str "num", .int r5])) t3 (.num r5) := SqT.of upd_same
            have u4 : Same (upd H5 t3 (.tup [.str "num", .int r5])) (upd (upd H5 t3 (.tup [.str "num", .int r5])) t4 (.tup [.str "add", .ref t2, .ref t3])) := same_upd n4
            have X4 : ExAt K (upd (upd H5 t3 (.tup [.str "num", .int r5])) t4 (.tup [.str "add", .ref t2, .ref t3])) t4 (.add (.name y) (.num r5)) := ⟨t2, t3, SqT.of upd_same, X2.stay (TupsStay.same (u3.trans u4)), X3.stay (TupsStay.same u4)⟩
            have X1 := X1.stay (TupsStay.same (u3.trans u4))
            have I := I.same (u3.trans u4)
            have A := A5.same (u3.trans u4)
            have els := (u3.trans u4) _ _ els
            clear u3 u4 u2 n2 n3 n4 X3 X2 A5 B5
            generalize (upd (upd H5 t3 (.tup [.str "num", .int r5])) t4 (.tup [.str "add", .ref t2, .ref t3])) = G2 at els I A X1 X4
            refine ⟨ls, _, _, rfl, rfl, els, (by show 1 < sizeLine; decide), ?_⟩
            have t5 : TupsStay G2 (upd G2 ls (.lst [.ref t1, .ref t4])) := TupsStay.upd els True.intro
            have I := I.els (o := .lst [.ref t1, .ref t4]) ls0 lsh lsc lsl lsp lsw els True.intro
            have A := A.set (o := .lst [.ref t1, .ref t4]) lsh lsc
            have X1 := X1.stay t5
            have X4 := X4.stay t5
            have els : (upd G2 ls (.lst [.ref t1, .ref t4])) ls = some (.lst [.ref t1, .ref t4]) := upd_same
            clear t5
            refine ⟨_, rfl, .inl ⟨rfl, _, SqL.of I.ep⟩, _, rfl, _, rfl, l, _, _, _, rfl, rfl, SqL.of I.el, atg, _, rfl, _, rfl, h, c, _, _, 2, _, rfl, by decide, by decide, A, fun s6 k6 cs6 r6 H6 r60 r62 A6 B6 => ?_⟩
            have X1 := X1.stay (I.tups B6)
            have X4 := X4.stay (I.tups B6)
            have I := I.but D A6 B6
            have els := B6 _ _ els lsh lsc
            have pick : ∃ (pe : Addr) (e : Ex), atI [V.ref t1, V.ref t4] r6 = some (.ref pe) ∧ ExAt K H6 pe e ∧ ExOk ns 5 e ∧ ExOk ns 2 e ∧ BndE (gsOf ns) (osOf ns) (fun G _ => 2 * G + 1010) e := by
              have z : r6 = 0 ∨ r6 = 1 := by omega
              rcases z with z | z
              · subst z
                exact ⟨t1, _, rfl, X1, ExOk.num (by omega) _, ExOk.num (by omega) _, grd_num (by omega)⟩
              · subst z
                exact ⟨t4, _, rfl, X4, ⟨ExOk.name hy _, ExOk.num (by omega) _⟩, ⟨ExOk.name hy _, ExOk.num (by omega) _⟩, grd_more gy (by omega)⟩
            obtain ⟨pe, e, ate, Xe, oke, ok2, gre⟩ := pick
            refine ⟨ls, _, _, _, rfl, rfl, SqL.of els, ate, (by show 3 ≤ sizeLine; decide), fun t7 n7 => ?_⟩
            have u7 : Same H6 (upd H6 t7 (.tup [.str "set", .str g, .ref pe])) := same_upd n7
            have I := I.same u7
            refine ⟨lp, _, _, rfl, rfl, I.ep, lenq I (by omega), ?_⟩
            have I := I.add D (one := .set g e .nil) ⟨t7, [], pe, rfl, SqT.of upd_same, Xe.stay (TupsStay.same u7), rfl⟩ ⟨hg, oke, True.intro⟩ ⟨.inl ⟨gg, gre⟩, .inl ok2, True.intro⟩
            have A := (A6.same u7).set (o := .lst (qs.map V.ref ++ [V.ref t7])) D.ph D.pc
            refine ⟨_, rfl, .inl ⟨rfl, _, SqL.of I.ep⟩, _, rfl, _, rfl, _, rfl, _, rfl, dn.1, h, c, l, _, _, _, ns, d, odd, rfl, hd, dn.1, A, I.el, nlh, nlc, h7, tx, fun s9 k9 cs9 p9 x9 m9 b9 H9 A9 B9 St9 ok9 tm9 ct9 => ?_⟩
            have I := I.but D A9 B9
            refine ⟨lp, _, _, rfl, rfl, I.ep, lenq I (by first | omega | (rw [lenR_app]; show lenR r + 1 ≤ 7; omega)), ?_⟩
            exact ⟨_, _, _, _, _, 3, _, _, rfl, I.add D St9 ok9 tm9, .inr rfl, by simp only [lenR_app]; show lenR r + 2 ≤ _; omega, by simp only [lenR_app]; show _ ≤ lenR r + 2; omega, by simp only [cntR_app]; show cntR r + 1 + (cntR b9 + 0 + 1) ≤ _; rw [budR_no el3] at lc1; rw [budR_3 dn.1]; omega⟩
          · skip
            have I := I.but D A8 B8
            refine ⟨_, rfl, h, c, _, _, 4, _, rfl, by decide, by decide, A8, fun s4 k4 cs4 r4 H4 r40 r44 A4 B4 => ⟨(by show 2 ≤ sizeLine; decide), fun t1 n1 => ⟨(by show 1 ≤ sizeLine; decide), fun ls nls => ?_⟩⟩⟩
            have I := I.but D A4 B4
            have u1 : Same H4 (upd H4 t1 (.tup [.str "num", .int r4])) := same_upd n1
            have X1 : ExAt K (upd H4 t1 (.tup [.str "num", .int r4])) t1 (.num r4) := SqT.of upd_same
            have I := I.same u1
            have A := A4.same u1
            have lsh : ls ≠ h := (ne_of_none A.h nls).symm
            have lsc : ls ≠ c := (ne_of_none A.c nls).symm
            have lsl : ls ≠ l := (ne_of_none I.el nls).symm
            have lsp : ls ≠ lp := (ne_of_none I.ep nls).symm
            have lsw : ls ≠ lw := (ne_of_none I.ew nls).symm
            have ls0 := I.fresh nls lsh lsc
            have u2 : Same (upd H4 t1 (.tup [.str "num", .int r4])) (upd (upd H4 t1 (.tup [.str "num", .int r4])) ls (.lst [.ref t1])) := same_upd nls
            have els : (upd (upd H4 t1 (.tup [.str "num", .int r4])) ls (.lst [.ref t1])) ls = some (.lst [.ref t1]) := upd_same
            have I := I.same u2
            have A := A.same u2
            have X1 := X1.stay (TupsStay.same u2)
            clear u1 u2 n1 nls A4 B4
            generalize (upd (upd H4 t1 (.tup [.str "num", .int r4])) ls (.lst [.ref t1])) = G1 at els I A X1
            obtain ⟨y, hy, gy, aty⟩ := at_guard h7 (i := if 0 < (d : Int) - 1 then (d : Int) - 1 else 0) (.inl (by split <;> omega))
            refine ⟨_, rfl, .inl ⟨rfl, _, SqL.of els⟩, _, rfl, _, rfl, _, _, rfl, rfl, 0, _, rfl, l, _, _, _, rfl, rfl, SqL.of I.el, aty, (by show 2 ≤ sizeLine; decide), fun t2 n2 => ?_⟩
            have u2 : Same G1 (upd G1 t2 (.tup [.str "name", .str y])) := same_upd n2
            have X2 : ExAt K (upd G1 t2 (.tup [.str "name", .str y])) t2 (.name y) := SqT.of upd_same
            have I := I.same u2
            have A := A.same u2
            have X1 := X1.stay (TupsStay.same u2)
            have els := u2 _ _ els
            refine ⟨_, rfl, h, c, _, _, 3, _, rfl, by decide, by decide, A, fun s5 k5 cs5 r5 H5 r50 r53 A5 B5 => ⟨(by show 2 ≤ sizeLine; decide), fun t3 n3 => ⟨(by show 3 ≤ sizeLine; decide), fun t4 n4 => ?_⟩⟩⟩
            have X1 := X1.stay (I.tups B5)
            have X2 := X2.stay (I.tups B5)
            have I := I.but D A5 B5
            have els := B5 _ _ els lsh lsc
            have u3 : Same H5 (upd H5 t3 (.tup [.str "num", .int r5])) := same_upd n3
            have X3 : ExAt K (upd H5 t3 (.tup [.str "num", .int r5])) t3 (.num r5) := SqT.of upd_same
            have u4 : Same (upd H5 t3 (.tup [.str "num", .int r5])) (upd (upd H5 t3 (.tup [.str "num", .int r5])) t4 (.tup [.str "add", .ref t2, .ref t3])) := same_upd n4
            have X4 : ExAt K (upd (upd H5 t3 (.tup [.str "num", .int r5])) t4 (.tup [.str "add", .ref t2, .ref t3])) t4 (.add (.name y) (.num r5)) := ⟨t2, t3, SqT.of upd_same, X2.stay (TupsStay.same (u3.trans u4)), X3.stay (TupsStay.same u4)⟩
            have X1 := X1.stay (TupsStay.same (u3.trans u4))
            have I := I.same (u3.trans u4)
            have A := A5.same (u3.trans u4)
            have els := (u3.trans u4) _ _ els
            clear u3 u4 u2 n2 n3 n4 X3 X2 A5 B5
            generalize (upd (upd H5 t3 (.tup [.str "num", .int r5])) t4 (.tup [.str "add", .ref t2, .ref t3])) = G2 at els I A X1 X4
            refine ⟨ls, _, _, rfl, rfl, els, (by show 1 < sizeLine; decide), ?_⟩
            have t5 : TupsStay G2 (upd G2 ls (.lst [.ref t1, .ref t4])) := TupsStay.upd els True.intro
            have I := I.els (o := .lst [.ref t1, .ref t4]) ls0 lsh lsc lsl lsp lsw els True.intro
            have A := A.set (o := .lst [.ref t1, .ref t4]) lsh lsc
            have X1 := X1.stay t5
            have X4 := X4.stay t5
            have els : (upd G2 ls (.lst [.ref t1, .ref t4])) ls = some (.lst [.ref t1, .ref t4]) := upd_same
            clear t5
            refine ⟨_, rfl, .inl ⟨rfl, _, SqL.of I.ep⟩, _, rfl, _, rfl, l, _, _, _, rfl, rfl, SqL.of I.el, atg, _, rfl, _, rfl, h, c, _, _, 2, _, rfl, by decide, by decide, A, fun s6 k6 cs6 r6 H6 r60 r62 A6 B6 => ?_⟩
            have X1 := X1.stay (I.tups B6)
            have X4 := X4.stay (I.tups B6)
            have I := I.but D A6 B6
            have els := B6 _ _ els lsh lsc
            have pick : ∃ (pe : Addr) (e : Ex), atI [V.ref t1, V.ref t4] r6 = some (.ref pe) ∧ ExAt K H6 pe e ∧ ExOk ns 5 e ∧ ExOk ns 2 e ∧ BndE (gsOf ns) (osOf ns) (fun G _ => 2 * G + 1010) e := by
              have z : r6 = 0 ∨ r6 = 1 := by omega
              rcases z with z | z
              · subst z
                exact ⟨t1, _, rfl, X1, ExOk.num (by omega) _, ExOk.num (by omega) _, grd_num (by omega)⟩
              · subst z
                exact ⟨t4, _, rfl, X4, ⟨ExOk.name hy _, ExOk.num (by omega) _⟩, ⟨ExOk.name hy _, ExOk.num (by omega) _⟩, grd_more gy (by omega)⟩
            obtain ⟨pe, e, ate, Xe, oke, ok2, gre⟩ := pick
            refine ⟨ls, _, _, _, rfl, rfl, SqL.of els, ate, (by show 3 ≤ sizeLine; decide), fun t7 n7 => ?_⟩
            have u7 : Same H6 (upd H6 t7 (.tup [.str "set", .str g, .ref pe])) := same_upd n7
            have I := I.same u7
            refine ⟨lp, _, _, rfl, rfl, I.ep, lenq I (by omega), ?_⟩
            have I := I.add D (one := .set g e .nil) ⟨t7, [], pe, rfl, SqT.of upd_same, Xe.stay (TupsStay.same u7), rfl⟩ ⟨hg, oke, True.intro⟩ ⟨.inl ⟨gg, gre⟩, .inl ok2, True.intro⟩
            have A := (A6.same u7).set (o := .lst (qs.map V.ref ++ [V.ref t7])) D.ph D.pc
            refine ⟨_, rfl, .inl ⟨rfl, _, SqL.of I.ep⟩, _, rfl, _, rfl, _, rfl, _, rfl, dn.1, h, c, l, _, _, _, ns, d, odd, rfl, hd, dn.1, A, I.el, nlh, nlc, h7, tx, fun s9 k9 cs9 p9 x9 m9 b9 H9 A9 B9 St9 ok9 tm9 ct9 => ?_⟩
            have I := I.but D A9 B9
            refine ⟨lp, _, _, rfl, rfl, I.ep, lenq I (by first | omega | (rw [lenR_app]; show lenR r + 1 ≤ 7; omega)), ?_⟩
            exact ⟨_, _, _, _, _, 3, _, _, rfl, I.add D St9 ok9 tm9, .inr rfl, by simp only [lenR_app]; show lenR r + 2 ≤ _; omega, by simp only [lenR_app]; show _ ≤ lenR r + 2; omega, by simp only [cntR_app]; show cntR r + 1 + (cntR b9 + 0 + 1) ≤ _; rw [budR_no el3] at lc1; rw [budR_3 dn.1]; omega⟩
          · skip
            have I := I.but D A8 B8
            refine ⟨_, rfl, .inl ⟨rfl, _, SqL.of I.ep⟩, _, rfl, _, rfl, _, rfl, _, rfl, dn.1, h, c, l, _, _, _, ns, d, odd, rfl, hd, dn.1, A8, I.el, nlh, nlc, h7, tx, fun s9 k9 cs9 p9 x9 m9 b9 H9 A9 B9 St9 ok9 tm9 ct9 => ?_⟩
            have I := I.but D A9 B9
            refine ⟨lp, _, _, rfl, rfl, I.ep, lenq I (by first | omega | (rw [lenR_app]; show lenR r + 1 ≤ 7; omega)), ?_⟩
            exact ⟨_, _, _, _, _, 3, _, _, rfl, I.add D St9 ok9 tm9, .inr rfl, by simp only [lenR_app]; show lenR r + 1 ≤ _; omega, by simp only [lenR_app]; show _ ≤ lenR r + 1; omega, by simp only [cntR_app]; show cntR r + (cntR b9 + 0 + 1) ≤ _; rw [budR_no el3] at lc1; rw [budR_3 dn.1]; omega⟩
    · rintro σ H2 ⟨v7, v8, v9, v10, v11, laps, qs, r, rfl, I, hl, l1, l2, lc1⟩
      obtain ⟨s2, k2, cs2, A⟩ := I.A
      refine ⟨_, rfl, .inl ⟨lp, _, rfl, SqL.of I.ep, fun pt npt => ⟨(by show 2 ≤ sizeLine; decide), fun p np => ?_⟩⟩⟩
      have u1 : Same H2 (upd H2 pt (.tup (qs.map V.ref))) := same_upd npt
      have u2 : Same (upd H2 pt (.tup (qs.map V.ref))) (upd (upd H2 pt (.tup (qs.map V.ref))) p (.tup [.str "row", .ref pt])) := same_upd np
      have I := I.same (u1.trans u2)
      exact q _ _ _ p r _ (A.same (u1.trans u2)) I.B ⟨pt, qs, SqT.of upd_same, SqT.keeps (SqT.of upd_same) (TupsStay.same u2), I.st⟩ I.ok I.tm (by omega) (by omega) (by have := budR_le n laps; omega) (fun z => by subst z; rw [budR_0] at lc1; omega)
end
section
variable {P : Program} {w : World} {K : PySem.W.Frag} {mg : Str → Option Value} {base : Heap} {C : Addr}
theorem fn_drop {CX : CXT} {k : Nat} {f : Addr} {fd : FuncData} {ps : List Str} {sp : Sp} {A : Prop} (F : FnOk P w K mg base CX k f fd ps sp) : FnOk P w K mg base CX k f fd ps (fun vs H Q E => A ∧ sp vs H Q E) :=
  ⟨fun vs H Q E q => F.len vs H Q E q.2, fun A outer s H args us vs Q E hr he hb hv hs => F.run A outer s H args us vs Q E hr he hb hv hs.2⟩
theorem rows_all {f f0 : Addr} {fd fd0 : FuncData} (T : Txt K mg C) (D_law_row : DefAt K mg "_law_row" "_law_row" s_law_row ["_law_h", "_law_names_here", "_law_depth", "_law_odd"] f fd) (D_law_lap : DefAt K mg "_law_lap" "_law_lap" s_law_lap ["_law_h", "_law_names_here", "_law_depth", "_law_odd"] f0 fd0) : ∀ n, FnOk P w K mg base CX0 (2 * n + 6) f fd ["_law_h", "_law_names_here", "_law_depth", "_law_odd"] (spRow K n)
  | 0 => ok_law_row T D_law_row D_law_lap ⟨fun _ _ _ _ h => absurd h.1 (by decide), fun _ _ _ _ _ _ _ _ _ _ _ _ _ h => absurd h.1 (by decide)⟩
  | n + 1 => ok_law_row T D_law_row D_law_lap (fn_drop (ok_law_lap T D_law_lap D_law_row (rows_all T D_law_row D_law_lap 0) (rows_all T D_law_row D_law_lap n)))
def spProg (K : PySem.W.Frag) : Sp := fun vs H Q _ => ∃ (h c l : Addr) (s k : Int) (cs : List Int) (ns : List Str) (odd : Bool), vs = [.ref h, .ref l, .bl odd] ∧ HAt H h c s k cs ∧ H l = some (.lst (ns.map V.str)) ∧ l ≠ h ∧ l ≠ c ∧ ns.length = 7 ∧ TextsOk ns ∧
  ∀ (s' k' : Int) (cs' : List Int) (p : Addr) (rw_ : Rw) (H' : Hp), HAt H' h c s' k' cs' → But h c H H' → RwAt K H' p rw_ → RwOk ns rw_ 3 → RwT ns rw_ → lenR rw_ ≤ 12 → 1 ≤ lenR rw_ → cntR rw_ ≤ 34 → Q (.ref p) H'
theorem ok_law_program {f : Addr} {fd : FuncData} (T : Txt K mg C) (F : DefAt K mg "_law_program" "_law_program" s_law_program ["_law_h", "_law_names_here", "_law_odd"] f fd) : FnOk P w K mg base CX0 13 f fd ["_law_h", "_law_names_here", "_law_odd"] (spProg K) := by
  obtain ⟨f1, fd1, D_law_row⟩ := T.d_law_row
  obtain ⟨f2, fd2, D_law_lap⟩ := T.d_law_lap
  have G_law_row : FnOk P w K mg base CX0 12 f1 fd1 ["_law_h", "_law_names_here", "_law_depth", "_law_odd"] (spRow K 3) := rows_all T D_law_row D_law_lap 3
  refine F.F.ok sc_law_program (fun vs H Q E h => ?_) (fun cdv A outer s H vs Q E hr h => ?_)
  · obtain ⟨h, c, l, s, k, cs, ns, odd, rfl, _⟩ := h
    rfl
  · obtain ⟨h, c, l, z, k, cs, ns, odd, rfl, A, el, nlh, nlc, h7, tx, q⟩ := h
    refine ⟨_, (pss_cons (ps_set (i := 3) sc_law_program.nd rfl (.inl rfl) (pe_call G_law_row (hr.mono (by decide)) (by rfl) D_law_row.g D_law_row.F.kp D_law_row.b .nil pass0 (pa_cons (pv 0) (pa_cons (pv 1) (pa_cons pe_int (pa_cons (pv 2) pa_nil))))))
      (pss_one (ps_ret (pe_tup (pa_cons pe_str (pa_cons (pe_op op_catT (pe_ix ix_tup (pv 3) pe_int (fun _ _ => rfl)) (pe_ix ix_tup (pe_call G_law_row (hr.mono (by decide)) (by rfl) D_law_row.g D_law_row.F.kp D_law_row.b .nil pass0 (pa_cons (pv 0) (pa_cons (pv 1) (pa_cons pe_int (pa_cons (pv 2) pa_nil))))) pe_int (fun _ _ => rfl))) pa_nil)))))), ?_⟩
    refine ⟨_, rfl, _, rfl, _, rfl, h, c, l, _, _, _, ns, 0, odd, rfl, by decide, A, el, nlh, nlc, h7, tx, fun s1 k1 cs1 p1 r1 H1 A1 B1 R1 ok1 tm1 l6 l1 c1 _ => ?_⟩
    have el1 := B1 _ _ el nlh nlc
    obtain ⟨pt, qs, w1, w2, w3⟩ := id R1
    refine ⟨_, rfl, p1, _, _, _, rfl, rfl, w1, atI_nat (j := 1) rfl, _, rfl, _, rfl, _, rfl, h, c, l, _, _, _, ns, 0, odd, rfl, by decide, A1, el1, nlh, nlc, h7, tx, fun s2 k2 cs2 p2 r2 H2 A2 B2 R2 ok2 tm2 m6 m1 c2 _ => ?_⟩
    have tt := B2.tups A1
    obtain ⟨pu, qu, v1, v2, v3⟩ := id R2
    have e1 := w3.len
    have e2 := v3.len
    refine ⟨p2, _, _, _, rfl, rfl, v1, atI_nat (j := 1) rfl, pt, pu, _, _, rfl, rfl, SqT.keeps w2 tt, v2, ?_, ?_, ?_⟩
    · intro z0
      have z1 := congrArg List.length z0
      rw [List.length_map, e1] at z1
      have z2 : lenR r1 = 0 := z1
      omega
    · rw [List.length_map, e1, List.length_map, e2, sizeLine_eq]
      omega
    · refine ⟨fun z0 => ?_, fun _ pq npq => ⟨(by show 2 ≤ sizeLine; decide), fun p np => ?_⟩⟩
      · have z1 := congrArg List.length z0
        rw [List.length_map, e2] at z1
        have z2 : lenR r2 = 0 := z1
        omega
      · have g1 := same_upd (o := .tup (qs.map V.ref ++ qu.map V.ref)) npq
        have g2 := same_upd (o := .tup [.str "row", .ref pq]) np
        have g12 := g1.trans g2
        refine q _ _ _ p (appR r1 r2) _ (A2.same g12) ((B1.trans B2).same g12) ⟨pq, qs ++ qu, SqT.of upd_same, ?_, StsAt.app (v3.stay (TupsStay.same g12)) ((w3.stay tt).stay (TupsStay.same g12))⟩ (RwOk.app ok2 ok1) (RwT.app tm2 tm1) (by rw [lenR_app]; omega) (by rw [lenR_app]; omega) (by rw [cntR_app]; omega)
        rw [List.map_append]
        exact SqT.keeps (SqT.of upd_same) (TupsStay.same g2)
end
/-! ### types compared by !=; not in a tuple of data -/
section
open PySem.TypeEq
theorem slot_type_ne : Slot "type" (cmpInfo .NotEq).2.1 "object.__ne__" :=
  .of (owner := "object") (n := "__ne__") (by rw [typeLookup_type, builtinLookup_eq_fast]; kernel_rfl) (by decide +kernel) (by decide +kernel) (by decide +kernel)
    (by first | exact .inl (by decide +kernel) | exact .inr (by decide +kernel)) (by rw [isSubtype_type]; kernel_rfl)
theorem slot_type_ne_refl : Slot "type" (cmpInfo .NotEq).2.2 "object.__ne__" :=
  .of (owner := "object") (n := "__ne__") (by rw [typeLookup_type, builtinLookup_eq_fast]; kernel_rfl) (by decide +kernel) (by decide +kernel) (by decide +kernel)
    (by first | exact .inl (by decide +kernel) | exact .inr (by decide +kernel)) (by rw [isSubtype_type]; kernel_rfl)
section
variable {prog : Program} {w : World} {A : Around} {E : Value → Shared → Prop} {s : Shared}
theorem objNe_type_same {X : String} (hX : ∀ s' : Shared, s'.TypeIs (.type X) "type") {Q : Fin → Shared → Prop} (hq : Q (.done (.ret (.bool false))) s) :
    wpAny (model prog w) A (Builtin.«object.__ne__» ⟨[.type X, .type X], []⟩) Q E s := by
  unfold Builtin.«object.__ne__»
  repeat (first
    | with_reducible refine wpAny_cRoomFor_or (.inl rfl) ?_
    | (refine wpAny_bind (m := callSpecialIfBound? (.type X) (Str.ofString "__eq__") [.type X]) (wpAny_callSpecialIfBound?_slot (hX _) slot_type_eq
        (call_gives slot_type_eq (hX _) F.entry_object_eq (F.args_object_eq_2 _ _) (object_eq_same rfl (by simp)) ?_)))
    | (refine wpAny_bind (m := truthy (.bool _)) (wpAny_truthy_bool ?_))
    | wp_step)
  exact hq
theorem objNe_type_other {X Y : String} (hX : ∀ s' : Shared, s'.TypeIs (.type X) "type") (hne : (Value.type X == Value.type Y) = false) {Q : Fin → Shared → Prop} (hq : Q (.done (.ret .notImplemented)) s) :
    wpAny (model prog w) A (Builtin.«object.__ne__» ⟨[.type X, .type Y], []⟩) Q E s := by
  unfold Builtin.«object.__ne__»
  repeat (first
    | with_reducible refine wpAny_cRoomFor_or (.inl rfl) ?_
    | (refine wpAny_bind (m := callSpecialIfBound? (.type X) (Str.ofString "__eq__") [.type Y]) (wpAny_callSpecialIfBound?_slot (hX _) slot_type_eq
        (call_gives slot_type_eq (hX _) F.entry_object_eq (F.args_object_eq_2 _ _) (object_eq_other rfl hne) ?_)))
    | wp_step)
  show wpAny (model prog w) A (ret Value.notImplemented) Q E s
  first | exact wpAny_pure hq | (wp_step; exact hq)
theorem ne_type_same {X : String} {Q : Value → Shared → Prop} (hX : ∀ s' : Shared, s'.TypeIs (.type X) "type") (h : Q (.bool false) s) : wpAny (model prog w) A (compareOp .NotEq (.type X) (.type X)) Q E s := by
  show wpAny _ A (richCompare .NotEq _ _) Q E s
  exact wpAny_richCompare_same (T := "type") (hX s) (hX s) slot_type_ne
    (wpAny_call_entry slot_type_ne (hX s) F.cmpEntry_ne (objNe_type_same hX ⟨_, rfl, fun z => (nomatch z), h⟩) (F.cmpArgs_ne _ _))
theorem ne_type_other {X Y : String} {Q : Value → Shared → Prop} (hX : ∀ s' : Shared, s'.TypeIs (.type X) "type") (hY : ∀ s' : Shared, s'.TypeIs (.type Y) "type") (hne : (Value.type X == Value.type Y) = false) (h : Q (.bool true) s) : wpAny (model prog w) A (compareOp .NotEq (.type X) (.type Y)) Q E s := by
  have hne' : (Value.type Y == Value.type X) = false := by
    rw [Bool.eq_false_iff] at hne ⊢
    intro e
    exact hne (by rw [beq_iff_eq] at e ⊢; exact e.symm)
  show wpAny _ A (richCompare .NotEq _ _) Q E s
  rcases hi : cmpInfo CmpOp.NotEq with ⟨sym, f, r⟩
  have h1 := slot_type_ne
  have h2 := slot_type_ne_refl
  rw [hi] at h1 h2
  simp only [richCompare, hi, (hX s).oneThing_none]
  try with_reducible refine wpAny_holding ?_
  refine wpAny_bind (wpAny_cRoomFor_or (.inl rfl) ?_)
  refine wpAny_bind (wpAny_typeOf (hX s) (wpAny_bind (wpAny_typeOf (hY s) ?_)))
  simp only [bne_self_eq_false, Bool.false_eq_true, if_false, pure_bind, Bool.not_false, if_true]
  refine wpAny_bind (m := tryCompare (.type X) _ (.type Y)) (wpAny_tryCompare_declines (hX s) h1 (wpAny_call_entry h1 (hX s) F.cmpEntry_ne (objNe_type_other hX hne ⟨_, rfl, rfl, ?_⟩) (F.cmpArgs_ne _ _)))
  refine wpAny_bind (m := tryCompare (.type Y) _ (.type X)) (wpAny_tryCompare_declines (hY s) h2 (wpAny_call_entry h2 (hY s) F.cmpEntry_ne (objNe_type_other hY hne' ⟨_, rfl, rfl, ?_⟩) (F.cmpArgs_ne _ _)))
  refine wpAny_bind (wpAny_rule (wpAny_bind (wpAny_of_eq (show isSame (.type X) (.type Y) = pure false by rw [isSame_plain rfl, hne]) (wpAny_pure ?_))))
  exact h
end
/-- the kinds that are compared here -/
def kindT (T : String) : Prop := T ∈ ["NoneType", "bool", "int", "str", "list", "tuple"]
theorem kind_type {T : String} (h : kindT T) (s' : Shared) : s'.TypeIs (.type T) "type" := by
  simp only [kindT, List.mem_cons, List.not_mem_nil, or_false] at h
  rcases h with z | z | z | z | z | z <;> subst z
  · exact meta_NoneType s'
  · exact meta_bool s'
  · exact meta_int s'
  · exact meta_str s'
  · exact meta_list s'
  · exact meta_tuple s'
theorem op_neTy {X : Cx} : OpR X (compareOp .NotEq) (fun x y H Q => ∃ S T, x = .ty S ∧ y = .ty T ∧ kindT S ∧ kindT T ∧ Q (.bl (!decide (S = T))) H) := by
  intro pins s σ H x y v u Q I rx ry h
  obtain ⟨S, T, rfl, rfl, kS, kT, q⟩ := h
  cases rx
  cases ry
  by_cases e : S = T
  · subst e
    rw [show decide (S = S) = true from decide_eq_true rfl] at q
    exact ne_type_same (kind_type kS) ⟨.bl _, H, I, rfl, q⟩
  · rw [show decide (S = T) = false from decide_eq_false e] at q
    exact ne_type_other (kind_type kS) (kind_type kT) (by rw [Bool.eq_false_iff]; intro z; rw [beq_iff_eq] at z; exact e (Value.type.inj z)) ⟨.bl _, H, I, rfl, q⟩
end
def rNotInT (K : PySem.W.Frag) : R2 := fun x y H Q => ∃ d ds, Dp K H x d ∧ Dp K H y (.tuple ds) ∧ SeqAt.shaped d = true ∧ SeqAt.shaped (.tuple ds) = true ∧ Q (.bl (!ds.any fun z => PyData.eqv z d)) H
theorem op_notInT {X : Cx} (hu : X.A.units + 65 < cLine) : OpR X (compareOp .NotIn) (rNotInT X.K) := by
  intro pins s σ H x y v u Q I rx ry h
  obtain ⟨d, ds, hd, he, sd, se, q⟩ := h
  obtain ⟨as, r1⟩ := Dp.reads I d x v hd rx
  obtain ⟨bs, r2⟩ := Dp.reads I (.tuple ds) y u he ry
  exact SeqAt.notIn_tuple_reads r2 r1 (SeqAt.canLay_of_shaped se) (SeqAt.canLay_of_shaped sd) (room_in_shaped sd hu) ⟨.bl _, H, I, rfl, q⟩
/-! ### what is a program, said of data -/
def atD (k : Nat) : PyData → PyData
  | .tuple l => l.getD k .none
  | _ => .none
def wordOf (fs : List (Str × Nat)) : PyData → Option Str
  | .tuple (.str w :: r) => if (w, r.length + 1) ∈ fs then some w else none
  | _ => none
def ROWSF : List (Str × Nat) := [("row", 2)]
def STMSF : List (Str × Nat) := [("set", 3), ("say", 2), ("lap", 4)]
def EXPRF : List (Str × Nat) := [("num", 2), ("name", 2), ("add", 3), ("times", 3)]
def frm (fs : List (Str × Nat)) : List PyData := fs.map fun f => .tuple [.str f.1, .int (f.2 : Nat)]
def numOk : PyData → Bool
  | .int n => decide (0 ≤ n) && decide (n ≤ 999)
  | _ => false
def nameOk : PyData → Bool
  | .str x => decide (1 ≤ x.length) && (decide (x.length ≤ 8) && !x.cps.toList.any fun c => decide (c < 97) || decide (122 < c))
  | _ => false
def exOk : Nat → PyData → Bool
  | 0, _ => false
  | d + 1, x => match wordOf EXPRF x with
    | none => false
    | some w => if w = "num" then numOk (atD 1 x) else if w = "name" then nameOk (atD 1 x) else exOk d (atD 1 x) && exOk d (atD 2 x)
def needSt (inner : Nat → PyData → Option Nat) (left : Nat) (s : PyData) : Option Nat :=
  match wordOf STMSF s with
  | none => none
  | some w => if w = "say" then (if exOk 5 (atD 1 s) = true then some left else none)
    else if nameOk (atD 1 s) = true ∧ exOk 5 (atD 2 s) = true then (if w = "set" then some left else inner left (atD 3 s)) else none
def needSts (inner : Nat → PyData → Option Nat) : Nat → List PyData → Option Nat
  | left, [] => some left
  | 0, _ :: _ => none
  | left + 1, s :: r => match needSt inner left s with | none => none | some l => needSts inner l r
def needRowB (inner : Nat → PyData → Option Nat) (left : Nat) (x : PyData) : Option Nat :=
  match wordOf ROWSF x with
  | none => none
  | some _ => match atD 1 x with | .tuple parts => needSts inner left parts | _ => none
def needRow : Nat → Nat → PyData → Option Nat
  | 0 => needRowB fun _ _ => none
  | l + 1 => needRowB (needRow l)
def isProg (x : PyData) : Bool := (needRow 3 40 x).isSome
theorem wordOf_some {fs : List (Str × Nat)} {x : PyData} {w : Str} (h : wordOf fs x = some w) : ∃ r, x = .tuple (.str w :: r) ∧ (w, r.length + 1) ∈ fs := by
  cases x with
  | tuple l =>
    cases l with
    | nil => cases h
    | cons e r =>
      cases e with
      | str v =>
        by_cases m : (v, r.length + 1) ∈ fs
        · have e : wordOf fs (.tuple (.str v :: r)) = some v := if_pos m
          rw [e] at h
          cases h
          exact ⟨r, rfl, m⟩
        · have e : wordOf fs (.tuple (.str v :: r)) = none := if_neg m
          rw [e] at h
          cases h
      | _ => cases h
  | _ => cases h
theorem any_frm (w : Str) (n : Nat) : ∀ fs : List (Str × Nat), ((frm fs).any fun z => PyData.eqv z (.tuple [.str w, .int (n : Nat)])) = decide ((w, n) ∈ fs)
  | [] => rfl
  | (v, m) :: r => by
    have ih := any_frm w n r
    have e : PyData.eqv (.tuple [.str v, .int (m : Nat)]) (.tuple [.str w, .int (n : Nat)]) = (v == w && (((m : Int) == (n : Int)) && true)) := by simp only [PyData.eqv, PyData.eqvAll]
    show (PyData.eqv (.tuple [.str v, .int (m : Nat)]) (.tuple [.str w, .int (n : Nat)]) || (frm r).any _) = _
    rw [ih, e, Bool.eq_iff_iff]
    simp only [Bool.or_eq_true, Bool.and_eq_true, beq_iff_eq, decide_eq_true_eq, and_true, List.mem_cons, Prod.mk.injEq, Int.ofNat_inj]
    constructor
    · rintro (⟨a, b⟩ | z)
      · exact .inl ⟨a.symm, b.symm⟩
      · exact .inr z
    · rintro (⟨a, b⟩ | z)
      · exact .inl ⟨a.symm, b.symm⟩
      · exact .inr z
theorem shaped_frm {fs : List (Str × Nat)} (h : ∀ f ∈ fs, PyData.strOk f.1 = true) : SeqAt.shaped (.tuple (frm fs)) = true := by
  have a : ∀ gs : List (Str × Nat), (∀ f ∈ gs, PyData.strOk f.1 = true) → PyData.canLayAll0 (frm gs) = true ∧ PyData.depthAll (frm gs) ≤ 2 := by
    intro gs
    induction gs with
    | nil => intro _; exact ⟨rfl, Nat.zero_le _⟩
    | cons f r ih =>
      intro h
      obtain ⟨a, b⟩ := ih fun g hg => h g (List.mem_cons_of_mem _ hg)
      refine ⟨?_, ?_⟩
      · simp [frm, PyData.canLayAll0, PyData.canLay0, h f List.mem_cons_self]
        exact a
      · show PyData.depthAll (.tuple [.str f.1, .int (f.2 : Nat)] :: frm r) ≤ 2
        simp only [PyData.depthAll, PyData.depth]
        omega
  obtain ⟨a, b⟩ := a fs h
  show (PyData.canLay0 _ && decide (PyData.depth _ ≤ 64)) = true
  rw [Bool.and_eq_true]
  exact ⟨by simp only [PyData.canLay0]; exact a, decide_eq_true (by simp only [PyData.depth]; omega)⟩
theorem shaped_pair {w : Str} {n : Nat} (h : PyData.strOk w = true) : SeqAt.shaped (.tuple [.str w, .int (n : Nat)]) = true := by
  show (PyData.canLay0 _ && decide (PyData.depth _ ≤ 64)) = true
  rw [Bool.and_eq_true]
  exact ⟨by simp [PyData.canLay0, PyData.canLayAll0, h], decide_eq_true (by simp [PyData.depth, PyData.depthAll])⟩
-- a value that is this datum; its lists stand apart from N
mutual
inductive Dq (K : PySem.W.Frag) (N : List Addr) (H : Hp) : V → PyData → Prop
  | non : Dq K N H .non .none
  | bl (b : Bool) : Dq K N H (.bl b) (.bool b)
  | int (i : Int) : Dq K N H (.int i) (.int i)
  | str {x : Str} (h : PyData.strOk x = true) (l : x.length ≤ 1000) : Dq K N H (.str x) (.str x)
  | lst {a : Addr} {xs : List V} {ds : List PyData} : H a = some (.lst xs) → a ∉ N → DqAll K N H xs ds → Dq K N H (.ref a) (.list ds)
  | tup {a : Addr} {xs : List V} {ds : List PyData} : SqT K H a xs → DqAll K N H xs ds → Dq K N H (.ref a) (.tuple ds)
inductive DqAll (K : PySem.W.Frag) (N : List Addr) (H : Hp) : List V → List PyData → Prop
  | nil : DqAll K N H [] []
  | cons {v : V} {vs : List V} {d : PyData} {ds : List PyData} : Dq K N H v d → DqAll K N H vs ds → DqAll K N H (v :: vs) (d :: ds)
end
/-- old things but N stay, tuples do -/
structure Sty (N : List Addr) (H H' : Hp) : Prop where
  but : ∀ a o, H a = some o → a ∉ N → H' a = some o
  tup : TupsStay H H'
theorem Sty.same {N : List Addr} {H H' : Hp} (s : Same H H') : Sty N H H' := ⟨fun a o e _ => s a o e, TupsStay.same s⟩
theorem Sty.refl (N : List Addr) (H : Hp) : Sty N H H := Sty.same fun _ _ e => e
mutual
theorem Dq.stay {K : PySem.W.Frag} {N : List Addr} {H H' : Hp} (s : Sty N H H') : ∀ {d : PyData} {v : V}, Dq K N H v d → Dq K N H' v d
  | .none, _, h => by cases h; exact .non
  | .bool _, _, h => by cases h; exact .bl _
  | .int _, _, h => by cases h; exact .int _
  | .str _, _, h => by cases h with | str q l => exact .str q l
  | .list _, _, h => by cases h with | lst a n q => exact .lst (s.but _ _ a n) n (DqAll.stay s q)
  | .tuple _, _, h => by cases h with | tup a q => exact .tup (SqT.keeps a s.tup) (DqAll.stay s q)
  | .dict _, _, h => by cases h
theorem DqAll.stay {K : PySem.W.Frag} {N : List Addr} {H H' : Hp} (s : Sty N H H') : ∀ {ds : List PyData} {vs : List V}, DqAll K N H vs ds → DqAll K N H' vs ds
  | [], _, h => by cases h; exact .nil
  | _ :: _, _, h => by cases h with | cons a b => exact .cons (Dq.stay s a) (DqAll.stay s b)
end
mutual
theorem Dq.dp {K : PySem.W.Frag} {N : List Addr} {H : Hp} : ∀ {d : PyData} {v : V}, Dq K N H v d → Dp K H v d
  | .none, _, h => by cases h; exact .non
  | .bool _, _, h => by cases h; exact .bl _
  | .int _, _, h => by cases h; exact .int _
  | .str _, _, h => by cases h; exact .str _
  | .list _, _, h => by cases h with | lst a n q => exact .lst (SqL.of a) (DqAll.dp q)
  | .tuple _, _, h => by cases h with | tup a q => exact .tup a (DqAll.dp q)
  | .dict _, _, h => by cases h
theorem DqAll.dp {K : PySem.W.Frag} {N : List Addr} {H : Hp} : ∀ {ds : List PyData} {vs : List V}, DqAll K N H vs ds → DpAll K H vs ds
  | [], _, h => by cases h; exact .nil
  | _ :: _, _, h => by cases h with | cons a b => exact .cons (Dq.dp a) (DqAll.dp b)
end
theorem DqAll.len {K : PySem.W.Frag} {N : List Addr} {H : Hp} : ∀ {ds : List PyData} {vs : List V}, DqAll K N H vs ds → vs.length = ds.length
  | [], _, h => by cases h; rfl
  | _ :: _, _, h => by cases h with | cons a b => rw [List.length_cons, List.length_cons, DqAll.len b]
theorem DqAll.app {K : PySem.W.Frag} {N : List Addr} {H : Hp} {es : List PyData} {us : List V} (g : DqAll K N H us es) : ∀ {ds : List PyData} {vs : List V}, DqAll K N H vs ds → DqAll K N H (vs ++ us) (ds ++ es)
  | [], _, h => by cases h; exact g
  | _ :: _, _, h => by cases h with | cons a b => exact .cons a (DqAll.app g b)
theorem DqAll.at_ {K : PySem.W.Frag} {N : List Addr} {H : Hp} : ∀ {ds : List PyData} {vs : List V} {i : Nat}, DqAll K N H vs ds → i < ds.length → ∃ v, vs[i]? = some v ∧ Dq K N H v (ds.getD i .none)
  | [], _, _, _, l => absurd l (Nat.not_lt_zero _)
  | _ :: _, _, 0, h, _ => by cases h with | cons a b => exact ⟨_, rfl, a⟩
  | _ :: _, _, i + 1, h, l => by cases h with | cons a b => exact DqAll.at_ (i := i) b (Nat.lt_of_succ_lt_succ l)
def kindD : PyData → String
  | .none => "NoneType"
  | .bool _ => "bool"
  | .int _ => "int"
  | .str _ => "str"
  | .list _ => "list"
  | .tuple _ => "tuple"
  | .dict _ => "list"
theorem kindD_ok (d : PyData) : kindT (kindD d) := by cases d <;> simp [kindD, kindT]
theorem Dq.ty {K : PySem.W.Frag} {N : List Addr} {H : Hp} {d : PyData} {v : V} (h : Dq K N H v d) : TyB K H v (kindD d) := by
  cases h with
  | non => exact .non
  | bl b => exact .bl b
  | int i => exact .int i
  | str q l => exact .str _
  | lst a n q => exact .lst (SqL.of a)
  | tup a q => exact .tup a
/-! ### what refuses what is no program -/
theorem room65 {A : Around} {k : Nat} (hr : Room k A) : A.units + 65 < cLine := by
  have := hr.un
  omega
theorem lc_str {x : Str} {g : TG} {tt : TT} {te : TE} {vs : List Nat} {σ : L2.St} {H1 : Hp} {D : Addr} {Qd : Hp → Prop} (Pv : Nat → Hp → Prop) (h0 : Pv 0 (upd H1 D (.lst [])))
    (hs : ∀ i c H, x.cps[i]? = some c → Pv i H → g (.str ⟨#[c]⟩) (wipe σ vs) H fun σ2 H2 => wipe σ2 vs = wipe σ vs ∧ tt σ2 H2 fun b H3 =>
      if b = true then te σ2 H3 fun y H4 => ∃ acc, H4 D = some (.lst acc) ∧ acc.length < sizeLine ∧ Pv (i + 1) (upd H4 D (.lst (acc ++ [y]))) else Pv (i + 1) H3) (hd : ∀ H, Pv x.cps.size H → Qd H) :
    ∃ W : Nat → Nat → Hp → Prop, (∃ m, W 0 m (upd H1 D (.lst []))) ∧ ∀ i m H, W i m H →
      ((Its x).stop i H ∧ Qd H) ∨ ((Its x).go i H ∧ ∃ Nx : Hp → Prop, (∀ H', Nx H' → ∃ m', m' < m ∧ W (i + 1) m' H') ∧ ∀ y H', (Its x).yld i H y H' → g y (wipe σ vs) H' fun σ2 H2 => wipe σ2 vs = wipe σ vs ∧ tt σ2 H2 fun b H3 =>
        if b = true then te σ2 H3 fun y H4 => ∃ acc, H4 D = some (.lst acc) ∧ acc.length < sizeLine ∧ Nx (upd H4 D (.lst (acc ++ [y]))) else Nx H3) := by
  refine ⟨fun i m H => m = x.cps.size - i ∧ i ≤ x.cps.size ∧ Pv i H, ⟨x.cps.size, by simp, Nat.zero_le _, h0⟩, ?_⟩
  rintro i m H ⟨rfl, hi, p⟩
  by_cases hlt : i < x.cps.size
  · refine .inr ⟨hlt, Pv (i + 1), fun H' p' => ⟨x.cps.size - (i + 1), by omega, rfl, hlt, p'⟩, fun y H' yy => ?_⟩
    obtain ⟨e, c, hc, ey⟩ := yy
    subst e
    subst ey
    exact hs i c _ hc p
  · have e : i = x.cps.size := by omega
    subst e
    exact .inl ⟨Nat.le_refl _, hd H p⟩
theorem lt_one (c d : Nat) : decide ((⟨#[c]⟩ : Str).cps.toList < (⟨#[d]⟩ : Str).cps.toList) = decide (c < d) := by
  rw [Bool.eq_iff_iff, decide_eq_true_eq, decide_eq_true_eq]
  show [c] < [d] ↔ c < d
  rw [List.cons_lt_cons_iff]
  simp
theorem Dq.kInt {K : PySem.W.Frag} {N : List Addr} {H : Hp} {d : PyData} {v : V} (h : Dq K N H v d) (e : kindD d = "int") : ∃ n, d = .int n ∧ v = .int n := by
  cases h with
  | int i => exact ⟨i, rfl, rfl⟩
  | _ => exact absurd e (by simp [kindD])
theorem Dq.kStr {K : PySem.W.Frag} {N : List Addr} {H : Hp} {d : PyData} {v : V} (h : Dq K N H v d) (e : kindD d = "str") : ∃ x, d = .str x ∧ v = .str x ∧ x.length ≤ 1000 := by
  cases h with
  | str q l => exact ⟨_, rfl, rfl, l⟩
  | _ => exact absurd e (by simp [kindD])
theorem Dq.kTup {K : PySem.W.Frag} {N : List Addr} {H : Hp} {d : PyData} {v : V} (h : Dq K N H v d) (e : kindD d = "tuple") : ∃ a xs ds, d = .tuple ds ∧ v = .ref a ∧ SqT K H a xs ∧ DqAll K N H xs ds := by
  cases h with
  | tup a q => exact ⟨_, _, _, rfl, rfl, a, q⟩
  | _ => exact absurd e (by simp [kindD])
def badC (c : Nat) : Bool := decide (c < 97) || decide (122 < c)
section
variable {P : Program} {w : World} {K : PySem.W.Frag} {mg : Str → Option Value} {base : Heap} {C : Addr}
def spNum (K : PySem.W.Frag) (B : Addr) : Sp := fun vs H Q E => ∃ (v : V) (N : List Addr) (d : PyData), vs = [v] ∧ Dq K N H v d ∧ (numOk d = true → Q .non H) ∧ (numOk d = false → E (.ref B) none H)
theorem ok_need_number {Lp B D N U : Addr} (X : ExTxt K mg Lp B D N U) {f : Addr} {fd : FuncData} (T : Txt K mg C) (F : DefAt K mg "_need_number" "_need_number" s_need_number ["n"] f fd) : FnOk P w K mg base (L2.CX P w) 1 f fd ["n"] (spNum K B) := by
  obtain ⟨u, gM, rM⟩ := T.c_HIGHEST_NUMBER
  refine F.F.okX sc_need_number (fun vs H Q E h => ?_) (fun cdv A outer z H vs Q E hr h => ?_)
  · obtain ⟨v, N, d, rfl, _⟩ := h
    rfl
  · obtain ⟨v, N, d, rfl, hd, q, qe⟩ := h
    refine ⟨_, (pss_one (ps_if (PW.pt (pw_or (pt_cmpR op_neTy (pe_callTy call_type1 (by rfl) T.m_type (by decide +kernel) (pa_cons (pv 0) pa_nil)) (pe_bltn (v := .ty "int") (by rfl) T.m_int (by decide +kernel) rfl) (nomark _)) (pw_or (pt_cmpR op_lt (pv 0) pe_int (nomark _)) (pw_or1 (pt_cmpR op_gt (pv 0) (pe_glob (v := .int 999) rfl gM rM) (nomark _)))))) (pss_one (ps_raise rfl (takes_of rfl rfl rfl rfl) (SkE.pmk_own1 PySem.F.excBase_ValueError X.xB X.gB X.kB (raises_own X.bB X.tB) rfl (pe_joined (.cons pe_str (.cons (pe_fmt (pe_glob (v := .int 999) rfl gM rM)) .nil)))))) pss_nil)), ?_⟩
    have raise : numOk d = false → tJs [fun σ H Q => Q (.str "a number is a whole number from 0 to ") H, tFmt (fun σ H Q => Q (.int 999) H)] Str.empty [some v] H (fun _ H1 => E (.ref B) none H1) := fun e => ⟨_, rfl, by decide +kernel, .inr ⟨999, rfl, by decide +kernel, _, rfl, by decide +kernel, qe e⟩⟩
    refine ⟨_, rfl, v, _, rfl, hd.ty, _, _, rfl, rfl, kindD_ok d, by simp [kindT], ?_⟩
    refine ⟨_, rfl, ite2 (fun c => raise (by cases d <;> first | rfl | exact absurd c (by simp [kindD]))) (fun c => ?_)⟩
    obtain ⟨n, rfl, rfl⟩ := hd.kInt (by cases h : decide (kindD d = "int") with | true => exact of_decide_eq_true h | false => rw [h] at c; exact absurd rfl c)
    refine ⟨_, rfl, n, 0, rfl, rfl, _, rfl, ite2 (fun c => raise ?_) (fun c => ⟨_, rfl, n, 999, rfl, rfl, _, rfl, ite2 (fun c2 => raise ?_) (fun c2 => q ?_)⟩)⟩
    · have c := of_decide_eq_true c
      show (decide (0 ≤ n) && decide (n ≤ 999)) = false
      rw [decide_eq_false (by omega : ¬ 0 ≤ n)]
      rfl
    · have c2 := of_decide_eq_true c2
      show (decide (0 ≤ n) && decide (n ≤ 999)) = false
      rw [decide_eq_false (by omega : ¬ n ≤ 999), Bool.and_false]
    · have c : ¬ n < 0 := fun z => c (decide_eq_true z)
      have c2 : ¬ 999 < n := fun z => c2 (decide_eq_true z)
      show (decide (0 ≤ n) && decide (n ≤ 999)) = true
      rw [decide_eq_true (by omega : 0 ≤ n), decide_eq_true (by omega : n ≤ 999)]
      rfl
def spNameOk (K : PySem.W.Frag) (B : Addr) : Sp := fun vs H Q E => ∃ (v : V) (N : List Addr) (d : PyData), vs = [v] ∧ Dq K N H v d ∧ (nameOk d = true → ∀ H', Same H H' → Q .non H') ∧ (nameOk d = false → ∀ H', Same H H' → E (.ref B) none H')
theorem ok_need_name {Lp B D N U : Addr} (X : ExTxt K mg Lp B D N U) {f : Addr} {fd : FuncData} (T : Txt K mg C) (F : DefAt K mg "_need_name" "_need_name" s_need_name ["x"] f fd) : FnOk P w K mg base (L2.CX P w) 1 f fd ["x"] (spNameOk K B) := by
  obtain ⟨u, gM, rM⟩ := T.c_MOST_LETTERS
  refine F.F.okX sc_need_name (fun vs H Q E h => ?_) (fun cdv A outer z H vs Q E hr h => ?_)
  · obtain ⟨v, N, d, rfl, _⟩ := h
    rfl
  · obtain ⟨v, N, d, rfl, hd, q, qe⟩ := h
    refine ⟨_, (pss_cons (ps_if (PW.pt (pw_or (pt_cmpR op_neTy (pe_callTy call_type1 (by rfl) T.m_type (by decide +kernel) (pa_cons (pv 0) pa_nil)) (pe_bltn (v := .ty "str") (by rfl) T.m_str (by decide +kernel) rfl) (nomark _)) (pw_or (pt_cmpR op_eq (pe_callB call_len_str (by rfl) T.m_len (by decide +kernel) (pa_cons (pv 0) pa_nil)) pe_int (nomark _)) (pw_or1 (pt_cmpR op_gt (pe_callB call_len_str (by rfl) T.m_len (by decide +kernel) (pa_cons (pv 0) pa_nil)) (pe_glob (v := .int 8) rfl gM rM) (nomark _)))))) (pss_one (ps_raise rfl (takes_of rfl rfl rfl rfl) (SkE.pmk_own1 PySem.F.excBase_ValueError X.xB X.gB X.kB (raises_own X.bB X.tB) rfl (pe_joined (.cons pe_str (.cons (pe_fmt (pe_glob (v := .int 8) rfl gM rM)) (.cons pe_str .nil))))))) pss_nil)
      (pss_one (ps_if (pt_val (pe_callB (cr_any rfl) (by rfl) T.m_any (by decide +kernel) (pa_cons (pe_lc (own := [("sign", 1)]) (g := gName 1) (tt := tYes) rfl sc_need_name.nd (pi_str (pv 0)) (blkOk_by (own := [("sign", 1)]) (N := ["x", "sign"]) (sc := defScope s_need_name) (by decide +kernel)) (fun _ _ _ _ _ => pg_name (i := 1) sc_need_name.nd rfl (.inl rfl)) (fun _ _ _ _ _ => pts_nil) (fun _ _ _ _ _ => (pe_or (pe_cmpR op_lt_str (pv 1) pe_str (nomark _)) (pe_one (pe_cmpR op_gt_str (pv 1) pe_str (nomark _)))))) pa_nil))) (pss_one (ps_raise rfl (takes_of rfl rfl rfl rfl) (pmk_own PySem.F.excBase_ValueError X.xB X.gB X.kB (raises_own X.bB X.tB) rfl))) pss_nil))), ?_⟩
    have raise : nameOk d = false → tJs [tC (.str "a name is a text of one to "), tFmt (tC (.int 8)), tC (.str " letters")] Str.empty [some v, none] H (fun _ H1 => E (.ref B) none H1) := fun e => ⟨_, rfl, by decide +kernel, .inr ⟨8, rfl, by decide +kernel, _, rfl, by decide +kernel, _, rfl, by decide +kernel, qe e _ (Same.refl _)⟩⟩
    refine ⟨_, rfl, v, _, rfl, hd.ty, _, _, rfl, rfl, kindD_ok d, by simp [kindT], ?_⟩
    refine ⟨_, rfl, ite2 (fun c => raise (by cases d <;> first | rfl | exact absurd c (by simp [kindD]))) (fun c => ?_)⟩
    obtain ⟨x, rfl, rfl, lx⟩ := hd.kStr (by cases h : decide (kindD d = "str") with | true => exact of_decide_eq_true h | false => rw [h] at c; exact absurd rfl c)
    have lx2 : x.length ≤ sizeLine := by rw [sizeLine_eq]; omega
    refine ⟨_, rfl, x, rfl, lx2, rfl, _, rfl, ite2 (fun c1 => raise ?_) (fun c1 => ⟨_, rfl, x, rfl, lx2, _, 8, rfl, rfl, _, rfl, ite2 (fun c2 => raise ?_) (fun c2 => ?_)⟩)⟩
    · have e : V.int (x.length : Nat) = V.int 0 := of_decide_eq_true c1
      have e : ((x.length : Nat) : Int) = 0 := by injection e
      show (decide (1 ≤ x.length) && _) = false
      rw [decide_eq_false (by omega : ¬ 1 ≤ x.length)]
      rfl
    · have c2 : (8 : Int) < (x.length : Nat) := of_decide_eq_true c2
      show (decide (1 ≤ x.length) && (decide (x.length ≤ 8) && _)) = false
      rw [decide_eq_false (by omega : ¬ x.length ≤ 8), Bool.false_and, Bool.and_false]
    · have l1 : 1 ≤ x.length := by
        by_cases z : x.length = 0
        · exact absurd (decide_eq_true (by rw [z]; rfl)) c1
        · omega
      have l8 : x.length ≤ 8 := by
        by_cases z : (8 : Int) < (x.length : Nat)
        · exact absurd (decide_eq_true z) c2
        · omega
      refine ⟨_, rfl, x, rfl, fun D nD => lc_str (fun i Hx => Hx D = some (.lst (((x.cps.toList.take i).map badC).map V.bl)) ∧ Same H Hx)
        ⟨by rw [List.take_zero]; exact upd_same, same_upd nD⟩ (fun i c Hx hc ⟨e1, u⟩ => ?_) (fun Hx ⟨e1, u⟩ => ?_)⟩
      · have close : ∀ b : Bool, b = badC c → ∃ acc, Hx D = some (HO.lst acc) ∧ acc.length < sizeLine ∧ upd Hx D (HO.lst (acc ++ [V.bl b])) D = some (HO.lst (((x.cps.toList.take (i + 1)).map badC).map V.bl)) ∧ Same H (upd Hx D (HO.lst (acc ++ [V.bl b]))) := fun b eb => by
          refine ⟨_, e1, by rw [List.length_map, List.length_map, List.length_take, sizeLine_eq, Array.length_toList]; show min i x.length < _; omega, ?_, fun b o e => ?_⟩
          · rw [upd_same, List.take_add_one, Array.getElem?_toList, hc, List.map_append, List.map_append, eb]
            rfl
          · rw [upd_ne (ne_of_none e nD)]
            exact u _ _ e
        refine ⟨rfl, _, rfl, _, _, rfl, rfl, _, rfl, ite2 (fun t1 => ?_) (fun t1 => ⟨_, rfl, _, _, rfl, rfl, ?_⟩)⟩
        · refine close true ?_
          rw [show (Str.ofString "a") = (⟨#[97]⟩ : Str) from by decide +kernel, lt_one] at t1
          show true = (decide (c < 97) || _)
          rw [t1, Bool.true_or]
        · refine close _ ?_
          rw [show (Str.ofString "a") = (⟨#[97]⟩ : Str) from by decide +kernel, lt_one] at t1
          rw [show (Str.ofString "z") = (⟨#[122]⟩ : Str) from by decide +kernel, lt_one]
          show _ = (decide (c < 97) || _)
          rw [Bool.eq_false_iff.mpr t1, Bool.false_or]
      · rw [List.take_of_length_le (by rw [Array.length_toList]; exact Nat.le_refl _)] at e1
        have en : nameOk (.str x) = !((x.cps.toList.map badC).any id) := by
          show (decide (1 ≤ x.length) && (decide (x.length ≤ 8) && !_)) = _
          rw [decide_eq_true l1, decide_eq_true l8, Bool.true_and, Bool.true_and, List.any_map]
          rfl
        refine ⟨D, _, rfl, SqL.of e1, _, rfl, ite2 (fun t => qe (by rw [en, t]; rfl) _ u) (fun t => q (by rw [en, Bool.eq_false_iff.mpr t]; rfl) _ u)⟩
def spWord (K : PySem.W.Frag) (B : Addr) : Sp := fun vs H Q E => ∃ (v : V) (a : Addr) (N : List Addr) (d : PyData) (fs : List (Str × Nat)), vs = [v, .ref a] ∧ Dq K N H v d ∧ (∀ H', Dp K H' (.ref a) (.tuple (frm fs))) ∧ (∀ f ∈ fs, PyData.strOk f.1 = true) ∧
  (∀ x, wordOf fs d = some x → ∀ H', Same H H' → Q (.str x) H') ∧ (wordOf fs d = none → ∀ H', Same H H' → E (.ref B) none H')
theorem ok_word_of {Lp B D N U : Addr} (X : ExTxt K mg Lp B D N U) {f : Addr} {fd : FuncData} (T : Txt K mg C) (F : DefAt K mg "_word_of" "_word_of" s_word_of ["thing", "forms"] f fd) : FnOk P w K mg base (L2.CX P w) 1 f fd ["thing", "forms"] (spWord K B) := by
  refine F.F.okX sc_word_of (fun vs H Q E h => ?_) (fun cdv A outer z H vs Q E hr h => ?_)
  · obtain ⟨v, a, N, d, fs, rfl, _⟩ := h
    rfl
  · obtain ⟨v, a, N, d, fs, rfl, hd, hf, sf, q, qe⟩ := h
    refine ⟨_, (pss_cons (ps_if (PW.pt (pw_or (pt_cmpR op_neTy (pe_callTy call_type1 (by rfl) T.m_type (by decide +kernel) (pa_cons (pv 0) pa_nil)) (pe_bltn (v := .ty "tuple") (by rfl) T.m_tuple (by decide +kernel) rfl) (nomark _)) (pw_or1 (pt_cmpR op_eq (pe_callB call_len_seq (by rfl) T.m_len (by decide +kernel) (pa_cons (pv 0) pa_nil)) pe_int (nomark _))))) (pss_one (ps_raise rfl (takes_of rfl rfl rfl rfl) (pmk_own PySem.F.excBase_ValueError X.xB X.gB X.kB (raises_own X.bB X.tB) rfl))) pss_nil)
      (pss_cons (ps_set (i := 2) sc_word_of.nd rfl (.inl rfl) (pe_ix ix_tup (pv 0) pe_int (fun _ _ => rfl)))
      (pss_cons (ps_if (PW.pt (pw_or (pt_cmpR op_neTy (pe_callTy call_type1 (by rfl) T.m_type (by decide +kernel) (pa_cons (pv 2) pa_nil)) (pe_bltn (v := .ty "str") (by rfl) T.m_str (by decide +kernel) rfl) (nomark _)) (pw_or1 (pt_cmpR (op_notInT (room65 hr)) (pe_tup (pa_cons (pv 2) (pa_cons (pe_callB call_len_seq (by rfl) T.m_len (by decide +kernel) (pa_cons (pv 0) pa_nil)) pa_nil))) (pv 1) (by rfl))))) (pss_one (ps_raise rfl (takes_of rfl rfl rfl rfl) (pmk_own PySem.F.excBase_ValueError X.xB X.gB X.kB (raises_own X.bB X.tB) rfl))) pss_nil)
      (pss_one (ps_ret (pv 2)))))), ?_⟩
    refine ⟨_, rfl, v, _, rfl, hd.ty, _, _, rfl, rfl, kindD_ok d, by simp [kindT], ?_⟩
    refine ⟨_, rfl, ite2 (fun c => qe (by cases d <;> first | rfl | exact absurd c (by simp [kindD])) _ (Same.refl _)) (fun c => ?_)⟩
    obtain ⟨p, xs, ds, rfl, rfl, st, ad⟩ := hd.kTup (by cases h : decide (kindD d = "tuple") with | true => exact of_decide_eq_true h | false => rw [h] at c; exact absurd rfl c)
    refine ⟨_, rfl, p, xs, rfl, .inr st, rfl, _, rfl, ite2 (fun c1 => qe ?_ _ (Same.refl _)) (fun c1 => ?_)⟩
    · have e : V.int (xs.length : Nat) = V.int 0 := of_decide_eq_true c1
      have e : ((xs.length : Nat) : Int) = 0 := by injection e
      have l := ad.len
      cases ds with
      | nil => rfl
      | cons _ _ => rw [l, List.length_cons] at e; omega
    · cases ad with
      | nil => exact absurd rfl c1
      | @cons v1 vs1 d1 ds1 h1 ad1 =>
        refine ⟨_, rfl, p, _, _, _, rfl, rfl, st, atI_nat (j := 0) rfl, ?_⟩
        refine ⟨_, rfl, v1, _, rfl, h1.ty, _, _, rfl, rfl, kindD_ok d1, by simp [kindT], ?_⟩
        refine ⟨_, rfl, ite2 (fun c => qe (by cases d1 <;> first | rfl | exact absurd c (by simp [kindD])) _ (Same.refl _)) (fun c => ?_)⟩
        obtain ⟨x, rfl, rfl, lx⟩ := h1.kStr (by cases h : decide (kindD d1 = "str") with | true => exact of_decide_eq_true h | false => rw [h] at c; exact absurd rfl c)
        have sx : PyData.strOk x = true := by cases h1 with | str q _ => exact q
        refine ⟨_, rfl, _, rfl, p, _, rfl, .inr st, (by show 2 ≤ sizeLine; decide), fun t nt => ?_⟩
        have u := same_upd (o := .tup [.str x, .int ((V.str x :: vs1).length : Nat)]) nt
        have el : (V.str x :: vs1).length = ds1.length + 1 := by rw [List.length_cons, ad1.len]
        refine ⟨_, rfl, .tuple [.str x, .int ((V.str x :: vs1).length : Nat)], frm fs, .tup (SqT.of upd_same) (.cons (.str _) (.cons (.int _) .nil)), hf _, shaped_pair sx, shaped_frm sf, ?_⟩
        rw [el] at u ⊢
        rw [any_frm]
        refine ⟨_, rfl, ite2 (fun c2 => qe (if_neg ?_) _ u) (fun c2 => ⟨_, rfl, q x (if_pos ?_) _ u⟩)⟩
        · intro m
          rw [decide_eq_true m] at c2
          exact absurd c2 (by decide)
        · by_cases m : (x, ds1.length + 1) ∈ fs
          · exact m
          · rw [decide_eq_false m] at c2
            exact absurd rfl c2
theorem at_dq {N : List Addr} {H : Hp} {xs : List V} {ds : List PyData} {k : Nat} (A : DqAll K N H xs ds) (l : k < ds.length) : ∃ u, atI xs ((k : Nat) : Int) = some u ∧ Dq K N H u (ds.getD k .none) := by
  obtain ⟨u, e, h⟩ := A.at_ l
  exact ⟨u, atI_nat e, h⟩
/-- what stands behind a word of the forms -/
theorem word_dq {N : List Addr} {H : Hp} {v : V} {d : PyData} {fs : List (Str × Nat)} {x : Str} (h : Dq K N H v d) (e : wordOf fs d = some x) :
    ∃ (p : Addr) (xs : List V) (n : Nat), v = .ref p ∧ SqT K H p xs ∧ (x, n) ∈ fs ∧ ∀ k, k < n → ∃ u, atI xs ((k : Nat) : Int) = some u ∧ Dq K N H u (atD k d) := by
  obtain ⟨r, rfl, m⟩ := wordOf_some e
  cases h with
  | tup st ad => exact ⟨_, _, _, rfl, st, m, fun k l => at_dq ad l⟩
def spEx (K : PySem.W.Frag) (B : Addr) (n : Nat) : Sp := fun vs H Q E => ∃ (v : V) (N : List Addr) (d : PyData), vs = [v, .int (n : Nat)] ∧ Dq K N H v d ∧ (exOk n d = true → ∀ H', Same H H' → Q .non H') ∧ (exOk n d = false → ∀ H', Same H H' → E (.ref B) none H')
theorem exOk_word {n : Nat} {d : PyData} {x : Str} (e : wordOf EXPRF d = some x) : exOk (n + 1) d = if x = "num" then numOk (atD 1 d) else if x = "name" then nameOk (atD 1 d) else exOk n (atD 1 d) && exOk n (atD 2 d) := by
  show (match wordOf EXPRF d with | none => false | some w => _) = _
  rw [e]
theorem exOk_none {n : Nat} {d : PyData} (e : wordOf EXPRF d = none) : exOk (n + 1) d = false := by
  show (match wordOf EXPRF d with | none => false | some w => _) = _
  rw [e]
theorem dec_strV {x y : Str} : decide (V.str x = V.str y) = decide (x = y) := by
  rw [Bool.eq_iff_iff, decide_eq_true_eq, decide_eq_true_eq]
  exact ⟨fun z => by injection z, fun z => by rw [z]⟩
theorem exprs_ok : ∀ f ∈ EXPRF, PyData.strOk f.1 = true := by decide +kernel
theorem stms_ok : ∀ f ∈ STMSF, PyData.strOk f.1 = true := by decide +kernel
theorem rows_ok : ∀ f ∈ ROWSF, PyData.strOk f.1 = true := by decide +kernel
theorem ok_need_expression {Lp B D N U : Addr} (X : ExTxt K mg Lp B D N U) {f : Addr} {fd : FuncData} (T : Txt K mg C) (F : DefAt K mg "_need_expression" "_need_expression" s_need_expression ["expression", "deep"] f fd) : ∀ n, FnOk P w K mg base (L2.CX P w) (n + 2) f fd ["expression", "deep"] (spEx K B n) := by
  obtain ⟨u, gM, rM⟩ := T.c_MOST_DEEP
  obtain ⟨ea, gE, fE⟩ := T.c_EXPRESSIONS
  obtain ⟨f1, fd1, D_word_of⟩ := T.d_word_of
  have G_word_of : FnOk P w K mg base (L2.CX P w) 1 f1 fd1 ["thing", "forms"] (spWord K B) := ok_word_of X T D_word_of
  obtain ⟨f2, fd2, D_need_number⟩ := T.d_need_number
  have G_need_number : FnOk P w K mg base (L2.CX P w) 1 f2 fd2 ["n"] (spNum K B) := ok_need_number X T D_need_number
  obtain ⟨f3, fd3, D_need_name⟩ := T.d_need_name
  have G_need_name : FnOk P w K mg base (L2.CX P w) 1 f3 fd3 ["x"] (spNameOk K B) := ok_need_name X T D_need_name
  intro n
  induction n with
  | zero =>
    have D_need_expression := F
    have G_need_expression : FnOk P w K mg base (L2.CX P w) 1 f fd ["expression", "deep"] (fun _ _ _ _ => False) := ⟨fun _ _ _ _ h => h.elim, fun _ _ _ _ _ _ _ _ _ _ _ _ _ h => h.elim⟩
    refine F.F.okX sc_need_expression (fun vs H Q E h => ?_) (fun cdv A outer z H vs Q E hr h => ?_)
    · obtain ⟨v, N, d, rfl, _⟩ := h
      rfl
    · obtain ⟨v, N, d, rfl, hd, q, qe⟩ := h
      refine ⟨_, (pss_cons (ps_if (pt_cmpR op_eq (pv 1) pe_int (nomark _)) (pss_one (ps_raise rfl (takes_of rfl rfl rfl rfl) (SkE.pmk_own1 PySem.F.excBase_ValueError X.xB X.gB X.kB (raises_own X.bB X.tB) rfl (pe_joined (.cons pe_str (.cons (pe_fmt (pe_glob (v := .int 5) rfl gM rM)) (.cons pe_str .nil))))))) pss_nil)
      (pss_cons (ps_set (i := 2) sc_need_expression.nd rfl (.inl rfl) (pe_callS G_word_of (hr.mono (by omega)) (by rfl) D_word_of.g D_word_of.F.kp D_word_of.b (fun σ => passAt (takes_of rfl rfl rfl rfl) σ) (pa_cons (pv 0) (pa_cons (pe_glob (v := .ref ea) rfl gE rfl) pa_nil))))
      (pss_one (ps_if (pt_cmpR op_eq (pv 2) pe_str (nomark _)) (pss_one (ps_expr (pe_callS G_need_number (hr.mono (by omega)) (by rfl) D_need_number.g D_need_number.F.kp D_need_number.b (fun σ => passAt (takes_of rfl rfl rfl rfl) σ) (pa_cons (pe_ix ix_tup (pv 0) pe_int (fun _ _ => rfl)) pa_nil)))) (pss_one (ps_if (pt_cmpR op_eq (pv 2) pe_str (nomark _)) (pss_one (ps_expr (pe_callS G_need_name (hr.mono (by omega)) (by rfl) D_need_name.g D_need_name.F.kp D_need_name.b (fun σ => passAt (takes_of rfl rfl rfl rfl) σ) (pa_cons (pe_ix ix_tup (pv 0) pe_int (fun _ _ => rfl)) pa_nil)))) (pss_cons (ps_expr (pe_callS G_need_expression (hr.mono (by omega)) (by rfl) D_need_expression.g D_need_expression.F.kp D_need_expression.b (fun σ => passAt (takes_of rfl rfl rfl rfl) σ) (pa_cons (pe_ix ix_tup (pv 0) pe_int (fun _ _ => rfl)) (pa_cons (pe_op op_sub (pv 1) pe_int) pa_nil)))) (pss_one (ps_expr (pe_callS G_need_expression (hr.mono (by omega)) (by rfl) D_need_expression.g D_need_expression.F.kp D_need_expression.b (fun σ => passAt (takes_of rfl rfl rfl rfl) σ) (pa_cons (pe_ix ix_tup (pv 0) pe_int (fun _ _ => rfl)) (pa_cons (pe_op op_sub (pv 1) pe_int) pa_nil)))))))))))), ?_⟩
      exact ⟨_, rfl, rfl, _, rfl, ite2 (fun _ => ⟨_, rfl, by decide +kernel, .inr ⟨5, rfl, by decide +kernel, _, rfl, by decide +kernel, _, rfl, by decide +kernel, qe rfl _ (Same.refl _)⟩⟩) (fun c => absurd rfl c)⟩
  | succ n ih =>
    have D_need_expression := F
    have G_need_expression := ih
    refine F.F.okX sc_need_expression (fun vs H Q E h => ?_) (fun cdv A outer z H vs Q E hr h => ?_)
    · obtain ⟨v, N, d, rfl, _⟩ := h
      rfl
    · obtain ⟨v, N, d, rfl, hd, q, qe⟩ := h
      refine ⟨_, (pss_cons (ps_if (pt_cmpR op_eq (pv 1) pe_int (nomark _)) (pss_one (ps_raise rfl (takes_of rfl rfl rfl rfl) (SkE.pmk_own1 PySem.F.excBase_ValueError X.xB X.gB X.kB (raises_own X.bB X.tB) rfl (pe_joined (.cons pe_str (.cons (pe_fmt (pe_glob (v := .int 5) rfl gM rM)) (.cons pe_str .nil))))))) pss_nil)
      (pss_cons (ps_set (i := 2) sc_need_expression.nd rfl (.inl rfl) (pe_callS G_word_of (hr.mono (by omega)) (by rfl) D_word_of.g D_word_of.F.kp D_word_of.b (fun σ => passAt (takes_of rfl rfl rfl rfl) σ) (pa_cons (pv 0) (pa_cons (pe_glob (v := .ref ea) rfl gE rfl) pa_nil))))
      (pss_one (ps_if (pt_cmpR op_eq (pv 2) pe_str (nomark _)) (pss_one (ps_expr (pe_callS G_need_number (hr.mono (by omega)) (by rfl) D_need_number.g D_need_number.F.kp D_need_number.b (fun σ => passAt (takes_of rfl rfl rfl rfl) σ) (pa_cons (pe_ix ix_tup (pv 0) pe_int (fun _ _ => rfl)) pa_nil)))) (pss_one (ps_if (pt_cmpR op_eq (pv 2) pe_str (nomark _)) (pss_one (ps_expr (pe_callS G_need_name (hr.mono (by omega)) (by rfl) D_need_name.g D_need_name.F.kp D_need_name.b (fun σ => passAt (takes_of rfl rfl rfl rfl) σ) (pa_cons (pe_ix ix_tup (pv 0) pe_int (fun _ _ => rfl)) pa_nil)))) (pss_cons (ps_expr (pe_callS G_need_expression (hr.mono (by omega)) (by rfl) D_need_expression.g D_need_expression.F.kp D_need_expression.b (fun σ => passAt (takes_of rfl rfl rfl rfl) σ) (pa_cons (pe_ix ix_tup (pv 0) pe_int (fun _ _ => rfl)) (pa_cons (pe_op op_sub (pv 1) pe_int) pa_nil)))) (pss_one (ps_expr (pe_callS G_need_expression (hr.mono (by omega)) (by rfl) D_need_expression.g D_need_expression.F.kp D_need_expression.b (fun σ => passAt (takes_of rfl rfl rfl rfl) σ) (pa_cons (pe_ix ix_tup (pv 0) pe_int (fun _ _ => rfl)) (pa_cons (pe_op op_sub (pv 1) pe_int) pa_nil)))))))))))), ?_⟩
      refine ⟨_, rfl, rfl, _, rfl, ite2 (fun c => ?_) (fun _ => ?_)⟩
      · have e : V.int ((n + 1 : Nat) : Int) = V.int 0 := of_decide_eq_true c
        have e : ((n + 1 : Nat) : Int) = 0 := by injection e
        omega
      refine ⟨_, rfl, v, ea, N, d, EXPRF, rfl, hd, fE, exprs_ok, fun x ex H1 s1 => ?_, fun ex H1 s1 => qe (exOk_none ex) H1 s1⟩
      rw [exOk_word ex] at q qe
      obtain ⟨p, xs, m, rfl, st, mm, at_⟩ := word_dq (hd.stay (Sty.same s1)) ex
      have hm : 2 ≤ m := by
        simp only [EXPRF, List.mem_cons, Prod.mk.injEq, List.not_mem_nil, or_false] at mm
        omega
      obtain ⟨v1, a1, d1⟩ := at_ 1 hm
      refine ⟨_, rfl, rfl, _, rfl, ite2 (fun c => ?_) (fun c => ⟨_, rfl, rfl, _, rfl, ite2 (fun c2 => ?_) (fun c2 => ?_)⟩)⟩
      · have c : x = "num" := by injection of_decide_eq_true c
        rw [if_pos c] at q qe
        exact ⟨_, rfl, p, xs, _, _, rfl, rfl, st, a1, v1, _, _, rfl, d1, fun e => q e _ s1, fun e => qe e _ s1⟩
      · have c : ¬ x = "num" := fun z => c (decide_eq_true (by rw [z]))
        have c2 : x = "name" := by injection of_decide_eq_true c2
        rw [if_neg c, if_pos c2] at q qe
        exact ⟨_, rfl, p, xs, _, _, rfl, rfl, st, a1, v1, _, _, rfl, d1, fun e H2 s2 => q e _ (s1.trans s2), fun e H2 s2 => qe e _ (s1.trans s2)⟩
      · have c : ¬ x = "num" := fun z => c (decide_eq_true (by rw [z]))
        have c2 : ¬ x = "name" := fun z => c2 (decide_eq_true (by rw [z]))
        rw [if_neg c, if_neg c2] at q qe
        have hm : 3 ≤ m := by
          simp only [EXPRF, List.mem_cons, Prod.mk.injEq, List.not_mem_nil, or_false] at mm
          rcases mm with z | z | z | z
          · exact absurd z.1 c
          · exact absurd z.1 c2
          · omega
          · omega
        obtain ⟨v2, a2, d2⟩ := at_ 2 hm
        refine ⟨_, rfl, p, xs, _, _, rfl, rfl, st, a1, _, rfl, _, 1, rfl, rfl, v1, _, _, congrArg (fun i => [v1, V.int i]) (by omega), d1, fun e H2 s2 => ?_, fun e H2 s2 => qe (by rw [e]; rfl) _ (s1.trans s2)⟩
        refine ⟨_, rfl, p, xs, _, _, rfl, rfl, SqT.keeps st (TupsStay.same s2), a2, _, rfl, _, 1, rfl, rfl, v2, _, _, congrArg (fun i => [v2, V.int i]) (by omega), d2.stay (Sty.same s2), fun e2 H3 s3 => q (by rw [e, e2]; rfl) _ ((s1.trans s2).trans s3), fun e2 H3 s3 => qe (by rw [e, e2]; rfl) _ ((s1.trans s2).trans s3)⟩
def innerF : Nat → Nat → PyData → Option Nat
  | 0 => fun _ _ => none
  | l + 1 => needRow l
theorem needRow_eq : ∀ l, needRow l = needRowB (innerF l)
  | 0 => rfl
  | _ + 1 => rfl
def spNeedRow (K : PySem.W.Frag) (B : Addr) (l : Nat) : Sp := fun vs H Q E => ∃ (v : V) (N : List Addr) (d : PyData) (left : Nat), vs = [v, .int (left : Nat), .int (l : Nat)] ∧ Dq K N H v d ∧ (∀ m, needRow l left d = some m → ∀ H', Same H H' → Q (.int (m : Nat)) H') ∧ (needRow l left d = none → ∀ H', Same H H' → E (.ref B) none H')
def spNeedSt (K : PySem.W.Frag) (B : Addr) (l : Nat) : Sp := fun vs H Q E => ∃ (v : V) (N : List Addr) (d : PyData) (left : Nat), vs = [v, .int (left : Nat), .int (l : Nat)] ∧ Dq K N H v d ∧ (∀ m, needSt (innerF l) left d = some m → ∀ H', Same H H' → Q (.int (m : Nat)) H') ∧ (needSt (innerF l) left d = none → ∀ H', Same H H' → E (.ref B) none H')
theorem needSt_word {inner : Nat → PyData → Option Nat} {left : Nat} {s : PyData} {x : Str} (e : wordOf STMSF s = some x) : needSt inner left s = if x = "say" then (if exOk 5 (atD 1 s) = true then some left else none)
    else if nameOk (atD 1 s) = true ∧ exOk 5 (atD 2 s) = true then (if x = "set" then some left else inner left (atD 3 s)) else none := by
  unfold needSt
  rw [e]
theorem needSt_none {inner : Nat → PyData → Option Nat} {left : Nat} {s : PyData} (e : wordOf STMSF s = none) : needSt inner left s = none := by
  unfold needSt
  rw [e]
theorem ok_need_statement {Lp B D N U : Addr} (X : ExTxt K mg Lp B D N U) {f f0 : Addr} {fd fd0 : FuncData} (T : Txt K mg C) (F : DefAt K mg "_need_statement" "_need_statement" s_need_statement ["statement", "statements", "laps"] f fd)
    (D_need_row : DefAt K mg "_need_row" "_need_row" s_need_row ["row", "statements", "laps"] f0 fd0) {l k : Nat} (hk : 7 ≤ k) (G_need_row : FnOk P w K mg base (L2.CX P w) k f0 fd0 ["row", "statements", "laps"] (fun vs H Q E => 1 ≤ l ∧ spNeedRow K B (l - 1) vs H Q E)) :
    FnOk P w K mg base (L2.CX P w) (k + 1) f fd ["statement", "statements", "laps"] (spNeedSt K B l) := by
  obtain ⟨u, gM, rM⟩ := T.c_MOST_DEEP
  obtain ⟨u2, gL, rL⟩ := T.c_MOST_LAPS
  obtain ⟨ea, gE, fE⟩ := T.c_STATEMENTS
  obtain ⟨f1, fd1, D_word_of⟩ := T.d_word_of
  have G_word_of : FnOk P w K mg base (L2.CX P w) 1 f1 fd1 ["thing", "forms"] (spWord K B) := ok_word_of X T D_word_of
  obtain ⟨f2, fd2, D_need_expression⟩ := T.d_need_expression
  have G_need_expression : FnOk P w K mg base (L2.CX P w) 7 f2 fd2 ["expression", "deep"] (spEx K B 5) := ok_need_expression X T D_need_expression 5
  obtain ⟨f3, fd3, D_need_name⟩ := T.d_need_name
  have G_need_name : FnOk P w K mg base (L2.CX P w) 1 f3 fd3 ["x"] (spNameOk K B) := ok_need_name X T D_need_name
  refine F.F.okX sc_need_statement (fun vs H Q E h => ?_) (fun cdv A outer z H vs Q E hr h => ?_)
  · obtain ⟨v, N, d, left, rfl, _⟩ := h
    rfl
  · obtain ⟨v, N, d, left, rfl, hd, q, qe⟩ := h
    refine ⟨_, (pss_cons (ps_set (i := 3) sc_need_statement.nd rfl (.inl rfl) (pe_callS G_word_of (hr.mono (by omega)) (by rfl) D_word_of.g D_word_of.F.kp D_word_of.b (fun σ => passAt (takes_of rfl rfl rfl rfl) σ) (pa_cons (pv 0) (pa_cons (pe_glob (v := .ref ea) rfl gE rfl) pa_nil))))
      (pss_cons (ps_if (pt_cmpR op_eq (pv 3) pe_str (nomark _)) (pss_cons (ps_expr (pe_callS G_need_expression (hr.mono (by omega)) (by rfl) D_need_expression.g D_need_expression.F.kp D_need_expression.b (fun σ => passAt (takes_of rfl rfl rfl rfl) σ) (pa_cons (pe_ix ix_tup (pv 0) pe_int (fun _ _ => rfl)) (pa_cons (pe_glob (v := .int 5) rfl gM rM) pa_nil)))) (pss_one (ps_ret (pv 1)))) pss_nil)
      (pss_cons (ps_expr (pe_callS G_need_name (hr.mono (by omega)) (by rfl) D_need_name.g D_need_name.F.kp D_need_name.b (fun σ => passAt (takes_of rfl rfl rfl rfl) σ) (pa_cons (pe_ix ix_tup (pv 0) pe_int (fun _ _ => rfl)) pa_nil)))
      (pss_cons (ps_expr (pe_callS G_need_expression (hr.mono (by omega)) (by rfl) D_need_expression.g D_need_expression.F.kp D_need_expression.b (fun σ => passAt (takes_of rfl rfl rfl rfl) σ) (pa_cons (pe_ix ix_tup (pv 0) pe_int (fun _ _ => rfl)) (pa_cons (pe_glob (v := .int 5) rfl gM rM) pa_nil))))
      (pss_cons (ps_if (pt_cmpR op_eq (pv 3) pe_str (nomark _)) (pss_one (ps_ret (pv 1))) pss_nil)
      (pss_cons (ps_if (pt_cmpR op_eq (pv 2) pe_int (nomark _)) (pss_one (ps_raise rfl (takes_of rfl rfl rfl rfl) (SkE.pmk_own1 PySem.F.excBase_ValueError X.xB X.gB X.kB (raises_own X.bB X.tB) rfl (pe_joined (.cons pe_str (.cons (pe_fmt (pe_glob (v := .int 3) rfl gL rL)) (.cons pe_str .nil))))))) pss_nil)
      (pss_one (ps_ret (pe_callS G_need_row (hr.mono (by omega)) (by rfl) D_need_row.g D_need_row.F.kp D_need_row.b (fun σ => passAt (takes_of rfl rfl rfl rfl) σ) (pa_cons (pe_ix ix_tup (pv 0) pe_int (fun _ _ => rfl)) (pa_cons (pv 1) (pa_cons (pe_op op_sub (pv 2) pe_int) pa_nil)))))))))))), ?_⟩
    refine ⟨_, rfl, v, ea, N, d, STMSF, rfl, hd, fE, stms_ok, fun x ex H1 s1 => ?_, fun ex H1 s1 => qe (needSt_none ex) H1 s1⟩
    rw [needSt_word ex] at q qe
    obtain ⟨p, xs, m, rfl, st, mm, at_⟩ := word_dq (hd.stay (Sty.same s1)) ex
    have hm : 2 ≤ m := by
      simp only [STMSF, List.mem_cons, Prod.mk.injEq, List.not_mem_nil, or_false] at mm
      omega
    obtain ⟨v1, a1, d1⟩ := at_ 1 hm
    refine ⟨_, rfl, rfl, _, rfl, ite2 (fun c => ?_) (fun c => ?_)⟩
    · have c : x = "say" := by injection of_decide_eq_true c
      rw [if_pos c] at q qe
      refine ⟨_, rfl, p, xs, _, _, rfl, rfl, st, a1, v1, _, _, rfl, d1, fun e H2 s2 => ?_, fun e H2 s2 => qe (by rw [if_neg (by rw [e]; decide)]) _ (s1.trans s2)⟩
      exact ⟨_, rfl, q _ (if_pos e) _ (s1.trans s2)⟩
    · have c : ¬ x = "say" := fun z => c (decide_eq_true (by rw [z]))
      rw [if_neg c] at q qe
      have hm : 3 ≤ m := by
        simp only [STMSF, List.mem_cons, Prod.mk.injEq, List.not_mem_nil, or_false] at mm
        rcases mm with z | z | z
        · omega
        · exact absurd z.1 c
        · omega
      obtain ⟨v2, a2, d2⟩ := at_ 2 hm
      refine ⟨_, rfl, p, xs, _, _, rfl, rfl, st, a1, v1, _, _, rfl, d1, fun e H2 s2 => ?_, fun e H2 s2 => qe (if_neg fun z => by rw [e] at z; exact absurd z.1 (by decide)) _ (s1.trans s2)⟩
      have st := SqT.keeps st (TupsStay.same s2)
      refine ⟨_, rfl, p, xs, _, _, rfl, rfl, st, a2, v2, _, _, rfl, d2.stay (Sty.same s2), fun e2 H3 s3 => ?_, fun e2 H3 s3 => qe (if_neg fun z => by rw [e2] at z; exact absurd z.2 (by decide)) _ ((s1.trans s2).trans s3)⟩
      rw [if_pos ⟨e, e2⟩] at q qe
      have st := SqT.keeps st (TupsStay.same s3)
      have s13 := (s1.trans s2).trans s3
      refine ⟨_, rfl, rfl, _, rfl, ite2 (fun c3 => ?_) (fun c3 => ?_)⟩
      · have c3 : x = "set" := by injection of_decide_eq_true c3
        rw [if_pos c3] at q
        exact ⟨_, rfl, q _ rfl _ s13⟩
      · have c3 : ¬ x = "set" := fun z => c3 (decide_eq_true (by rw [z]))
        rw [if_neg c3] at q qe
        have hm : 4 ≤ m := by
          simp only [STMSF, List.mem_cons, Prod.mk.injEq, List.not_mem_nil, or_false] at mm
          rcases mm with z | z | z
          · exact absurd z.1 c3
          · exact absurd z.1 c
          · omega
        obtain ⟨v3, a3, d3⟩ := at_ 3 hm
        refine ⟨_, rfl, rfl, _, rfl, ite2 (fun c4 => ?_) (fun c4 => ?_)⟩
        · have e4 : V.int ((l : Nat) : Int) = V.int 0 := of_decide_eq_true c4
          have e4 : ((l : Nat) : Int) = 0 := by injection e4
          have e4 : l = 0 := by omega
          subst e4
          exact ⟨_, rfl, by decide +kernel, .inr ⟨3, rfl, by decide +kernel, _, rfl, by decide +kernel, _, rfl, by decide +kernel, qe rfl _ s13⟩⟩
        · have l1 : 1 ≤ l := by
            by_cases z : l = 0
            · subst z
              exact absurd rfl c4
            · omega
          obtain ⟨l, rfl⟩ : ∃ j, l = j + 1 := ⟨l - 1, by omega⟩
          refine ⟨_, rfl, p, xs, _, _, rfl, rfl, st, a3, _, rfl, _, rfl, _, 1, rfl, rfl, l1, v3, _, _, left, congrArg (fun i => [v3, V.int (left : Nat), V.int i]) (by omega), d3.stay (Sty.same (s2.trans s3)), fun m e5 H4 s4 => q m e5 _ (s13.trans s4), fun e5 H4 s4 => qe e5 _ (s13.trans s4)⟩
end
section
variable {P : Program} {w : World} {K : PySem.W.Frag} {mg : Str → Option Value} {base : Heap} {C : Addr}
theorem needRow_none {l left : Nat} {d : PyData} (e : wordOf ROWSF d = none) : needRow l left d = none := by
  rw [needRow_eq]
  show (match wordOf ROWSF d with | none => none | some _ => _) = _
  rw [e]
theorem needRow_tup {l left : Nat} {d : PyData} {x : Str} {ps : List PyData} (e : wordOf ROWSF d = some x) (e2 : atD 1 d = .tuple ps) : needRow l left d = needSts (innerF l) left ps := by
  rw [needRow_eq]
  show (match wordOf ROWSF d with | none => none | some _ => match atD 1 d with | .tuple parts => needSts (innerF l) left parts | _ => none) = _
  rw [e, e2]
theorem needRow_not {l left : Nat} {d : PyData} (e2 : ¬ kindD (atD 1 d) = "tuple") : needRow l left d = none := by
  rw [needRow_eq]
  show (match wordOf ROWSF d with | none => none | some _ => match atD 1 d with | .tuple parts => needSts (innerF l) left parts | _ => none) = _
  cases wordOf ROWSF d with
  | none => rfl
  | some _ => 
    cases h : atD 1 d with
    | tuple ps => rw [h] at e2; exact absurd rfl e2
    | _ => rfl
theorem ok_need_row {Lp B D N U : Addr} (X : ExTxt K mg Lp B D N U) {f f0 : Addr} {fd fd0 : FuncData} (T : Txt K mg C) (F : DefAt K mg "_need_row" "_need_row" s_need_row ["row", "statements", "laps"] f fd)
    (D_need_statement : DefAt K mg "_need_statement" "_need_statement" s_need_statement ["statement", "statements", "laps"] f0 fd0) {l k : Nat} (hk : 1 ≤ k) (G_need_statement : FnOk P w K mg base (L2.CX P w) k f0 fd0 ["statement", "statements", "laps"] (spNeedSt K B l)) :
    FnOk P w K mg base (L2.CX P w) (k + 1) f fd ["row", "statements", "laps"] (spNeedRow K B l) := by
  obtain ⟨u, gM, rM⟩ := T.c_MOST_STATEMENTS
  obtain ⟨ea, gE, fE⟩ := T.c_ROWS
  obtain ⟨f1, fd1, D_word_of⟩ := T.d_word_of
  have G_word_of : FnOk P w K mg base (L2.CX P w) 1 f1 fd1 ["thing", "forms"] (spWord K B) := ok_word_of X T D_word_of
  refine F.F.okX sc_need_row (fun vs H Q E h => ?_) (fun cdv A outer z H vs Q E hr h => ?_)
  · obtain ⟨v, N, d, left, rfl, _⟩ := h
    rfl
  · obtain ⟨v, N, d, left, rfl, hd, q, qe⟩ := h
    refine ⟨_, (pss_cons (ps_expr (pe_callS G_word_of (hr.mono (by omega)) (by rfl) D_word_of.g D_word_of.F.kp D_word_of.b (fun σ => passAt (takes_of rfl rfl rfl rfl) σ) (pa_cons (pv 0) (pa_cons (pe_glob (v := .ref ea) rfl gE rfl) pa_nil))))
      (pss_cons (ps_set (i := 3) sc_need_row.nd rfl (.inl rfl) (pe_ix ix_tup (pv 0) pe_int (fun _ _ => rfl)))
      (pss_cons (ps_if (pt_cmpR op_neTy (pe_callTy call_type1 (by rfl) T.m_type (by decide +kernel) (pa_cons (pv 3) pa_nil)) (pe_bltn (v := .ty "tuple") (by rfl) T.m_tuple (by decide +kernel) rfl) (nomark _)) (pss_one (ps_raise rfl (takes_of rfl rfl rfl rfl) (pmk_own PySem.F.excBase_ValueError X.xB X.gB X.kB (raises_own X.bB X.tB) rfl))) pss_nil)
      (pss_cons (ps_set (i := 4) sc_need_row.nd rfl (.inl rfl) (pv 1))
      (pss_cons (ps_for (passes_of rfl) rfl (pi_tup (pv 3)) (pg_name (i := 5) sc_need_row.nd rfl (.inl rfl)) (pss_cons (ps_if (pt_cmpR op_eq (pv 4) pe_int (nomark _)) (pss_one (ps_raise rfl (takes_of rfl rfl rfl rfl) (SkE.pmk_own1 PySem.F.excBase_ValueError X.xB X.gB X.kB (raises_own X.bB X.tB) rfl (pe_joined (.cons pe_str (.cons (pe_fmt (pe_glob (v := .int 40) rfl gM rM)) (.cons pe_str .nil))))))) pss_nil) (pss_one (ps_set (i := 4) sc_need_row.nd rfl (.inl rfl) (pe_callS G_need_statement (hr.mono (by omega)) (by rfl) D_need_statement.g D_need_statement.F.kp D_need_statement.b (fun σ => passAt (takes_of rfl rfl rfl rfl) σ) (pa_cons (pv 5) (pa_cons (pe_op op_sub (pv 4) pe_int) (pa_cons (pv 2) pa_nil))))))))
      (pss_one (ps_ret (pv 4)))))))), ?_⟩
    refine ⟨_, rfl, v, ea, N, d, ROWSF, rfl, hd, fE, rows_ok, fun x ex H1 s1 => ?_, fun ex H1 s1 => qe (needRow_none ex) H1 s1⟩
    obtain ⟨p, xs, m, rfl, st, mm, at_⟩ := word_dq (hd.stay (Sty.same s1)) ex
    have hm : 2 ≤ m := by
      simp only [ROWSF, List.mem_cons, Prod.mk.injEq, List.not_mem_nil, or_false] at mm
      omega
    obtain ⟨v1, a1, d1⟩ := at_ 1 hm
    refine ⟨_, rfl, p, xs, _, _, rfl, rfl, st, a1, _, rfl, v1, _, rfl, d1.ty, _, _, rfl, rfl, kindD_ok _, by simp [kindT], _, rfl, ite2 (fun c => qe (needRow_not fun z => by rw [decide_eq_true z] at c; exact absurd c (by decide)) _ s1) (fun c => ?_)⟩
    obtain ⟨pt, ys, ds, ed, rfl, st1, ad⟩ := d1.kTup (by cases h : decide (kindD (atD 1 d) = "tuple") with | true => exact of_decide_eq_true h | false => rw [h] at c; exact absurd rfl c)
    rw [needRow_tup ex ed] at q qe
    have len := ad.len
    refine ⟨_, rfl, _, rfl, pt, rfl, ⟨_, st1⟩, for_tup (K := K) (a := pt) (xs := ys) (fun i σ H2 => ∃ (v5 : Option V) (lf : Nat), σ = [some (.ref p), some (.int (left : Nat)), some (.int (l : Nat)), some (.ref pt), some (.int (lf : Nat)), v5] ∧ Same H1 H2 ∧ needSts (innerF l) lf (ds.drop i) = needSts (innerF l) left ds)
      ⟨none, left, rfl, Same.refl _, rfl⟩ (fun i σ H2 _ ⟨_, _, _, u2, _⟩ => SqT.keeps st1 (TupsStay.same u2)) (fun i y σ H2 hy h2 => ?_) (fun σ H2 h2 => ?_)⟩
    · obtain ⟨v5, lf, rfl, u2, eq2⟩ := h2
      have hi : i < ds.length := by
        rw [← len]
        exact (List.getElem?_eq_some_iff.mp hy).1
      obtain ⟨y', hy', dy⟩ := ad.at_ hi
      obtain rfl : y = y' := Option.some.inj (hy.symm.trans hy')
      rw [List.drop_eq_getElem_cons hi] at eq2
      have ey : ds.getD i .none = ds[i] := by rw [List.getD_eq_getElem?_getD, List.getElem?_eq_getElem hi]; rfl
      rw [ey] at dy
      refine ⟨_, rfl, rfl, _, rfl, ite2 (fun c => ?_) (fun c => ?_)⟩
      · have e4 : V.int ((lf : Nat) : Int) = V.int 0 := of_decide_eq_true c
        have e4 : ((lf : Nat) : Int) = 0 := by injection e4
        have e4 : lf = 0 := by omega
        subst e4
        exact ⟨_, rfl, by decide +kernel, .inr ⟨40, rfl, by decide +kernel, _, rfl, by decide +kernel, _, rfl, by decide +kernel, qe eq2.symm _ (s1.trans u2)⟩⟩
      · obtain ⟨lf, rfl⟩ : ∃ j, lf = j + 1 := by
          cases lf with
          | zero => exact absurd rfl c
          | succ j => exact ⟨j, rfl⟩
        have eq3 : (match needSt (innerF l) lf ds[i] with | none => none | some l' => needSts (innerF l) l' (ds.drop (i + 1))) = needSts (innerF l) left ds := eq2
        refine ⟨_, rfl, _, rfl, _, 1, rfl, rfl, _, rfl, y, _, _, lf, congrArg (fun j => [y, V.int j, V.int (l : Nat)]) (by omega), dy.stay (Sty.same u2), fun m e5 H4 s4 => ?_, fun e5 H4 s4 => ?_⟩
        · rw [e5] at eq3
          exact ⟨_, _, rfl, u2.trans s4, eq3⟩
        · rw [e5] at eq3
          exact qe eq3.symm _ ((s1.trans u2).trans s4)
    · obtain ⟨v5, lf, rfl, u2, eq2⟩ := h2
      rw [len, List.drop_length] at eq2
      exact ⟨_, rfl, q _ eq2.symm _ (s1.trans u2)⟩
theorem needs_all {Lp B D N U : Addr} (X : ExTxt K mg Lp B D N U) {f f0 : Addr} {fd fd0 : FuncData} (T : Txt K mg C) (D_need_row : DefAt K mg "_need_row" "_need_row" s_need_row ["row", "statements", "laps"] f fd)
    (D_need_statement : DefAt K mg "_need_statement" "_need_statement" s_need_statement ["statement", "statements", "laps"] f0 fd0) : ∀ l, FnOk P w K mg base (L2.CX P w) (2 * l + 9) f fd ["row", "statements", "laps"] (spNeedRow K B l)
  | 0 => ok_need_row X T D_need_row D_need_statement (by omega) (ok_need_statement X T D_need_statement D_need_row (k := 7) (by omega) ⟨fun _ _ _ _ h => absurd h.1 (by decide), fun _ _ _ _ _ _ _ _ _ _ _ _ _ h => absurd h.1 (by decide)⟩)
  | l + 1 => ok_need_row X T D_need_row D_need_statement (by omega) (ok_need_statement X T D_need_statement D_need_row (l := l + 1) (k := 2 * l + 9) (by omega) (fn_drop (needs_all X T D_need_row D_need_statement l)))
def spProgram (K : PySem.W.Frag) (B : Addr) : Sp := fun vs H Q E => ∃ (v : V) (N : List Addr) (d : PyData), vs = [v] ∧ Dq K N H v d ∧ (isProg d = true → ∀ H', Same H H' → Q .non H') ∧ (isProg d = false → ∀ H', Same H H' → E (.ref B) none H')
theorem ok_need_program {Lp B D N U : Addr} (X : ExTxt K mg Lp B D N U) {f : Addr} {fd : FuncData} (T : Txt K mg C) (F : DefAt K mg "need_program" "need_program" s_need_program ["program"] f fd) : FnOk P w K mg base (L2.CX P w) 16 f fd ["program"] (spProgram K B) := by
  obtain ⟨u, gM, rM⟩ := T.c_MOST_STATEMENTS
  obtain ⟨u2, gL, rL⟩ := T.c_MOST_LAPS
  obtain ⟨f1, fd1, D_need_row⟩ := T.d_need_row
  obtain ⟨f2, fd2, D_need_statement⟩ := T.d_need_statement
  have G_need_row : FnOk P w K mg base (L2.CX P w) 15 f1 fd1 ["row", "statements", "laps"] (spNeedRow K B 3) := needs_all X T D_need_row D_need_statement 3
  refine F.F.okX sc_need_program (fun vs H Q E h => ?_) (fun cdv A outer z H vs Q E hr h => ?_)
  · obtain ⟨v, N, d, rfl, _⟩ := h
    rfl
  · obtain ⟨v, N, d, rfl, hd, q, qe⟩ := h
    refine ⟨_, (pss_one (ps_expr (pe_callS G_need_row (hr.mono (by decide)) (by rfl) D_need_row.g D_need_row.F.kp D_need_row.b (fun σ => passAt (takes_of rfl rfl rfl rfl) σ) (pa_cons (pv 0) (pa_cons (pe_glob (v := .int 40) rfl gM rM) (pa_cons (pe_glob (v := .int 3) rfl gL rL) pa_nil)))))), ?_⟩
    exact ⟨_, rfl, v, N, d, 40, rfl, hd, fun m e H1 s1 => q (by show (needRow 3 40 d).isSome = true; rw [e]; rfl) _ s1, fun e H1 s1 => qe (by show (needRow 3 40 d).isSome = false; rw [e]; rfl) _ s1⟩
end
/-! ### a list comprehension over the keys of a plain dict -/
theorem lc_keysP {d : Addr} {o : Obj} {kvs : List (L2.Key × V)} {g : TG} {tt : TT} {te : TE} {vs : List Nat} {σ : L2.St} {H1 : Hp} {D : Addr} {Qd : Hp → Prop} (Pv : Nat → Hp → Prop) (h0 : Pv 0 (upd H1 D (.lst []))) (hl : ∀ i H, i ≤ kvs.length → Pv i H → H d = some (.frz o (.dK kvs)))
    (hs : ∀ i k v H, kvs[i]? = some (k, v) → Pv i H → g (kV k) (wipe σ vs) H fun σ2 H2 => wipe σ2 vs = wipe σ vs ∧ tt σ2 H2 fun b H3 =>
      if b = true then te σ2 H3 fun y H4 => ∃ acc, H4 D = some (.lst acc) ∧ acc.length < sizeLine ∧ Pv (i + 1) (upd H4 D (.lst (acc ++ [y]))) else Pv (i + 1) H3) (hd : ∀ H, Pv kvs.length H → Qd H) :
    ∃ W : Nat → Nat → Hp → Prop, (∃ m, W 0 m (upd H1 D (.lst []))) ∧ ∀ i m H, W i m H →
      ((Itk d o kvs).stop i H ∧ Qd H) ∨ ((Itk d o kvs).go i H ∧ ∃ Nx : Hp → Prop, (∀ H', Nx H' → ∃ m', m' < m ∧ W (i + 1) m' H') ∧ ∀ x H', (Itk d o kvs).yld i H x H' → g x (wipe σ vs) H' fun σ2 H2 => wipe σ2 vs = wipe σ vs ∧ tt σ2 H2 fun b H3 =>
        if b = true then te σ2 H3 fun y H4 => ∃ acc, H4 D = some (.lst acc) ∧ acc.length < sizeLine ∧ Nx (upd H4 D (.lst (acc ++ [y]))) else Nx H3) := by
  refine ⟨fun i m H => m = kvs.length - i ∧ i ≤ kvs.length ∧ Pv i H, ⟨kvs.length, by simp, Nat.zero_le _, h0⟩, ?_⟩
  rintro i m H ⟨rfl, hi, p⟩
  have F := hl i H hi p
  by_cases lt : i < kvs.length
  · refine .inr ⟨⟨F, lt⟩, Pv (i + 1), fun H' p' => ⟨kvs.length - (i + 1), by omega, rfl, lt, p'⟩, fun x H' ⟨eH, k, v, hL, ex⟩ => ?_⟩
    subst ex
    subst eH
    exact hs i k v _ hL p
  · have e : i = kvs.length := by omega
    subst e
    exact .inl ⟨⟨F, Nat.le_refl _⟩, hd H p⟩
theorem ix_tupK {X : Cx} {K : PySem.W.Frag} (e : X.K = K) : IxR X (rIxT K) := by
  subst e
  exact ix_tup
def rLenQ (K : PySem.W.Frag) : List V → Hp → VK → Prop := fun xs H Q => ∃ p ys, xs = [.ref p] ∧ (SqL K H p ys ∨ SqT K H p ys) ∧ Q (.int ys.length) H
theorem call_lenK {X : Cx} {K : PySem.W.Frag} (e : X.K = K) : CallR X (.builtin "len") (rLenQ K) := by
  subst e
  exact call_len_seq
def rCatU (K : PySem.W.Frag) : R2 := fun x y H Q => ∃ a b xs ys, x = .ref a ∧ y = .ref b ∧ SqT K H a xs ∧ SqT K H b ys ∧ xs.length + ys.length ≤ sizeLine ∧ ∀ p H', SqT K H' p (xs ++ ys) → Same H H' → Q (.ref p) H'
theorem op_catU {X : Cx} {K : PySem.W.Frag} (e : X.K = K) : OpR X (binaryOp .Add) (rCatU K) := by
  subst e
  intro pins s σ H x y v u Q I rx ry h
  obtain ⟨a, b, xs, ys, rfl, rfl, ha, hb, hl, q⟩ := h
  refine op_catA pins s σ H _ _ v u Q I rx ry ⟨a, b, xs, ys, rfl, rfl, ha, hb, hl, fun e => ?_, fun _ e => ?_, fun _ _ p np => ?_⟩
  · subst e
    exact q b H hb fun _ _ e => e
  · subst e
    exact q a H (by rw [List.append_nil]; exact ha) fun _ _ e => e
  · exact q p _ (SqT.of upd_same) (same_upd np)
def rSlU (K : PySem.W.Frag) : V → Option Int → Option Int → Hp → VK → Prop := fun x lo hi H Q => ∃ a xs, x = .ref a ∧ SqT K H a xs ∧ ∀ p H', SqT K H' p (cutV xs lo hi) → Same H H' → Q (.ref p) H'
theorem sl_tupU {X : Cx} {K : PySem.W.Frag} (e : X.K = K) : SlR X (rSlU K) := by
  subst e
  intro pins s σ H x v vl vu lo hi sl Q I rx hs pl pu h
  obtain ⟨a, xs, rfl, hx, q⟩ := h
  refine sl_tupA pins s σ H _ v vl vu lo hi sl Q I rx hs pl pu ⟨a, xs, rfl, hx, fun w => ?_, fun _ p np => q p _ (SqT.of upd_same) (same_upd np)⟩
  refine q a H ?_ fun _ _ e => e
  unfold cutV
  rw [w.1, w.2, List.drop_zero, Nat.sub_zero, List.take_length]
  exact hx
theorem cut_tail (v : V) (r : List V) : cutV (v :: r) (some 1) none = r := by
  have e : HT.sIx (v :: r).length 0 (some 1) = 1 := by
    have := HT.sIx_nat (v :: r).length 0 1
    rw [List.length_cons] at this ⊢
    rw [show (1 : Int) = ((1 : Nat) : Int) from rfl, this]
    omega
  unfold cutV
  rw [e, HT.sIx_none]
  show r.take (r.length + 1 - 1) = r
  rw [Nat.add_sub_cancel, List.take_length]
/-! ### drawn programs as data -/
def dE : Ex → PyData
  | .num n => .tuple [.str "num", .int n]
  | .name x => .tuple [.str "name", .str x]
  | .add a b => .tuple [.str "add", dE a, dE b]
  | .mul a b => .tuple [.str "times", dE a, dE b]
def dR : Rw → List PyData
  | .nil => []
  | .set x e r => .tuple [.str "set", .str x, dE e] :: dR r
  | .say e r => .tuple [.str "say", dE e] :: dR r
  | .lap x m b r => .tuple [.str "lap", .str x, dE m, .tuple [.str "row", .tuple (dR b)]] :: dR r
def dP (r : Rw) : PyData := .tuple [.str "row", .tuple (dR r)]
theorem NamesOk.txt {ns : List Str} (no : NamesOk ns) {x : Str} (h : x ∈ ns) : PyData.strOk x = true ∧ x.length ≤ 1000 := ⟨texts_names no x h, by have := (no.ok x h).2.1; omega⟩
theorem NamesOk.name {ns : List Str} (no : NamesOk ns) {x : Str} (h : x ∈ ns) : nameOk (.str x) = true := by
  obtain ⟨a, b, c⟩ := no.ok x h
  show (decide (1 ≤ x.length) && (decide (x.length ≤ 8) && !x.cps.toList.any badC)) = true
  rw [decide_eq_true a, decide_eq_true b]
  have e : x.cps.toList.any badC = false := by
    rw [List.any_eq_false]
    intro q hq
    have z := c q hq
    unfold letterC at z
    show ¬ (decide (q < 97) || decide (122 < q)) = true
    rw [decide_eq_false (by omega : ¬ q < 97), decide_eq_false (by omega : ¬ 122 < q)]
    decide
  rw [e]
  rfl
theorem word_of {fs : List (Str × Nat)} {x : Str} {r : List PyData} (n : Nat) (e : r.length + 1 = n) (h : (x, n) ∈ fs) : wordOf fs (.tuple (.str x :: r)) = some x := if_pos (by rw [e]; exact h)
theorem word_say {a : PyData} : wordOf STMSF (.tuple [.str "say", a]) = some ("say" : Str) := word_of 2 rfl (by decide)
theorem word_set {a b : PyData} : wordOf STMSF (.tuple [.str "set", a, b]) = some ("set" : Str) := word_of 3 rfl (by decide)
theorem word_lap {a b c : PyData} : wordOf STMSF (.tuple [.str "lap", a, b, c]) = some ("lap" : Str) := word_of 4 rfl (by decide)
theorem word_row {a : PyData} : wordOf ROWSF (.tuple [.str "row", a]) = some ("row" : Str) := word_of 2 rfl (by decide)
theorem word_num {a : PyData} : wordOf EXPRF (.tuple [.str "num", a]) = some ("num" : Str) := word_of 2 rfl (by decide)
theorem word_name {a : PyData} : wordOf EXPRF (.tuple [.str "name", a]) = some ("name" : Str) := word_of 2 rfl (by decide)
theorem word_add {a b : PyData} : wordOf EXPRF (.tuple [.str "add", a, b]) = some ("add" : Str) := word_of 3 rfl (by decide)
theorem word_times {a b : PyData} : wordOf EXPRF (.tuple [.str "times", a, b]) = some ("times" : Str) := word_of 3 rfl (by decide)
theorem exOk_num {n : Nat} {a : PyData} : exOk (n + 1) (.tuple [.str "num", a]) = numOk a := by rw [exOk_word word_num, if_pos rfl]; rfl
theorem exOk_name {n : Nat} {a : PyData} : exOk (n + 1) (.tuple [.str "name", a]) = nameOk a := by rw [exOk_word word_name, if_neg (by decide), if_pos rfl]; rfl
theorem exOk_add {n : Nat} {a b : PyData} : exOk (n + 1) (.tuple [.str "add", a, b]) = (exOk n a && exOk n b) := by rw [exOk_word word_add, if_neg (by decide), if_neg (by decide)]; rfl
theorem exOk_times {n : Nat} {a b : PyData} : exOk (n + 1) (.tuple [.str "times", a, b]) = (exOk n a && exOk n b) := by rw [exOk_word word_times, if_neg (by decide), if_neg (by decide)]; rfl
theorem acc_ex {ns : List Str} (no : NamesOk ns) : ∀ {t : Ex} {d k : Nat}, ExOk ns d t → d + 1 ≤ k → exOk k (dE t) = true
  | .num n, d, k + 1, h, _ => by
    have z := h.of_num
    show exOk (k + 1) (.tuple [.str "num", .int n]) = true
    rw [exOk_num]
    show (decide (0 ≤ n) && decide (n ≤ 999)) = true
    rw [decide_eq_true (by omega : 0 ≤ n), decide_eq_true (by omega : n ≤ 999)]
    rfl
  | .name x, d, k + 1, h, _ => by
    show exOk (k + 1) (.tuple [.str "name", .str x]) = true
    rw [exOk_name]
    exact no.name h.of_name
  | .add a b, d + 1, k + 1, h, l => by
    show exOk (k + 1) (.tuple [.str "add", dE a, dE b]) = true
    rw [exOk_add, acc_ex no h.1 (by omega : d + 1 ≤ k), acc_ex no h.2 (by omega : d + 1 ≤ k)]
    rfl
  | .mul a b, d + 1, k + 1, h, l => by
    show exOk (k + 1) (.tuple [.str "times", dE a, dE b]) = true
    rw [exOk_times, acc_ex no h.1 (by omega : d + 1 ≤ k), acc_ex no h.2 (by omega : d + 1 ≤ k)]
    rfl
  | .add _ _, 0, _, h, _ => h.elim
  | .mul _ _, 0, _, h, _ => h.elim
theorem acc_exS {ns : List Str} (no : NamesOk ns) {e : Ex} (h : ExS ns e) : exOk 5 (dE e) = true := by
  rcases h with z | ⟨y, t, rfl, hy, z⟩
  · exact acc_ex no z (by decide)
  · exact acc_ex no (d := 3) ⟨ExOk.name hy _, z⟩ (by decide)
theorem needSt_say {inner : Nat → PyData → Option Nat} {left : Nat} {a : PyData} : needSt inner left (.tuple [.str "say", a]) = if exOk 5 a = true then some left else none := by rw [needSt_word word_say, if_pos rfl]; rfl
theorem needSt_set {inner : Nat → PyData → Option Nat} {left : Nat} {a b : PyData} : needSt inner left (.tuple [.str "set", a, b]) = if nameOk a = true ∧ exOk 5 b = true then some left else none := by rw [needSt_word word_set, if_neg (by decide), if_pos rfl]; rfl
theorem needSt_lap {inner : Nat → PyData → Option Nat} {left : Nat} {a b c : PyData} : needSt inner left (.tuple [.str "lap", a, b, c]) = if nameOk a = true ∧ exOk 5 b = true then inner left c else none := by
  rw [needSt_word word_lap, if_neg (show ¬ ("lap" : Str) = "say" by decide), if_neg (show ¬ ("lap" : Str) = "set" by decide)]
  rfl
theorem needRow_row {l left : Nat} {ps : List PyData} : needRow l left (.tuple [.str "row", .tuple ps]) = needSts (innerF l) left ps := needRow_tup word_row rfl
theorem needSts_cons {inner : Nat → PyData → Option Nat} {left m : Nat} {s : PyData} {r : List PyData} (h : needSt inner left s = some m) : needSts inner (left + 1) (s :: r) = needSts inner m r := by
  show (match needSt inner left s with | none => none | some l => needSts inner l r) = _
  rw [h]
theorem acc_sts {ns : List Str} (no : NamesOk ns) : ∀ {r : Rw} {l left : Nat}, RwOk ns r l → RwT ns r → cntR r ≤ left → needSts (innerF l) left (dR r) = some (left - cntR r)
  | .nil, l, left, _, _, _ => by
    show needSts (innerF l) left [] = _
    cases left <;> rfl
  | .set x e r, l, left + 1, ⟨o1, o2, o3⟩, ⟨t1, t2, t3⟩, h => by
    have h : cntR r + 1 ≤ left + 1 := h
    show needSts (innerF l) (left + 1) (.tuple [.str "set", .str x, dE e] :: dR r) = some (left + 1 - (cntR r + 1))
    rw [needSts_cons (by rw [needSt_set, if_pos ⟨no.name o1, acc_exS no t2⟩]), acc_sts no o3 t3 (by omega)]
    congr 1
    omega
  | .say e r, l, left + 1, ⟨o1, o2⟩, ⟨t1, t2⟩, h => by
    have h : cntR r + 1 ≤ left + 1 := h
    show needSts (innerF l) (left + 1) (.tuple [.str "say", dE e] :: dR r) = some (left + 1 - (cntR r + 1))
    rw [needSts_cons (by rw [needSt_say, if_pos (acc_ex no t1 (by decide))]), acc_sts no o2 t2 (by omega)]
    congr 1
    omega
  | .lap x m b r, 0, left + 1, ⟨o1, o2, o3, _⟩, _, h => absurd o3 (by decide)
  | .lap x m b r, l + 1, left + 1, ⟨o1, o2, o3, o4, o5, o6⟩, ⟨t1, t2, t3, t4⟩, h => by
    have h : cntR b + cntR r + 1 ≤ left + 1 := h
    show needSts (innerF (l + 1)) (left + 1) (.tuple [.str "lap", .str x, dE m, .tuple [.str "row", .tuple (dR b)]] :: dR r) = some (left + 1 - (cntR b + cntR r + 1))
    have e : innerF (l + 1) left (.tuple [.str "row", .tuple (dR b)]) = some (left - cntR b) := by
      show needRow l left _ = _
      rw [needRow_row]
      exact acc_sts no o5 t3 (by omega)
    rw [needSts_cons (by rw [needSt_lap, if_pos ⟨no.name o1, acc_ex no t2 (by decide)⟩]; exact e), acc_sts no o6 t4 (by omega)]
    congr 1
    omega
theorem acc_prog {ns : List Str} (no : NamesOk ns) {r : Rw} (o : RwOk ns r 3) (t : RwT ns r) (c : cntR r ≤ 40) : isProg (dP r) = true := by
  show (needRow 3 40 (.tuple [.str "row", .tuple (dR r)])).isSome = true
  rw [needRow_row, acc_sts no o t c]
  rfl
theorem wordOk {x : Str} (h : x ∈ (["num", "name", "add", "times", "set", "say", "lap", "row"] : List Str)) : PyData.strOk x = true ∧ x.length ≤ 1000 := by
  revert x
  decide +kernel
theorem Dq.word {K : PySem.W.Frag} {N : List Addr} {H : Hp} {x : Str} (h : x ∈ (["num", "name", "add", "times", "set", "say", "lap", "row"] : List Str)) : Dq K N H (.str x) (.str x) := .str (wordOk h).1 (wordOk h).2
theorem ExAt.dq {K : PySem.W.Frag} {N : List Addr} {H : Hp} {ns : List Str} (no : NamesOk ns) : ∀ {t : Ex} {d : Nat} {p : Addr}, ExOk ns d t → ExAt K H p t → Dq K N H (.ref p) (dE t)
  | .num n, _, _, _, a => .tup a (.cons (.word (by decide)) (.cons (.int _) .nil))
  | .name x, _, _, h, a => .tup a (.cons (.word (by decide)) (.cons (.str (no.txt h.of_name).1 (no.txt h.of_name).2) .nil))
  | .add s t, d + 1, _, h, ⟨q, r, a, b, c⟩ => .tup a (.cons (.word (by decide)) (.cons (ExAt.dq no h.1 b) (.cons (ExAt.dq no h.2 c) .nil)))
  | .mul s t, d + 1, _, h, ⟨q, r, a, b, c⟩ => .tup a (.cons (.word (by decide)) (.cons (ExAt.dq no h.1 b) (.cons (ExAt.dq no h.2 c) .nil)))
  | .add _ _, 0, _, h, _ => h.elim
  | .mul _ _, 0, _, h, _ => h.elim
theorem StsAt.dq {K : PySem.W.Frag} {N : List Addr} {H : Hp} {ns : List Str} (no : NamesOk ns) : ∀ {r : Rw} {d : Nat} {qs : List Addr}, RwOk ns r d → StsAt K H r qs → DqAll K N H (qs.map V.ref) (dR r)
  | .nil, _, _, _, h => by rw [h]; exact .nil
  | .set x e r, _, _, ⟨o1, o2, o3⟩, ⟨q, t, pe, eq, h, a, b⟩ => by
    rw [eq]
    exact .cons (.tup h (.cons (.word (by decide)) (.cons (.str (no.txt o1).1 (no.txt o1).2) (.cons (a.dq no o2) .nil)))) (StsAt.dq no o3 b)
  | .say e r, _, _, ⟨o1, o2⟩, ⟨q, t, pe, eq, h, a, b⟩ => by
    rw [eq]
    exact .cons (.tup h (.cons (.word (by decide)) (.cons (a.dq no o1) .nil))) (StsAt.dq no o2 b)
  | .lap x m b r, _, _, ⟨o1, o2, o3, o4, o5, o6⟩, ⟨q, t, pm, pb, pt, qb, eq, h, a, h1, h2, sb, sr⟩ => by
    rw [eq]
    exact .cons (.tup h (.cons (.word (by decide)) (.cons (.str (no.txt o1).1 (no.txt o1).2) (.cons (a.dq no o2) (.cons (.tup h1 (.cons (.word (by decide)) (.cons (.tup h2 (StsAt.dq no o5 sb)) .nil))) .nil))))) (StsAt.dq no o6 sr)
theorem RwAt.dq {K : PySem.W.Frag} {N : List Addr} {H : Hp} {ns : List Str} (no : NamesOk ns) {r : Rw} {d : Nat} {p : Addr} (o : RwOk ns r d) (h : RwAt K H p r) : Dq K N H (.ref p) (dP r) := by
  obtain ⟨pt, qs, a, b, c⟩ := h
  exact .tup a (.cons (.word (by decide)) (.cons (.tup b (c.dq no o)) .nil))
/-! ### what is refused -/
def BadSt (s : PyData) : Prop := ∀ l left, l ≤ 3 → needSt (innerF l) left s = none
def BadEx (e : PyData) : Prop := exOk 5 e = false
theorem needSts_bad {l : Nat} {s : PyData} {r : List PyData} (hl : l ≤ 3) (b : BadSt s) : ∀ (ps : List PyData) (left : Nat), needSts (innerF l) left (ps ++ s :: r) = none
  | [], 0 => rfl
  | [], left + 1 => by
    show (match needSt (innerF l) left s with | none => none | some l' => _) = none
    rw [b l left hl]
  | p :: ps, 0 => rfl
  | p :: ps, left + 1 => by
    show (match needSt (innerF l) left p with | none => none | some l' => needSts (innerF l) l' (ps ++ s :: r)) = none
    cases needSt (innerF l) left p with
    | none => rfl
    | some m => exact needSts_bad hl b ps m
theorem bad_prog {s : PyData} {ps r : List PyData} (b : BadSt s) : isProg (.tuple [.str "row", .tuple (ps ++ s :: r)]) = false := by
  show (needRow 3 40 _).isSome = false
  rw [needRow_row, needSts_bad (by decide) b]
  rfl
theorem bad_within {a b s : PyData} {ps : List PyData} (h : BadSt s) : BadSt (.tuple [.str "lap", a, b, .tuple [.str "row", .tuple (ps ++ [s])]]) := fun l left hl => by
  rw [needSt_lap]
  split
  · cases l with
    | zero => rfl
    | succ l =>
      show needRow l left _ = none
      rw [needRow_row]
      exact needSts_bad (by omega) h ps left
  · rfl
theorem bad_word {s : PyData} (h : wordOf STMSF s = none) : BadSt s := fun _ _ _ => needSt_none h
theorem bad_say {e : PyData} (h : BadEx e) : BadSt (.tuple [.str "say", e]) := fun _ _ _ => by rw [needSt_say, h]; rfl
theorem bad_set {x e : PyData} (h : nameOk x = false ∨ BadEx e) : BadSt (.tuple [.str "set", x, e]) := fun _ _ _ => by
  rw [needSt_set, if_neg]
  rintro ⟨a, b⟩
  rcases h with z | z
  · rw [z] at a; cases a
  · rw [show exOk 5 e = false from z] at b; cases b
theorem bad_lap {x e c : PyData} (h : nameOk x = false ∨ BadEx e ∨ ∀ l left, l ≤ 3 → innerF l left c = none) : BadSt (.tuple [.str "lap", x, e, c]) := fun l left hl => by
  rw [needSt_lap]
  split
  · rename_i q
    rcases h with z | z | z
    · rw [z] at q; cases q.1
    · rw [show exOk 5 e = false from z] at q; cases q.2
    · exact z l left hl
  · rfl
theorem inner_bad {c : PyData} (h : ∀ l left, needRow l left c = none) : ∀ l left, l ≤ 3 → innerF l left c = none
  | 0, _, _ => rfl
  | l + 1, left, _ => h l left
/-! ### literals -/
section
variable {K : PySem.W.Frag} {N : List Addr} {σ : L2.St} {H0 : Hp}
def LitT (K : PySem.W.Frag) (N : List Addr) (σ : L2.St) (H0 : Hp) (t : L2.TE) (d : PyData) : Prop := ∀ (H : Hp) (Q : VK), Same H0 H → (∀ v H', Same H H' → Dq K N H' v d → Q v H') → t σ H Q
def LitA (K : PySem.W.Frag) (N : List Addr) (σ : L2.St) (H0 : Hp) (t : TA) (ds : List PyData) : Prop := ∀ (H : Hp) (Q : List V → Hp → Prop), Same H0 H → (∀ vs H', Same H H' → DqAll K N H' vs ds → Q vs H') → t σ H Q
theorem lit_str {x : Str} (h : PyData.strOk x = true ∧ x.length ≤ 1000) : LitT K N σ H0 (tC (.str x)) (.str x) := fun H Q _ q => q _ _ (Same.refl _) (.str h.1 h.2)
theorem lit_int (i : Int) : LitT K N σ H0 (tC (.int i)) (.int i) := fun H Q _ q => q _ _ (Same.refl _) (.int i)
theorem lit_bl (b : Bool) : LitT K N σ H0 (tC (.bl b)) (.bool b) := fun H Q _ q => q _ _ (Same.refl _) (.bl b)
theorem lit_non : LitT K N σ H0 (tC .non) .none := fun H Q _ q => q _ _ (Same.refl _) .non
theorem lit_neg (i : Int) : LitT K N σ H0 (tUn (rU fun i => .int (-i)) (tC (.int i))) (.int (-i)) := fun H Q _ q => ⟨i, rfl, q _ _ (Same.refl _) (.int _)⟩
theorem lit_var {i : Nat} {v : V} {d : PyData} (e : σ[i]? = some (some v)) (h : Dq K N H0 v d) : LitT K N σ H0 (tVar i) d := fun H Q s q => ⟨v, e, q _ _ (Same.refl _) (h.stay (Sty.same s))⟩
theorem lit_nil : LitA K N σ H0 tNil [] := fun H Q _ q => q _ _ (Same.refl _) .nil
theorem lit_cons {t : L2.TE} {r : TA} {d : PyData} {ds : List PyData} (a : LitT K N σ H0 t d) (b : LitA K N σ H0 r ds) : LitA K N σ H0 (tCons t r) (d :: ds) := fun H Q s q =>
  a H _ s fun v H1 s1 h1 => b H1 _ (s.trans s1) fun vs H2 s2 h2 => q _ _ (s1.trans s2) (.cons (h1.stay (Sty.same s2)) h2)
theorem lit_tup {t : TA} {ds : List PyData} (a : LitA K N σ H0 t ds) (l : ds.length ≤ 100 := by first | decide | exact Nat.le_of_ble_eq_true rfl) : LitT K N σ H0 (tTup t) (.tuple ds) := fun H Q s q =>
  a H _ s fun vs H1 s1 h1 => ⟨by rw [h1.len, sizeLine_eq]; omega, fun p np => by
    have u := same_upd (o := .tup vs) np
    exact q _ _ (s1.trans u) (.tup (SqT.of upd_same) (h1.stay (Sty.same u)))⟩
theorem lit_lst (hN : ∀ n ∈ N, H0 n ≠ none) {t : TA} {ds : List PyData} (a : LitA K N σ H0 t ds) (l : ds.length ≤ 100 := by first | decide | exact Nat.le_of_ble_eq_true rfl) : LitT K N σ H0 (tLst t) (.list ds) := fun H Q s q =>
  a H _ s fun vs H1 s1 h1 => ⟨by rw [h1.len, sizeLine_eq]; omega, fun p np => by
    have u := same_upd (o := .lst vs) np
    refine q _ _ (s1.trans u) (.lst upd_same (fun m => ?_) (h1.stay (Sty.same u)))
    cases e : H0 p with
    | none => exact hN p m e
    | some o => rw [(s.trans s1) _ _ e] at np; cases np⟩
theorem lit_cat (hN : ∀ n ∈ N, H0 n ≠ none) {s t : L2.TE} {ds es : List PyData} (a : LitT K N σ H0 s (.list ds)) (b : LitT K N σ H0 t (.list es)) (l : ds.length + es.length ≤ 100 := by first | decide | exact Nat.le_of_ble_eq_true rfl) : LitT K N σ H0 (tOp rCat s t) (.list (ds ++ es)) := fun H Q s q =>
  a H _ s fun v H1 s1 h1 => b H1 _ (s.trans s1) fun u H2 s2 h2 => by
    cases h1 with
    | @lst _ xs1 _ e1 n1 a1 =>
      cases h2 with
      | @lst _ xs2 _ e2 n2 a2 =>
        refine ⟨_, _, _, _, rfl, rfl, s2 _ _ e1, e2, by rw [a1.len, a2.len, sizeLine_eq]; omega, fun p np => ?_⟩
        have u := same_upd (o := .lst (xs1 ++ xs2)) np
        refine q _ _ ((s1.trans s2).trans u) (.lst upd_same (fun m => ?_) (DqAll.app (a2.stay (Sty.same u)) (a1.stay (Sty.same (s2.trans u)))))
        cases e : H0 p with
        | none => exact hN p m e
        | some o => rw [((s.trans s1).trans s2) _ _ e] at np; cases np
end
theorem lit_set {K : PySem.W.Frag} {N : List Addr} {σ : L2.St} {H : Hp} {t : L2.TE} {d : PyData} {i : Nat} {u : TS} {D : Ends} (L : LitT K N σ H t d) (k : ∀ v H', Same H H' → Dq K N H' v d → u D (σ.set i (some v)) H') : tSeq (tAsg t (gName i)) u D σ H := L H _ (Same.refl _) k
theorem lit_op {K : PySem.W.Frag} {N : List Addr} {σ : L2.St} {H : Hp} {t t2 : L2.TE} {r : R2} {d : PyData} {Q : VK} (L : LitT K N σ H t d) (k : ∀ v H', Same H H' → Dq K N H' v d → t2 σ H' fun y H2 => r v y H2 Q) : tOp r t t2 σ H Q := L H _ (Same.refl _) k
theorem lit_ret {K : PySem.W.Frag} {N : List Addr} {σ : L2.St} {H : Hp} {t t2 : L2.TE} {r : R2} {d : PyData} {D : Ends} (L : LitT K N σ H t d) (k : ∀ v H', Same H H' → Dq K N H' v d → t2 σ H' fun y H2 => r v y H2 D.rt) : tRet (tOp r t t2) D σ H := L H _ (Same.refl _) k
theorem dq_pick {K : PySem.W.Frag} {N : List Addr} {H : Hp} {v : V} {ds : List PyData} (h : Dq K N H v (.list ds)) {i : Int} (h0 : 0 ≤ i) (h1 : i < (ds.length : Nat)) :
    ∃ (a : Addr) (xs : List V) (u : V), v = .ref a ∧ SqL K H a xs ∧ atI xs i = some u ∧ Dq K N H u (ds.getD i.toNat .none) ∧ ds.getD i.toNat .none ∈ ds := by
  have hi : i.toNat < ds.length := by omega
  cases h with
  | lst e n ad =>
    obtain ⟨u, eu, du⟩ := at_dq ad hi
    rw [show ((i.toNat : Nat) : Int) = i by omega] at eu
    refine ⟨_, _, u, rfl, SqL.of e, eu, du, ?_⟩
    rw [List.getD_eq_getElem?_getD, List.getElem?_eq_getElem hi]
    exact List.getElem_mem hi
theorem But.sty {h c : Addr} {M : List Addr} {H H' : Hp} {s k : Int} {cs : List Int} (B : But h c H H') (A : HAt H h c s k cs) : Sty (h :: c :: M) H H' := ⟨fun a o e n => B a o e (fun z => n (by simp [z])) (fun z => n (by simp [z])), B.tups A⟩
theorem domM {h c : Addr} {M : List Addr} {H H' : Hp} {s k : Int} {cs : List Int} (hM : ∀ n ∈ M, H n ≠ none) (B : But h c H H') (A : HAt H' h c s k cs) : ∀ n ∈ h :: c :: M, H' n ≠ none := fun n m => by
  by_cases e1 : n = h
  · rw [e1, A.h]; exact fun z => nomatch z
  · by_cases e2 : n = c
    · rw [e2, A.c]; exact fun z => nomatch z
    · have m : n ∈ M := by
        rcases List.mem_cons.mp m with z | z
        · exact absurd z e1
        · rcases List.mem_cons.mp z with z | z
          · exact absurd z e2
          · exact z
      cases e : H n with
      | none => exact absurd e (hM n m)
      | some o => rw [B n o e e1 e2]; exact fun z => nomatch z
def badEs : List PyData := [.tuple [.str "num", .int (-1)], .tuple [.str "num", .int 1000], .tuple [.str "num", .bool true], .tuple [.str "num", .str "1"], .tuple [.str "num"], .tuple [.str "num", .int 1, .int 2], .tuple [.str "name", .str ""],
  .tuple [.str "name", .str "abcdefghi"], .tuple [.str "name", .str "A"], .tuple [.str "name", .str "a1"], .tuple [.str "name", .int 5], .tuple [.str "name"],
  .tuple [.str "less", .tuple [.str "num", .int 1], .tuple [.str "num", .int 1]], .tuple [.str "add", .tuple [.str "num", .int 1]], .tuple [.str "add", .tuple [.str "num", .int 1], .tuple [.str "num", .int 1], .tuple [.str "num", .int 1]], .tuple [.str "times", .int 1, .int 2], .tuple [], .int 7, .none, .list [.str "num", .int 1]]
theorem badEs_bad : ∀ d ∈ badEs, BadEx d := by
  have : ∀ d ∈ badEs, exOk 5 d = false := by decide +kernel
  exact this
theorem lit_ix {K : PySem.W.Frag} {N : List Addr} {σ : L2.St} {H0 : Hp} {t : L2.TE} {ds : List PyData} {k : Nat} (a : LitT K N σ H0 t (.tuple ds)) (l : k < ds.length) : LitT K N σ H0 (tOp (rIxT K) t (tC (.int (k : Nat)))) (ds.getD k .none) := fun H Q s q =>
  a H _ s fun v H1 s1 h1 => by
    cases h1 with
    | tup st ad =>
      obtain ⟨u, eu, du⟩ := at_dq ad l
      exact ⟨_, _, _, u, rfl, rfl, st, eu, q _ _ s1 du⟩
mutual
theorem Dq.more {K : PySem.W.Frag} {N : List Addr} {H : Hp} {p : Addr} (np : H p = none) : ∀ {d : PyData} {v : V}, Dq K N H v d → Dq K (p :: N) H v d
  | .none, _, h => by cases h; exact .non
  | .bool _, _, h => by cases h; exact .bl _
  | .int _, _, h => by cases h; exact .int _
  | .str _, _, h => by cases h with | str q l => exact .str q l
  | .list _, _, h => by cases h with | lst a n q => exact .lst a (fun m => by rcases List.mem_cons.mp m with z | z; · rw [z, np] at a; cases a
                                                                              · exact n z) (DqAll.more np q)
  | .tuple _, _, h => by cases h with | tup a q => exact .tup a (DqAll.more np q)
  | .dict _, _, h => by cases h
theorem DqAll.more {K : PySem.W.Frag} {N : List Addr} {H : Hp} {p : Addr} (np : H p = none) : ∀ {ds : List PyData} {vs : List V}, DqAll K N H vs ds → DqAll K (p :: N) H vs ds
  | [], _, h => by cases h; exact .nil
  | _ :: _, _, h => by cases h with | cons a b => exact .cons (Dq.more np a) (DqAll.more np b)
end
mutual
theorem Dq.less {K : PySem.W.Frag} {N : List Addr} {H : Hp} {p : Addr} : ∀ {d : PyData} {v : V}, Dq K (p :: N) H v d → Dq K N H v d
  | .none, _, h => by cases h; exact .non
  | .bool _, _, h => by cases h; exact .bl _
  | .int _, _, h => by cases h; exact .int _
  | .str _, _, h => by cases h with | str q l => exact .str q l
  | .list _, _, h => by cases h with | lst a n q => exact .lst a (fun m => n (List.mem_cons_of_mem _ m)) (DqAll.less q)
  | .tuple _, _, h => by cases h with | tup a q => exact .tup a (DqAll.less q)
  | .dict _, _, h => by cases h
theorem DqAll.less {K : PySem.W.Frag} {N : List Addr} {H : Hp} {p : Addr} : ∀ {ds : List PyData} {vs : List V}, DqAll K (p :: N) H vs ds → DqAll K N H vs ds
  | [], _, h => by cases h; exact .nil
  | _ :: _, _, h => by cases h with | cons a b => exact .cons (Dq.less a) (DqAll.less b)
end
/-- a list glued anew: its address is new -/
theorem lit_setF {K : PySem.W.Frag} {N : List Addr} {σ : L2.St} {H : Hp} {s t : L2.TE} {ds es : List PyData} {i : Nat} {u : TS} {D : Ends} (hN : ∀ n ∈ N, H n ≠ none) (a : LitT K N σ H s (.list ds)) (b : LitT K N σ H t (.list es)) (l : ds.length + es.length ≤ 100)
    (k : ∀ p xs H', Same H H' → H p = none → H' p = some (.lst xs) → p ∉ N → DqAll K (p :: N) H' xs (ds ++ es) → u D (σ.set i (some (.ref p))) H') : tSeq (tAsg (tOp rCat s t) (gName i)) u D σ H :=
  a H _ (Same.refl _) fun v H1 s1 h1 => b H1 _ s1 fun u H2 s2 h2 => by
    cases h1 with
    | @lst _ xs1 _ e1 n1 a1 =>
      cases h2 with
      | @lst _ xs2 _ e2 n2 a2 =>
        refine ⟨_, _, _, _, rfl, rfl, s2 _ _ e1, e2, by rw [a1.len, a2.len, sizeLine_eq]; omega, fun p np => ?_⟩
        have u := same_upd (o := .lst (xs1 ++ xs2)) np
        have hp : H p = none := by
          cases e : H p with
          | none => rfl
          | some o => rw [(s1.trans s2) _ _ e] at np; cases np
        refine k p _ _ ((s1.trans s2).trans u) hp upd_same (fun m => hN p m hp) ?_
        exact ((DqAll.app a2 (a1.stay (Sty.same s2))).more np).stay (Sty.same u)
theorem gName_go {i : Nat} {v : V} {σ : L2.St} {H : Hp} {Q : L2.St → Hp → Prop} (h : Q (σ.set i (some v)) H) : gName i v σ H Q := h
theorem lit_for {K K' : PySem.W.Frag} {N : List Addr} {σ : L2.St} {H : Hp} {t : L2.TE} {d : PyData} {g : TG} {tb u : TS} {D : Ends} (L : LitT K N σ H t d) (k : ∀ v H', Same H H' → Dq K N H' v d → tSeq (tFor (iList K' (tC v)) g tb) u D σ H') : tSeq (tFor (iList K' t) g tb) u D σ H := L H _ (Same.refl _) k
theorem lit_app {K K' : PySem.W.Frag} {N : List Addr} {σ : L2.St} {H : Hp} {t : L2.TE} {d : PyData} {i : Nat} {D : Ends} {l : Addr} {xs : List V} (e0 : σ[i]? = some (some (.ref l))) (e : H l = some (.lst xs)) (lx : xs.length < sizeLine) (L : LitT K N σ H t d)
    (k : ∀ v H', Same H H' → Dq K N H' v d → D.nx σ (upd H' l (.lst (xs ++ [v])))) : tDrop (tBM K' "list" rAppend (tVar i) (tCons t tNil)) D σ H :=
  ⟨_, e0, .inl ⟨rfl, _, SqL.of e⟩, L H _ (Same.refl _) fun v H' s d => ⟨l, xs, v, rfl, rfl, s _ _ e, lx, k v H' s d⟩⟩
theorem lit_asg {K : PySem.W.Frag} {N : List Addr} {σ : L2.St} {H : Hp} {t : L2.TE} {d : PyData} {i : Nat} {D : Ends} (L : LitT K N σ H t d) (k : ∀ v H', Same H H' → Dq K N H' v d → D.nx (σ.set i (some v)) H') : tAsg t (gName i) D σ H := L H _ (Same.refl _) k
theorem lit_catU {K : PySem.W.Frag} {N : List Addr} {σ : L2.St} {H0 : Hp} {s t : L2.TE} {ds es : List PyData} (a : LitT K N σ H0 s (.tuple ds)) (b : LitT K N σ H0 t (.tuple es)) (l : ds.length + es.length ≤ 1000) : LitT K N σ H0 (tOp (rCatU K) s t) (.tuple (ds ++ es)) := fun H Q s q =>
  a H _ s fun v H1 s1 h1 => b H1 _ (s.trans s1) fun u H2 s2 h2 => by
    cases h1 with
    | @tup _ xs1 _ e1 a1 =>
      cases h2 with
      | @tup _ xs2 _ e2 a2 =>
        refine ⟨_, _, _, _, rfl, rfl, SqT.keeps e1 (TupsStay.same s2), e2, by rw [a1.len, a2.len, sizeLine_eq]; omega, fun p H3 st s3 => ?_⟩
        exact q _ _ ((s1.trans s2).trans s3) (.tup st (DqAll.app (a2.stay (Sty.same s3)) (a1.stay (Sty.same (s2.trans s3)))))
theorem DqAll.take {K : PySem.W.Frag} {N : List Addr} {H : Hp} : ∀ {ds : List PyData} {vs : List V} (n : Nat), DqAll K N H vs ds → DqAll K N H (vs.take n) (ds.take n)
  | [], _, n, h => by cases h; rw [List.take_nil, List.take_nil]; exact .nil
  | _ :: _, _, 0, h => by rw [List.take_zero, List.take_zero]; exact .nil
  | _ :: _, _, n + 1, h => by cases h with | cons a b => exact .cons a (DqAll.take n b)
theorem DqAll.drop {K : PySem.W.Frag} {N : List Addr} {H : Hp} : ∀ {ds : List PyData} {vs : List V} (n : Nat), DqAll K N H vs ds → DqAll K N H (vs.drop n) (ds.drop n)
  | [], _, n, h => by cases h; rw [List.drop_nil, List.drop_nil]; exact .nil
  | _ :: _, _, 0, h => h
  | _ :: _, _, n + 1, h => by cases h with | cons a b => exact DqAll.drop n b
theorem cutV_take (xs : List V) (n : Nat) : cutV xs none (some (n : Int)) = xs.take n := by
  unfold cutV
  rw [HT.sIx_none, HT.sIx_nat, List.drop_zero, Nat.sub_zero, List.take_eq_take_iff]
  omega
theorem cutV_drop (xs : List V) (n : Nat) : cutV xs (some (n : Int)) none = xs.drop n := by
  unfold cutV
  rw [HT.sIx_none, HT.sIx_nat]
  by_cases l : n ≤ xs.length
  · rw [Nat.min_eq_left l, List.take_of_length_le (by rw [List.length_drop]; exact Nat.le_refl _)]
  · rw [Nat.min_eq_right (by omega), Nat.sub_self, List.take_zero, List.drop_eq_nil_of_le (by omega)]
theorem lit_take {K : PySem.W.Frag} {N : List Addr} {σ : L2.St} {H0 : Hp} {t : L2.TE} {ds : List PyData} {n : Nat} {th : TO} (a : LitT K N σ H0 t (.tuple ds)) (hth : ∀ (H : Hp) (Q : Option Int → Hp → Prop), Q (some ((n : Nat) : Int)) H → th σ H Q) : LitT K N σ H0 (tSl (rSlU K) t tNoPart th) (.tuple (ds.take n)) := fun H Q s q =>
  a H _ s fun v H1 s1 h1 => hth H1 _ (by
    cases h1 with
    | tup st ad => exact ⟨_, _, rfl, st, fun p H2 st2 s2 => q _ _ (s1.trans s2) (.tup (by rw [cutV_take] at st2; exact st2) ((ad.take n).stay (Sty.same s2)))⟩)
theorem lit_drop {K : PySem.W.Frag} {N : List Addr} {σ : L2.St} {H0 : Hp} {t : L2.TE} {ds : List PyData} {n : Nat} {tl : TO} (a : LitT K N σ H0 t (.tuple ds)) (htl : ∀ (H : Hp) (Q : Option Int → Hp → Prop), Q (some ((n : Nat) : Int)) H → tl σ H Q) : LitT K N σ H0 (tSl (rSlU K) t tl tNoPart) (.tuple (ds.drop n)) := fun H Q s q =>
  a H _ s fun v H1 s1 h1 => htl H1 _ (by
    cases h1 with
    | tup st ad => exact ⟨_, _, rfl, st, fun p H2 st2 s2 => q _ _ (s1.trans s2) (.tup (by rw [cutV_drop] at st2; exact st2) ((ad.drop n).stay (Sty.same s2)))⟩)
theorem lit_retT {K : PySem.W.Frag} {N : List Addr} {σ : L2.St} {H : Hp} {t : L2.TE} {d : PyData} {D : Ends} (L : LitT K N σ H t d) (k : ∀ v H', Same H H' → Dq K N H' v d → D.rt v H') : tRet t D σ H := L H _ (Same.refl _) k
theorem lit_nm {K : PySem.W.Frag} {N : List Addr} {σ : L2.St} {H0 : Hp} {i k : Nat} {l : Addr} {ns : List Str} {x : Str} (e0 : σ[i]? = some (some (.ref l))) (el : H0 l = some (.lst (ns.map V.str))) (hx : ns[k]? = some x) (t : PyData.strOk x = true ∧ x.length ≤ 1000) : LitT K N σ H0 (tOp (rIxL K) (tVar i) (tC (.int (k : Nat)))) (.str x) := fun H Q s q =>
  ⟨_, e0, l, _, _, _, rfl, rfl, SqL.of (s _ _ el), atI_nat (by rw [List.getElem?_map, hx]; rfl), q _ _ (Same.refl _) (.str t.1 t.2)⟩
section
variable {P : Program} {w : World} {K : PySem.W.Frag} {mg : Str → Option Value} {base : Heap} {C : Addr}
def spBadPart (K : PySem.W.Frag) : Sp := fun vs H Q _ => ∃ (h c : Addr) (s k : Int) (cs : List Int) (M : List Addr), vs = [.ref h] ∧ HAt H h c s k cs ∧ (∀ n ∈ M, H n ≠ none) ∧
  ∀ (s' k' : Int) (cs' : List Int) (v : V) (d : PyData) (H' : Hp), HAt H' h c s' k' cs' → But h c H H' → Dq K (h :: c :: M) H' v d → BadEx d → Q v H'
theorem ok_law_bad_part {f : Addr} {fd : FuncData} (T : Txt K mg C) (F : DefAt K mg "_law_bad_part" "_law_bad_part" s_law_bad_part ["_law_h"] f fd) : FnOk P w K mg base CX0 2 f fd ["_law_h"] (spBadPart K) := by
  obtain ⟨f1, fd1, D_law_next⟩ := T.d_law_next
  have G_law_next : FnOk P w K mg base CX0 1 f1 fd1 ["_law_h", "_law_many"] spNext := ok_law_next T D_law_next
  refine F.F.ok sc_law_bad_part (fun vs H Q E h => ?_) (fun cdv A outer s H vs Q E hr h => ?_)
  · obtain ⟨h, c, s, k, cs, M, rfl, _⟩ := h
    rfl
  · obtain ⟨h, c, z, k, cs, M, rfl, A, hM, q⟩ := h
    refine ⟨_, (pss_cons (ps_set (i := 1) sc_law_bad_part.nd rfl (.inl rfl) (pe_lst (pa_cons (pe_tup (pa_cons pe_str (pa_cons (pe_un un_neg pe_int) pa_nil))) (pa_cons (pe_tup (pa_cons pe_str (pa_cons pe_int pa_nil))) (pa_cons (pe_tup (pa_cons pe_str (pa_cons pe_bl pa_nil))) (pa_cons (pe_tup (pa_cons pe_str (pa_cons pe_str pa_nil))) (pa_cons (pe_tup (pa_cons pe_str pa_nil)) (pa_cons (pe_tup (pa_cons pe_str (pa_cons pe_int (pa_cons pe_int pa_nil)))) (pa_cons (pe_tup (pa_cons pe_str (pa_cons pe_str pa_nil))) pa_nil)))))))))
      (pss_cons (ps_set (i := 1) sc_law_bad_part.nd rfl (.inl rfl) (pe_op op_cat (pv 1) (pe_lst (pa_cons (pe_tup (pa_cons pe_str (pa_cons pe_str pa_nil))) (pa_cons (pe_tup (pa_cons pe_str (pa_cons pe_str pa_nil))) (pa_cons (pe_tup (pa_cons pe_str (pa_cons pe_str pa_nil))) (pa_cons (pe_tup (pa_cons pe_str (pa_cons pe_int pa_nil))) (pa_cons (pe_tup (pa_cons pe_str pa_nil)) pa_nil))))))))
      (pss_cons (ps_set (i := 2) sc_law_bad_part.nd rfl (.inl rfl) (pe_tup (pa_cons pe_str (pa_cons pe_int pa_nil))))
      (pss_cons (ps_set (i := 1) sc_law_bad_part.nd rfl (.inl rfl) (pe_op op_cat (pv 1) (pe_lst (pa_cons (pe_tup (pa_cons pe_str (pa_cons (pv 2) (pa_cons (pv 2) pa_nil)))) (pa_cons (pe_tup (pa_cons pe_str (pa_cons (pv 2) pa_nil))) (pa_cons (pe_tup (pa_cons pe_str (pa_cons (pv 2) (pa_cons (pv 2) (pa_cons (pv 2) pa_nil))))) (pa_cons (pe_tup (pa_cons pe_str (pa_cons pe_int (pa_cons pe_int pa_nil)))) (pa_cons (pe_tup pa_nil) (pa_cons pe_int (pa_cons pe_non (pa_cons (pe_lst (pa_cons pe_str (pa_cons pe_int pa_nil))) pa_nil)))))))))))
      (pss_cons (ps_set (i := 3) sc_law_bad_part.nd rfl (.inl rfl) (pe_tup (pa_cons pe_str (pa_cons pe_int pa_nil))))
      (pss_cons (ps_for PassesOwn.never rfl (pi_range1 rfl T.m_range (pa_cons pe_int pa_nil)) (pg_name (i := 4) sc_law_bad_part.nd rfl (.inl rfl)) (pss_one (ps_set (i := 3) sc_law_bad_part.nd rfl (.inl rfl) (pe_ix (ix_listK (K := K) rfl) (pe_lst (pa_cons (pe_tup (pa_cons pe_str (pa_cons (pv 3) (pa_cons (pe_tup (pa_cons pe_str (pa_cons pe_int pa_nil))) pa_nil)))) (pa_cons (pe_tup (pa_cons pe_str (pa_cons (pe_tup (pa_cons pe_str (pa_cons pe_int pa_nil))) (pa_cons (pv 3) pa_nil)))) pa_nil))) (pe_call G_law_next (hr.mono (by decide)) (by rfl) D_law_next.g D_law_next.F.kp D_law_next.b .nil pass0 (pa_cons (pv 0) (pa_cons pe_int pa_nil))) (fun _ _ => rfl)))))
      (pss_one (ps_ret (pe_ix (ix_listK (K := K) rfl) (pe_op op_cat (pv 1) (pe_lst (pa_cons (pv 3) pa_nil))) (pe_call G_law_next (hr.mono (by decide)) (by rfl) D_law_next.g D_law_next.F.kp D_law_next.b .nil pass0 (pa_cons (pv 0) (pa_cons (pe_op op_add (pe_callB (call_lenK (K := K) rfl) (by rfl) T.m_len (by decide +kernel) (pa_cons (pv 1) pa_nil)) pe_int) pa_nil))) (fun _ _ => rfl)))))))))), ?_⟩
    have dm := domM hM (But.refl h c H) A
    refine lit_set (K := K) (N := (h :: c :: M)) (d := .list (badEs.take 7)) (by repeat' (first | assumption | exact lit_nil | apply lit_cons | exact lit_int _ | exact lit_bl _ | exact lit_non | exact lit_neg _ | exact lit_str (by decide +kernel) | exact lit_var rfl (by assumption) | refine lit_tup ?_ | refine lit_lst (by assumption) ?_ | refine lit_cat (by assumption) ?_ ?_)) fun v1 H1 s1 d1 => ?_
    have A1 := A.same s1
    have dm1 := domM hM (Same.but s1) A1
    refine lit_set (K := K) (N := (h :: c :: M)) (d := .list (badEs.take 7 ++ (badEs.drop 7).take 5)) (by repeat' (first | assumption | exact lit_nil | apply lit_cons | exact lit_int _ | exact lit_bl _ | exact lit_non | exact lit_neg _ | exact lit_str (by decide +kernel) | exact lit_var rfl (by assumption) | refine lit_tup ?_ | refine lit_lst (by assumption) ?_ | refine lit_cat (by assumption) ?_ ?_)) fun v2 H2 s2 d2 => ?_
    have A2 := A1.same s2
    refine lit_set (K := K) (N := (h :: c :: M)) (d := .tuple [.str "num", .int 1]) (by repeat' (first | assumption | exact lit_nil | apply lit_cons | exact lit_int _ | exact lit_bl _ | exact lit_non | exact lit_neg _ | exact lit_str (by decide +kernel) | exact lit_var rfl (by assumption) | refine lit_tup ?_ | refine lit_lst (by assumption) ?_ | refine lit_cat (by assumption) ?_ ?_)) fun v3 H3 s3 d3 => ?_
    have A3 := A2.same s3
    have dm3 := domM hM (Same.but (Same.trans (Same.trans s1 s2) s3)) A3
    have d2 := d2.stay (Sty.same s3)
    refine lit_set (K := K) (N := (h :: c :: M)) (d := .list ((badEs.take 7 ++ (badEs.drop 7).take 5) ++ badEs.drop 12)) (by repeat' (first | assumption | exact lit_nil | apply lit_cons | exact lit_int _ | exact lit_bl _ | exact lit_non | exact lit_neg _ | exact lit_str (by decide +kernel) | exact lit_var rfl (by assumption) | refine lit_tup ?_ | refine lit_lst (by assumption) ?_ | refine lit_cat (by assumption) ?_ ?_)) fun v4 H4 s4 d4 => ?_
    have A4 := A3.same s4
    refine lit_set (K := K) (N := (h :: c :: M)) (d := .tuple [.str "num", .int 1]) (by repeat' (first | assumption | exact lit_nil | apply lit_cons | exact lit_int _ | exact lit_bl _ | exact lit_non | exact lit_neg _ | exact lit_str (by decide +kernel) | exact lit_var rfl (by assumption) | refine lit_tup ?_ | refine lit_lst (by assumption) ?_ | refine lit_cat (by assumption) ?_ ?_)) fun v5 H5 s5 d5 => ?_
    have d4 : Dq K (h :: c :: M) H5 v4 (.list badEs) := d4.stay (Sty.same s5)
    have A5 := A4.same s5
    have B5 : But h c H H5 := Same.but (((((Same.trans s1 s2).trans s3).trans s4).trans s5))
    refine ⟨5, rfl, by decide, by decide, for_range (lo := 0) (n := 5) (fun i σ H6 => ∃ (v6 v7 : Option V) (vd : V) (dd : PyData) (s k : Int) (cs : List Int), σ = [some (.ref h), some v4, v7, some vd, v6] ∧ HAt H6 h c s k cs ∧ But h c H H6 ∧ Dq K (h :: c :: M) H6 v4 (.list badEs) ∧ Dq K (h :: c :: M) H6 vd dd ∧ exOk i dd = false) ⟨none, _, v5, _, _, _, _, rfl, A5, B5, d4, d5, rfl⟩ ?_ ?_⟩
    · rintro i σ H6 hi ⟨v6, v7, vd, dd, s6, k6, cs6, rfl, A6, B6, D6, d6, e6⟩
      have dm6 := domM hM B6 A6
      refine lit_op (K := K) (N := (h :: c :: M)) (d := (.list [.tuple [.str "add", dd, .tuple [.str "num", .int 1]], .tuple [.str "times", .tuple [.str "num", .int 0], dd]])) (by repeat' (first | assumption | exact lit_nil | apply lit_cons | exact lit_int _ | exact lit_bl _ | exact lit_non | exact lit_neg _ | exact lit_str (by decide +kernel) | exact lit_var rfl (by assumption) | refine lit_tup ?_ | refine lit_lst (by assumption) ?_ | refine lit_cat (by assumption) ?_ ?_)) fun v8 H8 s8 d8 => ?_
      have A8 := A6.same s8
      refine ⟨_, rfl, h, c, _, _, 2, _, rfl, by decide, by decide, A8, fun s9 k9 cs9 r H9 r0 r2 A9 B9 => ?_⟩
      have st := B9.sty (M := M) A8
      obtain ⟨a, xs, u, rfl, q1, q2, q3, q4⟩ := dq_pick (d8.stay st) r0 r2
      refine ⟨a, xs, r, u, rfl, rfl, q1, q2, ?_⟩
      refine ⟨_, _, _, _, _, _, _, rfl, A9, (B6.same s8).trans B9, (D6.stay (Sty.same s8)).stay st, q3, ?_⟩
      have z : r = 0 ∨ r = 1 := by
        have : r < 2 := r2
        omega
      rcases z with z | z
      · subst z
        show exOk (i + 1) (.tuple [.str "add", dd, .tuple [.str "num", .int 1]]) = false
        rw [exOk_add, e6]
        rfl
      · subst z
        show exOk (i + 1) (.tuple [.str "times", .tuple [.str "num", .int 0], dd]) = false
        rw [exOk_times, e6, Bool.and_false]
    · rintro σ H6 ⟨v6, v7, vd, dd, s6, k6, cs6, rfl, A6, B6, D6, d6, e6⟩
      have dm6 := domM hM B6 A6
      dsimp only
      refine lit_ret (K := K) (N := (h :: c :: M)) (d := (.list (badEs ++ [dd]))) (by repeat' (first | assumption | exact lit_nil | apply lit_cons | exact lit_int _ | exact lit_bl _ | exact lit_non | exact lit_neg _ | exact lit_str (by decide +kernel) | exact lit_var rfl (by assumption) | refine lit_tup ?_ | refine lit_lst (by assumption) ?_ | refine lit_cat (by assumption) ?_ ?_)) fun v8 H8 s8 d8 => ?_
      have A8 := A6.same s8
      obtain ⟨a4, xs4, e4, l4⟩ : ∃ a xs, v4 = .ref a ∧ SqL K H8 a xs ∧ xs.length = 20 := by
        have z := D6.stay (Sty.same s8)
        cases z with
        | lst e n ad => exact ⟨_, _, rfl, SqL.of e, ad.len⟩
      subst e4
      refine ⟨_, rfl, _, rfl, a4, xs4, rfl, .inl l4.1, _, 1, rfl, rfl, h, c, _, _, 21, _, by rw [l4.2]; rfl, by decide, by decide, A8, fun s9 k9 cs9 r H9 r0 r2 A9 B9 => ?_⟩
      have st := B9.sty (M := M) A8
      obtain ⟨a, xs, u, rfl, q1, q2, q3, q4⟩ := dq_pick (d8.stay st) r0 r2
      refine ⟨a, xs, r, u, rfl, rfl, q1, q2, q _ _ _ u _ _ A9 ((B6.same s8).trans B9) q3 ?_⟩
      rcases List.mem_append.mp q4 with z | z
      · exact badEs_bad _ z
      · rw [List.mem_singleton.mp z]
        exact e6
end
/-! ### statements that are none -/
def gA : PyData := .tuple [.str "name", .str "a"]
def rE : PyData := .tuple [.str "row", .tuple []]
def oddR : List PyData := [.tuple [.str "say", gA], .tuple [.str "row", .list []], .tuple [.str "row"], .tuple []]
def badS1 (b : PyData) : List PyData := [.tuple [.str "set", .str "a", b], .tuple [.str "say", b], .tuple [.str "lap", .str "a", b, rE], .tuple [.str "set", .str "A", gA], .tuple [.str "set", .int 3, gA]]
def badS2 : List PyData := [.tuple [.str "set", .str "a"], .tuple [.str "say"], .tuple [.str "say", gA, gA], .tuple [.str "lap", .str "a", gA], .tuple [.str "lap", .str "a", gA, rE, rE]]
def badS3 : List PyData := oddR.map fun o => .tuple [.str "lap", .str "a", gA, o]
def badS4 : List PyData := [.tuple [.str "lap", .str "", gA, rE], rE, .tuple [.str "tell", gA], .tuple [.str "set", .str "a", gA, gA], .tuple [], .int 5, .none, .str "say"]
theorem badS1_bad {b d : PyData} (h : BadEx b) (m : d ∈ badS1 b) : BadSt d := by
  simp only [badS1, List.mem_cons, List.not_mem_nil, or_false] at m
  rcases m with z | z | z | z | z <;> subst z
  · exact bad_set (.inr h)
  · exact bad_say h
  · exact bad_lap (.inr (.inl h))
  · exact bad_set (.inl (by decide +kernel))
  · exact bad_set (.inl rfl)
theorem badS2_bad {d : PyData} (m : d ∈ badS2) : BadSt d := by
  simp only [badS2, List.mem_cons, List.not_mem_nil, or_false] at m
  rcases m with z | z | z | z | z <;> subst z <;> exact bad_word (by rfl)
theorem badS3_bad {d : PyData} (m : d ∈ badS3) : BadSt d := by
  simp only [badS3, oddR, List.map_cons, List.map_nil, List.mem_cons, List.not_mem_nil, or_false] at m
  rcases m with z | z | z | z <;> subst z <;> refine bad_lap (.inr (.inr (inner_bad fun l left => ?_)))
  · exact needRow_none rfl
  · exact needRow_not (show ¬ ("list" : String) = "tuple" by decide)
  · exact needRow_none rfl
  · exact needRow_none rfl
theorem badS4_bad {d : PyData} (m : d ∈ badS4) : BadSt d := by
  simp only [badS4, List.mem_cons, List.not_mem_nil, or_false] at m
  rcases m with z | z | z | z | z | z | z | z <;> subst z
  · exact bad_lap (.inl (by decide +kernel))
  all_goals exact bad_word (by rfl)
def DeepR : Nat → PyData → Prop
  | 0, _ => True
  | k + 1, d => ∃ x e d', d = .tuple [.str "row", .tuple [.tuple [.str "lap", x, e, d']]] ∧ DeepR k d'
theorem deep_bad : ∀ {k l left : Nat} {d : PyData}, DeepR k d → l ≤ k → innerF l left d = none
  | _, 0, _, _, _, _ => rfl
  | k + 1, l + 1, left, d, ⟨x, e, d', ed, h⟩, hl => by
    show needRow l left d = none
    rw [ed, needRow_row]
    cases left with
    | zero => rfl
    | succ left =>
      show (match needSt (innerF l) left (.tuple [.str "lap", x, e, d']) with | none => none | some l' => _) = none
      rw [needSt_lap]
      split
      · rfl
      · rename_i m eq
        split at eq
        · rw [deep_bad h (by omega)] at eq
          cases eq
        · cases eq
section
variable {P : Program} {w : World} {K : PySem.W.Frag} {mg : Str → Option Value} {base : Heap} {C : Addr}
def spBad (K : PySem.W.Frag) : Sp := fun vs H Q _ => ∃ (h c : Addr) (s k : Int) (cs : List Int) (M : List Addr), vs = [.ref h] ∧ HAt H h c s k cs ∧ (∀ n ∈ M, H n ≠ none) ∧
  ∀ (s' k' : Int) (cs' : List Int) (v : V) (d : PyData) (H' : Hp), HAt H' h c s' k' cs' → But h c H H' → Dq K (h :: c :: M) H' v d → BadSt d → Q v H'
theorem ok_law_bad {f : Addr} {fd : FuncData} (T : Txt K mg C) (F : DefAt K mg "_law_bad" "_law_bad" s_law_bad ["_law_h"] f fd) : FnOk P w K mg base CX0 3 f fd ["_law_h"] (spBad K) := by
  obtain ⟨f1, fd1, D_law_next⟩ := T.d_law_next
  have G_law_next : FnOk P w K mg base CX0 1 f1 fd1 ["_law_h", "_law_many"] spNext := ok_law_next T D_law_next
  obtain ⟨f2, fd2, D_law_bad_part⟩ := T.d_law_bad_part
  have G_law_bad_part : FnOk P w K mg base CX0 2 f2 fd2 ["_law_h"] (spBadPart K) := ok_law_bad_part T D_law_bad_part
  refine F.F.ok sc_law_bad (fun vs H Q E h => ?_) (fun cdv A outer s H vs Q E hr h => ?_)
  · obtain ⟨h, c, s, k, cs, M, rfl, _⟩ := h
    rfl
  · obtain ⟨h, c, z, k, cs, M, rfl, A, hM, q⟩ := h
    refine ⟨_, (pss_cons (ps_set (i := 1) sc_law_bad.nd rfl (.inl rfl) (pe_call G_law_bad_part (hr.mono (by decide)) (by rfl) D_law_bad_part.g D_law_bad_part.F.kp D_law_bad_part.b .nil pass0 (pa_cons (pv 0) pa_nil)))
      (pss_cons (ps_set (i := 2) sc_law_bad.nd rfl (.inl rfl) (pe_tup (pa_cons pe_str (pa_cons pe_str pa_nil))))
      (pss_cons (ps_set (i := 3) sc_law_bad.nd rfl (.inl rfl) (pe_tup (pa_cons pe_str (pa_cons (pe_tup pa_nil) pa_nil))))
      (pss_cons (ps_set (i := 4) sc_law_bad.nd rfl (.inl rfl) (pe_lst (pa_cons (pe_tup (pa_cons pe_str (pa_cons pe_str (pa_cons (pv 1) pa_nil)))) (pa_cons (pe_tup (pa_cons pe_str (pa_cons (pv 1) pa_nil))) (pa_cons (pe_tup (pa_cons pe_str (pa_cons pe_str (pa_cons (pv 1) (pa_cons (pv 3) pa_nil))))) (pa_cons (pe_tup (pa_cons pe_str (pa_cons pe_str (pa_cons (pv 2) pa_nil)))) (pa_cons (pe_tup (pa_cons pe_str (pa_cons pe_int (pa_cons (pv 2) pa_nil)))) pa_nil)))))))
      (pss_cons (ps_set (i := 4) sc_law_bad.nd rfl (.inl rfl) (pe_op op_cat (pv 4) (pe_lst (pa_cons (pe_tup (pa_cons pe_str (pa_cons pe_str pa_nil))) (pa_cons (pe_tup (pa_cons pe_str pa_nil)) (pa_cons (pe_tup (pa_cons pe_str (pa_cons (pv 2) (pa_cons (pv 2) pa_nil)))) (pa_cons (pe_tup (pa_cons pe_str (pa_cons pe_str (pa_cons (pv 2) pa_nil)))) (pa_cons (pe_tup (pa_cons pe_str (pa_cons pe_str (pa_cons (pv 2) (pa_cons (pv 3) (pa_cons (pv 3) pa_nil)))))) pa_nil))))))))
      (pss_cons (ps_for PassesOwn.never rfl (pi_list (pe_lst (pa_cons (pe_tup (pa_cons pe_str (pa_cons (pv 2) pa_nil))) (pa_cons (pe_tup (pa_cons pe_str (pa_cons (pe_lst pa_nil) pa_nil))) (pa_cons (pe_tup (pa_cons pe_str pa_nil)) (pa_cons (pe_tup pa_nil) pa_nil)))))) (pg_name (i := 5) sc_law_bad.nd rfl (.inl rfl)) (pss_one (ps_expr (pe_bm PySem.F.plainAttrs_list PySem.F.slot_list_append PySem.F.type_list_append mt_append (pv 4) (pa_cons (pe_tup (pa_cons pe_str (pa_cons pe_str (pa_cons (pv 2) (pa_cons (pv 5) pa_nil))))) pa_nil)))))
      (pss_cons (ps_set (i := 4) sc_law_bad.nd rfl (.inl rfl) (pe_op op_cat (pv 4) (pe_lst (pa_cons (pe_tup (pa_cons pe_str (pa_cons pe_str (pa_cons (pv 2) (pa_cons (pv 3) pa_nil))))) (pa_cons (pv 3) (pa_cons (pe_tup (pa_cons pe_str (pa_cons (pv 2) pa_nil))) (pa_cons (pe_tup (pa_cons pe_str (pa_cons pe_str (pa_cons (pv 2) (pa_cons (pv 2) pa_nil))))) (pa_cons (pe_tup pa_nil) (pa_cons pe_int (pa_cons pe_non (pa_cons pe_str pa_nil)))))))))))
      (pss_cons (ps_set (i := 6) sc_law_bad.nd rfl (.inl rfl) (pe_tup (pa_cons pe_str (pa_cons (pe_tup (pa_cons (pe_tup (pa_cons pe_str (pa_cons (pv 2) pa_nil))) pa_nil)) pa_nil))))
      (pss_cons (ps_for PassesOwn.never rfl (pi_range1 rfl T.m_range (pa_cons pe_int pa_nil)) (pg_name (i := 7) sc_law_bad.nd rfl (.inl rfl)) (pss_one (ps_set (i := 6) sc_law_bad.nd rfl (.inl rfl) (pe_tup (pa_cons pe_str (pa_cons (pe_tup (pa_cons (pe_tup (pa_cons pe_str (pa_cons (pe_ix ix_str pe_str (pv 7) (fun _ _ => rfl)) (pa_cons (pe_tup (pa_cons pe_str (pa_cons (pe_ix ix_str pe_str (pv 7) (fun _ _ => rfl)) pa_nil))) (pa_cons (pv 6) pa_nil))))) pa_nil)) pa_nil))))))
      (pss_one (ps_ret (pe_ix (ix_listK (K := K) rfl) (pe_op op_cat (pv 4) (pe_lst (pa_cons (pe_ix (ix_tupK (K := K) rfl) (pe_ix (ix_tupK (K := K) rfl) (pv 6) pe_int (fun _ _ => rfl)) pe_int (fun _ _ => rfl)) pa_nil))) (pe_call G_law_next (hr.mono (by decide)) (by rfl) D_law_next.g D_law_next.F.kp D_law_next.b .nil pass0 (pa_cons (pv 0) (pa_cons (pe_op op_add (pe_callB (call_lenK (K := K) rfl) (by rfl) T.m_len (by decide +kernel) (pa_cons (pv 4) pa_nil)) pe_int) pa_nil))) (fun _ _ => rfl))))))))))))), ?_⟩
    refine ⟨_, rfl, h, c, _, _, _, M, rfl, A, hM, fun s1 k1 cs1 vb b H1 A1 B1 d1 hb => gName_go ?_⟩
    dsimp only
    refine lit_set (K := K) (N := (h :: c :: M)) (d := gA) (by unfold gA; repeat' (first | assumption | exact lit_nil | apply lit_cons | exact lit_int _ | exact lit_bl _ | exact lit_non | exact lit_neg _ | exact lit_str (by decide +kernel) | exact lit_var rfl (by assumption) | refine lit_tup ?_ | refine lit_lst (by assumption) ?_ | refine lit_cat (by assumption) ?_ ?_)) fun v2 H2 s2 d2 => ?_
    have A2 := A1.same s2
    refine lit_set (K := K) (N := (h :: c :: M)) (d := rE) (by unfold rE; repeat' (first | assumption | exact lit_nil | apply lit_cons | exact lit_int _ | exact lit_bl _ | exact lit_non | exact lit_neg _ | exact lit_str (by decide +kernel) | exact lit_var rfl (by assumption) | refine lit_tup ?_ | refine lit_lst (by assumption) ?_ | refine lit_cat (by assumption) ?_ ?_)) fun v3 H3 s3 d3 => ?_
    have A3 := A2.same s3
    have dm3 := domM hM ((B1.same s2).same s3) A3
    have d1 := d1.stay (Sty.same (Same.trans s2 s3))
    have d2 := d2.stay (Sty.same s3)
    refine lit_set (K := K) (N := (h :: c :: M)) (d := .list (badS1 b)) (by unfold badS1; repeat' (first | assumption | exact lit_nil | apply lit_cons | exact lit_int _ | exact lit_bl _ | exact lit_non | exact lit_neg _ | exact lit_str (by decide +kernel) | exact lit_var rfl (by assumption) | refine lit_tup ?_ | refine lit_lst (by assumption) ?_ | refine lit_cat (by assumption) ?_ ?_)) fun v4 H4 s4 d4 => ?_
    have A4 := A3.same s4
    have dm4 := domM hM (((B1.same s2).same s3).same s4) A4
    have d2 := d2.stay (Sty.same s4)
    have d3 := d3.stay (Sty.same s4)
    refine lit_setF (K := K) (N := (h :: c :: M)) (ds := badS1 b) (es := badS2) dm4 (by repeat' (first | assumption | exact lit_nil | apply lit_cons | exact lit_int _ | exact lit_bl _ | exact lit_non | exact lit_neg _ | exact lit_str (by decide +kernel) | exact lit_var rfl (by assumption) | refine lit_tup ?_ | refine lit_lst (by assumption) ?_ | refine lit_cat (by assumption) ?_ ?_)) (by unfold badS2; repeat' (first | assumption | exact lit_nil | apply lit_cons | exact lit_int _ | exact lit_bl _ | exact lit_non | exact lit_neg _ | exact lit_str (by decide +kernel) | exact lit_var rfl (by assumption) | refine lit_tup ?_ | refine lit_lst (by assumption) ?_ | refine lit_cat (by assumption) ?_ ?_)) (by first | decide | exact Nat.le_of_ble_eq_true rfl) fun ls xs5 H5 s5 n5 e5 na5 ad5 => ?_
    have A5 := A4.same s5
    have B5 : But h c H H5 := B1.same (((Same.trans s2 s3).trans s4).trans s5)
    have d2 := (d2.more n5).stay (Sty.same s5)
    have d3 := (d3.more n5).stay (Sty.same s5)
    have dm5 : ∀ n ∈ (ls :: h :: c :: M), H5 n ≠ none := fun n m => by
      rcases List.mem_cons.mp m with z | z
      · rw [z, e5]; exact fun z => nomatch z
      · exact domM hM B5 A5 n z
    have lsh : ls ≠ h := fun z => na5 (by simp [z])
    have lsc : ls ≠ c := fun z => na5 (by simp [z])
    refine lit_for (K := K) (N := (ls :: h :: c :: M)) (d := .list oddR) (by unfold oddR; repeat' (first | assumption | exact lit_nil | apply lit_cons | exact lit_int _ | exact lit_bl _ | exact lit_non | exact lit_neg _ | exact lit_str (by decide +kernel) | exact lit_var rfl (by assumption) | refine lit_tup ?_ | refine lit_lst (by assumption) ?_ | refine lit_cat (by assumption) ?_ ?_)) fun v6 H6 s6 d6 => ?_
    have A6 := A5.same s6
    have B6 := B5.same s6
    have e6 := s6 _ _ e5
    have ad6 := ad5.stay (Sty.same s6)
    have d2 := d2.stay (Sty.same s6)
    have d3 := d3.stay (Sty.same s6)
    obtain ⟨la, xl, rfl, el6, nla, adl6⟩ : ∃ a xs, v6 = .ref a ∧ H6 a = some (.lst xs) ∧ a ∉ (ls :: h :: c :: M) ∧ DqAll K (ls :: h :: c :: M) H6 xs oddR := by
      cases d6 with
      | lst e n ad => exact ⟨_, _, rfl, e, n, ad⟩
    have al : xl.length = 4 := adl6.len
    have lsH : H ls = none := by
      cases e : H ls with
      | none => rfl
      | some o =>
        have z := (((Same.trans s2 s3).trans s4)) _ _ (B1 _ _ e lsh lsc)
        rw [n5] at z
        cases z
    have stU : ∀ {Hx : Hp} {o : List V} {xs : List V}, Hx ls = some (.lst xs) → Sty (ls :: h :: c :: M) Hx (upd Hx ls (.lst o)) := fun e => ⟨fun a o q n => by rw [upd_ne (fun z => n (by simp [z]))]; exact q, TupsStay.upd e True.intro⟩
    refine ⟨la, rfl, ⟨xl, SqL.of el6⟩, for_list (K := K) (a := la) (xs := xl) (fun i σ Hx => ∃ (v7 : Option V) (xs : List V), σ = [some (.ref h), some vb, some v2, some v3, some (.ref ls), v7, none, none] ∧ HAt Hx h c s1 k1 cs1 ∧ But h c H Hx ∧ Hx ls = some (.lst xs) ∧ DqAll K (ls :: h :: c :: M) Hx xs (badS1 b ++ badS2 ++ badS3.take i) ∧ Dq K (ls :: h :: c :: M) Hx v2 gA ∧ Dq K (ls :: h :: c :: M) Hx v3 rE ∧ Hx la = some (.lst xl) ∧ DqAll K (ls :: h :: c :: M) Hx xl oddR)
      ⟨none, _, rfl, A6, B6, e6, by rw [List.take_zero, List.append_nil]; exact ad6, d2, d3, el6, adl6⟩ (fun i σ Hx _ ⟨_, _, _, _, _, _, _, _, _, el, _⟩ => SqL.of el) (fun i x σ Hx hx h2 => ?_) (fun σ Hx h2 => ?_)⟩
    · obtain ⟨v7, xs, rfl, Ax, Bx, ex, adx, g2, g3, el, adl⟩ := h2
      have hi : i < 4 := by
        have := (List.getElem?_eq_some_iff.mp hx).1
        omega
      have dmx : ∀ n ∈ (ls :: h :: c :: M), Hx n ≠ none := fun n m => by
        rcases List.mem_cons.mp m with z | z
        · rw [z, ex]; exact fun z => nomatch z
        · exact domM hM Bx Ax n z
      have dx : Dq K (ls :: h :: c :: M) Hx x (oddR.getD i .none) := by
        obtain ⟨u, eu, du⟩ := adl.at_ (show i < oddR.length from hi)
        obtain rfl : x = u := Option.some.inj (hx.symm.trans eu)
        exact du
      refine gName_go ?_
      refine lit_app (K := K) (N := (ls :: h :: c :: M)) (d := .tuple [.str "lap", .str "a", gA, oddR.getD i .none]) rfl ex ?_ (by repeat' (first | assumption | exact lit_nil | apply lit_cons | exact lit_int _ | exact lit_bl _ | exact lit_non | exact lit_neg _ | exact lit_str (by decide +kernel) | exact lit_var rfl (by assumption) | refine lit_tup ?_ | refine lit_lst (by assumption) ?_ | refine lit_cat (by assumption) ?_ ?_)) fun v8 H8 s8 d8 => ?_
      · rw [adx.len, List.length_append, List.length_take, sizeLine_eq]
        show 10 + min i 4 < _
        omega
      · have e8 := s8 _ _ ex
        have u8 := stU (o := xs ++ [v8]) e8
        have u9 : Sty (ls :: h :: c :: M) Hx (upd H8 ls (.lst (xs ++ [v8]))) := ⟨fun a o q n => u8.but _ _ (s8 _ _ q) n, fun a xs q => u8.tup a xs (TupsStay.same s8 a xs q)⟩
        refine ⟨_, xs ++ [v8], rfl, (Ax.same s8).set lsh lsc, (Bx.same s8).upd lsH, upd_same, ?_, g2.stay u9, g3.stay u9, u9.but _ _ el nla, adl.stay u9⟩
        have e9 : badS3.take (i + 1) = badS3.take i ++ [.tuple [.str "lap", .str "a", gA, oddR.getD i .none]] := by
          rw [List.take_add_one]
          show _ ++ (oddR.map _)[i]?.toList = _
          rw [List.getElem?_map, List.getD_eq_getElem?_getD, List.getElem?_eq_getElem (show i < oddR.length from hi)]
          rfl
        rw [e9, ← List.append_assoc]
        exact DqAll.app (.cons (d8.stay u8) .nil) (adx.stay u9)
    · obtain ⟨v7, xs, rfl, Ax, Bx, ex, adx, g2, g3, el, adl⟩ := h2
      rw [al, show badS3.take 4 = badS3 from rfl] at adx
      have dmx := domM hM Bx Ax
      have g2 := g2.less
      have g3 := g3.less
      have dls : Dq K (h :: c :: M) Hx (.ref ls) (.list (badS1 b ++ badS2 ++ badS3)) := .lst ex na5 adx.less
      dsimp only
      refine lit_set (K := K) (N := (h :: c :: M)) (d := .list (badS1 b ++ badS2 ++ badS3 ++ badS4)) (by
        refine lit_cat dmx (lit_var rfl dls) ?_ ?_
        · unfold badS4; repeat' (first | assumption | exact lit_nil | apply lit_cons | exact lit_int _ | exact lit_bl _ | exact lit_non | exact lit_neg _ | exact lit_str (by decide +kernel) | exact lit_var rfl (by assumption) | refine lit_tup ?_ | refine lit_lst (by assumption) ?_ | refine lit_cat (by assumption) ?_ ?_)
        · first | decide | exact Nat.le_of_ble_eq_true rfl) fun va Ha sa da => ?_
      have Aa := Ax.same sa
      have g2 := g2.stay (Sty.same sa)
      refine lit_set (K := K) (N := (h :: c :: M)) (d := .tuple [.str "row", .tuple [.tuple [.str "say", gA]]]) (by repeat' (first | assumption | exact lit_nil | apply lit_cons | exact lit_int _ | exact lit_bl _ | exact lit_non | exact lit_neg _ | exact lit_str (by decide +kernel) | exact lit_var rfl (by assumption) | refine lit_tup ?_ | refine lit_lst (by assumption) ?_ | refine lit_cat (by assumption) ?_ ?_)) fun vd Hd sd dd => ?_
      have Ad := Aa.same sd
      have da := da.stay (Sty.same sd)
      refine ⟨4, rfl, by decide, by decide, for_range (lo := 0) (n := 4) (fun i σ H6 => ∃ (v6 : Option V) (vd : V) (dd : PyData), σ = [some (.ref h), some vb, some v2, some v3, some va, v7, some vd, v6] ∧ HAt H6 h c s1 k1 cs1 ∧ But h c H H6 ∧ Dq K (h :: c :: M) H6 va (.list (badS1 b ++ badS2 ++ badS3 ++ badS4)) ∧ Dq K (h :: c :: M) H6 vd dd ∧ DeepR i dd) ⟨none, vd, _, rfl, Ad, (Bx.same sa).same sd, da, dd, True.intro⟩ ?_ ?_⟩
      · rintro i σ H7 hi ⟨v8, ve, de, rfl, A7, B7, da, g7, dp⟩
        have dm7 := domM hM B7 A7
        refine gName_go ?_
        have ab : ∃ cc, atI ("abcd" : Str).cps.toList (0 + (i : Int)) = some cc ∧ cc < 0x110000 := by
          have : i = 0 ∨ i = 1 ∨ i = 2 ∨ i = 3 := by omega
          rcases this with z | z | z | z <;> subst z
          · exact ⟨97, by decide +kernel, by decide⟩
          · exact ⟨98, by decide +kernel, by decide⟩
          · exact ⟨99, by decide +kernel, by decide⟩
          · exact ⟨100, by decide +kernel, by decide⟩
        obtain ⟨cc, eab, lab⟩ := ab
        have Lx : LitT K (h :: c :: M) [some (.ref h), some vb, some v2, some v3, some va, v7, some ve, some (.int (0 + (i : Int)))] H7 (tOp rIxS (tC (.str "abcd")) (tVar 7)) (.str ⟨#[cc]⟩) := fun H Q _ q => ⟨_, rfl, _, _, cc, rfl, rfl, by decide +kernel, eab, q _ _ (Same.refl _) (.str (by
          show (#[cc] : Array Nat).all (· < 0x110000) = true
          simp [lab]) (by show 1 ≤ 1000; decide))⟩
        refine lit_asg (K := K) (N := (h :: c :: M)) (d := .tuple [.str "row", .tuple [.tuple [.str "lap", .str ⟨#[cc]⟩, .tuple [.str "name", .str ⟨#[cc]⟩], de]]]) (by
          refine lit_tup (lit_cons (by repeat' (first | assumption | exact lit_nil | apply lit_cons | exact lit_int _ | exact lit_bl _ | exact lit_non | exact lit_neg _ | exact lit_str (by decide +kernel) | exact lit_var rfl (by assumption) | refine lit_tup ?_ | refine lit_lst (by assumption) ?_ | refine lit_cat (by assumption) ?_ ?_)) (lit_cons (lit_tup (lit_cons (lit_tup (lit_cons (by repeat' (first | assumption | exact lit_nil | apply lit_cons | exact lit_int _ | exact lit_bl _ | exact lit_non | exact lit_neg _ | exact lit_str (by decide +kernel) | exact lit_var rfl (by assumption) | refine lit_tup ?_ | refine lit_lst (by assumption) ?_ | refine lit_cat (by assumption) ?_ ?_)) (lit_cons Lx (lit_cons (lit_tup (lit_cons (by repeat' (first | assumption | exact lit_nil | apply lit_cons | exact lit_int _ | exact lit_bl _ | exact lit_non | exact lit_neg _ | exact lit_str (by decide +kernel) | exact lit_var rfl (by assumption) | refine lit_tup ?_ | refine lit_lst (by assumption) ?_ | refine lit_cat (by assumption) ?_ ?_)) (lit_cons Lx lit_nil))) (lit_cons (by repeat' (first | assumption | exact lit_nil | apply lit_cons | exact lit_int _ | exact lit_bl _ | exact lit_non | exact lit_neg _ | exact lit_str (by decide +kernel) | exact lit_var rfl (by assumption) | refine lit_tup ?_ | refine lit_lst (by assumption) ?_ | refine lit_cat (by assumption) ?_ ?_)) lit_nil))))) lit_nil)) lit_nil))) fun vf Hf sf df => ?_
        exact ⟨_, vf, _, rfl, A7.same sf, B7.same sf, da.stay (Sty.same sf), df, _, _, _, rfl, dp⟩
      · rintro σ H7 ⟨v8, ve, de, rfl, A7, B7, da, g7, dp⟩
        have dm7 := domM hM B7 A7
        obtain ⟨x, e, d', rfl, dp'⟩ := dp
        have Li : LitT K (h :: c :: M) [some (.ref h), some vb, some v2, some v3, some va, v7, some ve, v8] H7 (tOp (rIxT K) (tOp (rIxT K) (tVar 6) (tC (.int 1))) (tC (.int 0))) (.tuple [.str "lap", x, e, d']) := lit_ix (k := 0) (lit_ix (k := 1) (lit_var rfl g7) (Nat.le_of_ble_eq_true rfl)) (Nat.le_of_ble_eq_true rfl)
        dsimp only
        refine lit_ret (K := K) (N := (h :: c :: M)) (d := .list (badS1 b ++ badS2 ++ badS3 ++ badS4 ++ [.tuple [.str "lap", x, e, d']])) (by
          refine lit_cat dm7 (lit_var rfl da) (lit_lst dm7 (lit_cons Li lit_nil)) ?_
          first | decide | exact Nat.le_of_ble_eq_true rfl) fun v8 H8 s8 d8 => ?_
        have A8 := A7.same s8
        obtain ⟨a4, xs4, e4, l4⟩ : ∃ a xs, va = .ref a ∧ SqL K H8 a xs ∧ xs.length = 22 := by
          have z := da.stay (Sty.same s8)
          cases z with
          | lst e n ad => exact ⟨_, _, rfl, SqL.of e, ad.len⟩
        subst e4
        refine ⟨_, rfl, _, rfl, a4, xs4, rfl, .inl l4.1, _, 1, rfl, rfl, h, c, _, _, 23, _, by rw [l4.2]; rfl, by decide, by decide, A8, fun s9 k9 cs9 r H9 r0 r2 A9 B9 => ?_⟩
        have st := B9.sty (M := M) A8
        obtain ⟨a, xs, u, rfl, q1, q2, q3, q4⟩ := dq_pick (d8.stay st) r0 r2
        refine ⟨a, xs, r, u, rfl, rfl, q1, q2, q _ _ _ u _ _ A9 ((B7.same s8).trans B9) q3 ?_⟩
        simp only [List.mem_append, List.mem_singleton] at q4
        rcases q4 with (((z | z) | z) | z) | z
        · exact badS1_bad hb z
        · exact badS2_bad z
        · exact badS3_bad z
        · exact badS4_bad z
        · rw [z]
          exact bad_lap (.inr (.inr fun l left hl => deep_bad dp' hl))
end
section
variable {P : Program} {w : World} {K : PySem.W.Frag} {mg : Str → Option Value} {base : Heap} {C : Addr}
def spSpoilt (K : PySem.W.Frag) : Sp := fun vs H Q _ => ∃ (h c p l : Addr) (s k : Int) (cs : List Int) (ns : List Str) (ds : List PyData) (M : List Addr), vs = [.ref h, .ref p, .ref l] ∧ HAt H h c s k cs ∧ (∀ n ∈ M, H n ≠ none) ∧ Dq K (h :: c :: M) H (.ref p) (.tuple [.str "row", .tuple ds]) ∧ ds.length ≤ 50 ∧ H l = some (.lst (ns.map V.str)) ∧ l ≠ h ∧ l ≠ c ∧ NamesOk ns ∧
  ∀ (s' k' : Int) (cs' : List Int) (v : V) (d : PyData) (H' : Hp), HAt H' h c s' k' cs' → But h c H H' → Dq K (h :: c :: M) H' v d → isProg d = false → Q v H'
theorem ok_law_spoilt {f : Addr} {fd : FuncData} (T : Txt K mg C) (F : DefAt K mg "_law_spoilt" "_law_spoilt" s_law_spoilt ["_law_h", "_law_program_here", "_law_names_here"] f fd) : FnOk P w K mg base CX0 4 f fd ["_law_h", "_law_program_here", "_law_names_here"] (spSpoilt K) := by
  obtain ⟨f1, fd1, D_law_next⟩ := T.d_law_next
  have G_law_next : FnOk P w K mg base CX0 1 f1 fd1 ["_law_h", "_law_many"] spNext := ok_law_next T D_law_next
  obtain ⟨f2, fd2, D_law_bad⟩ := T.d_law_bad
  have G_law_bad : FnOk P w K mg base CX0 3 f2 fd2 ["_law_h"] (spBad K) := ok_law_bad T D_law_bad
  refine F.F.ok sc_law_spoilt (fun vs H Q E h => ?_) (fun cdv A outer s H vs Q E hr h => ?_)
  · obtain ⟨h, c, p, l, s, k, cs, ns, ds, M, rfl, _⟩ := h
    rfl
  · obtain ⟨h, c, p, l, z, k, cs, ns, ds, M, rfl, A, hM, dp, l50, el, nlh, nlc, no, q⟩ := h
    refine ⟨_, (pss_cons (ps_set (i := 3) sc_law_spoilt.nd rfl (.inl rfl) (pe_call G_law_next (hr.mono (by decide)) (by rfl) D_law_next.g D_law_next.F.kp D_law_next.b .nil pass0 (pa_cons (pv 0) (pa_cons (pe_op op_add (pe_callB (call_lenK (K := K) rfl) (by rfl) T.m_len (by decide +kernel) (pa_cons (pe_ix (ix_tupK (K := K) rfl) (pv 1) pe_int (fun _ _ => rfl)) pa_nil)) pe_int) pa_nil))))
      (pss_cons (ps_set (i := 4) sc_law_spoilt.nd rfl (.inl rfl) (pe_call G_law_bad (hr.mono (by decide)) (by rfl) D_law_bad.g D_law_bad.F.kp D_law_bad.b .nil pass0 (pa_cons (pv 0) pa_nil)))
      (pss_cons (ps_if (pt_cmpR op_eq (pe_call G_law_next (hr.mono (by decide)) (by rfl) D_law_next.g D_law_next.F.kp D_law_next.b .nil pass0 (pa_cons (pv 0) (pa_cons pe_int pa_nil))) pe_int (nomark _)) (pss_one (ps_set (i := 4) sc_law_spoilt.nd rfl (.inl rfl) (pe_tup (pa_cons pe_str (pa_cons (pe_ix (ix_listK (K := K) rfl) (pv 2) pe_int (fun _ _ => rfl)) (pa_cons (pe_tup (pa_cons pe_str (pa_cons (pe_ix (ix_listK (K := K) rfl) (pv 2) pe_int (fun _ _ => rfl)) pa_nil))) (pa_cons (pe_tup (pa_cons pe_str (pa_cons (pe_tup (pa_cons (pe_tup (pa_cons pe_str (pa_cons (pe_tup (pa_cons pe_str (pa_cons pe_int pa_nil))) pa_nil))) (pa_cons (pv 4) pa_nil))) pa_nil))) pa_nil))))))) pss_nil)
      (pss_one (ps_ret (pe_tup (pa_cons pe_str (pa_cons (pe_op (op_catU (K := K) rfl) (pe_op (op_catU (K := K) rfl) (pe_slice (sl_tupU (K := K) rfl) (pe_ix (ix_tupK (K := K) rfl) (pv 1) pe_int (fun _ _ => rfl)) po_none (po_some (pv 3))) (pe_tup (pa_cons (pv 4) pa_nil))) (pe_slice (sl_tupU (K := K) rfl) (pe_ix (ix_tupK (K := K) rfl) (pv 1) pe_int (fun _ _ => rfl)) (po_some (pv 3)) po_none)) pa_nil)))))))), ?_⟩
    obtain ⟨qt, xs, ed, st, ads⟩ : ∃ (q : Addr) (xs : List V), (∃ ys, SqT K H p ys ∧ atI ys 1 = some (.ref q)) ∧ SqT K H q xs ∧ DqAll K (h :: c :: M) H xs ds := by
      cases dp with
      | tup sp ad =>
        cases ad with
        | cons a1 r1 =>
          cases r1 with
          | cons a2 r2 =>
            cases a2 with
            | tup st2 ad2 => exact ⟨_, _, ⟨_, sp, atI_nat (j := 1) rfl⟩, st2, ad2⟩
    obtain ⟨ys, sp, a1⟩ := ed
    refine ⟨_, rfl, _, rfl, p, ys, 1, _, rfl, rfl, sp, a1, qt, xs, rfl, .inr st, _, 1, rfl, rfl, h, c, z, k, ((xs.length : Nat) : Int) + 1, cs, rfl, by omega, by rw [ads.len]; omega, A, fun s2 k2 cs2 r H2 r0 r2 A2 B2 => gName_go ?_⟩
    rw [ads.len] at r2
    have sy2 := B2.sty (M := M) A
    obtain ⟨n, rfl⟩ : ∃ n : Nat, r = (n : Int) := ⟨r.toNat, by omega⟩
    refine ⟨_, rfl, h, c, _, _, _, M, rfl, A2, (fun n m => domM hM B2 A2 n (by simp [m])), fun s3 k3 cs3 vb b H3 A3 B3 db hb => gName_go ?_⟩
    have sy3 := B3.sty (M := M) A2
    have dp3 := (dp.stay sy2).stay sy3
    have el3 := B3 _ _ (B2 _ _ el nlh nlc) nlh nlc
    have B03 := B2.trans B3
    dsimp only
    have fin : ∀ (vb : V) (b : PyData) (H4 : Hp) (s4 k4 : Int) (cs4 : List Int), HAt H4 h c s4 k4 cs4 → But h c H H4 → Dq K (h :: c :: M) H4 vb b → BadSt b → Dq K (h :: c :: M) H4 (.ref p) (.tuple [.str "row", .tuple ds]) → ∀ D : Ends, D.rt = Q →
        tRet (tTup (tCons (tC (V.str "row")) (tCons (tOp (rCatU K) (tOp (rCatU K) (tSl (rSlU K) (tOp (rIxT K) (tVar 1) (tC (V.int 1))) tNoPart (tPart (tVar 3))) (tTup (tCons (tVar 4) tNil))) (tSl (rSlU K) (tOp (rIxT K) (tVar 1) (tC (V.int 1))) (tPart (tVar 3)) tNoPart)) tNil))) D [some (.ref h), some (.ref p), some (.ref l), some (.int (n : Nat)), some vb] H4 := fun vb b H4 s4 k4 cs4 A4 B4 db hb dp4 D eD => by
      have L1 : LitT K (h :: c :: M) [some (.ref h), some (.ref p), some (.ref l), some (.int (n : Nat)), some vb] H4 (tOp (rIxT K) (tVar 1) (tC (V.int 1))) (.tuple ds) := lit_ix (k := 1) (lit_var rfl dp4) (Nat.le_of_ble_eq_true rfl)
      refine lit_retT (K := K) (N := (h :: c :: M)) (d := .tuple [.str "row", .tuple (ds.take n ++ [b] ++ ds.drop n)]) (lit_tup (lit_cons (by repeat' (first | assumption | exact lit_nil | apply lit_cons | exact lit_int _ | exact lit_bl _ | exact lit_non | exact lit_neg _ | exact lit_str (by decide +kernel) | exact lit_var rfl (by assumption) | refine lit_tup ?_ | refine lit_lst (by assumption) ?_ | refine lit_cat (by assumption) ?_ ?_)) (lit_cons (lit_catU (lit_catU (lit_take L1 fun H Q q => ⟨_, rfl, _, rfl, q⟩) (lit_tup (lit_cons (lit_var rfl db) lit_nil)) ?_) (lit_drop L1 fun H Q q => ⟨_, rfl, _, rfl, q⟩) ?_) lit_nil))) fun v H5 s5 d5 => ?_
      · rw [List.length_take]
        show _ + 1 ≤ _
        omega
      · rw [List.length_append, List.length_take, List.length_drop]
        show _ + 1 + _ ≤ _
        omega
      · rw [eD]
        refine q _ _ _ v _ _ (A4.same s5) (B4.same s5) d5 ?_
        rw [List.append_assoc]
        exact bad_prog hb
    refine ⟨_, rfl, h, c, _, _, 3, _, rfl, by decide, by decide, A3, fun s4 k4 cs4 r H4 r0 r2 A4 B4 => ⟨rfl, _, rfl, ite2 (fun e => ?_) (fun e => ?_)⟩⟩
    · have sy4 := B4.sty (M := M) A3
      have el4 := B4 _ _ el3 nlh nlc
      obtain ⟨x0, e0⟩ : ∃ x, ns[0]? = some x := by
        cases ns with
        | nil => exact absurd no.len (by decide)
        | cons x r => exact ⟨x, rfl⟩
      have m0 : x0 ∈ ns := List.mem_of_getElem? e0
      have db4 := db.stay sy4
      have L0 : LitT K (h :: c :: M) [some (.ref h), some (.ref p), some (.ref l), some (.int (n : Nat)), some vb] H4 (tOp (rIxL K) (tVar 2) (tC (.int 0))) (.str x0) := lit_nm (k := 0) rfl el4 e0 (no.txt m0)
      refine lit_asg (K := K) (N := (h :: c :: M)) (d := .tuple [.str "lap", .str x0, .tuple [.str "name", .str x0], .tuple [.str "row", .tuple ([.tuple [.str "say", .tuple [.str "num", .int 1]]] ++ [b])]]) (by
        refine lit_tup (lit_cons (by repeat' (first | assumption | exact lit_nil | apply lit_cons | exact lit_int _ | exact lit_bl _ | exact lit_non | exact lit_neg _ | exact lit_str (by decide +kernel) | exact lit_var rfl (by assumption) | refine lit_tup ?_ | refine lit_lst (by assumption) ?_ | refine lit_cat (by assumption) ?_ ?_)) (lit_cons L0 (lit_cons (lit_tup (lit_cons (by repeat' (first | assumption | exact lit_nil | apply lit_cons | exact lit_int _ | exact lit_bl _ | exact lit_non | exact lit_neg _ | exact lit_str (by decide +kernel) | exact lit_var rfl (by assumption) | refine lit_tup ?_ | refine lit_lst (by assumption) ?_ | refine lit_cat (by assumption) ?_ ?_)) (lit_cons L0 lit_nil))) (lit_cons (lit_tup (lit_cons (by repeat' (first | assumption | exact lit_nil | apply lit_cons | exact lit_int _ | exact lit_bl _ | exact lit_non | exact lit_neg _ | exact lit_str (by decide +kernel) | exact lit_var rfl (by assumption) | refine lit_tup ?_ | refine lit_lst (by assumption) ?_ | refine lit_cat (by assumption) ?_ ?_)) (lit_cons (lit_tup (lit_cons (by repeat' (first | assumption | exact lit_nil | apply lit_cons | exact lit_int _ | exact lit_bl _ | exact lit_non | exact lit_neg _ | exact lit_str (by decide +kernel) | exact lit_var rfl (by assumption) | refine lit_tup ?_ | refine lit_lst (by assumption) ?_ | refine lit_cat (by assumption) ?_ ?_)) (lit_cons (lit_var rfl db4) lit_nil))) lit_nil))) lit_nil))))) fun vf Hf sf df => ?_
      exact fin vf _ Hf _ _ _ (A4.same sf) ((B03.trans B4).same sf) df (bad_within hb) ((dp3.stay sy4).stay (Sty.same sf)) _ rfl
    · exact fin vb b H4 _ _ _ A4 (B03.trans B4) (db.stay (B4.sty A3)) hb (dp3.stay (B4.sty A3)) _ rfl
end
/-! ### BadForm, told by its class -/
theorem exm_two {K : PySem.W.Frag} {S L : Addr} (h1 : PySem.W.subIn K (.ref L) (.type "BaseException") = some true) (h2 : PySem.W.hasDictIn K L = true) (h3 : PySem.W.typeIn K (.ref L) = some (.type "type")) (h4 : PySem.W.subIn K (.ref S) (.ref L) = some true) :
    PySem.W.exmOne K (.ref S) (.ref L) = some true := by
  have h2' : (PySem.W.clsIn K L).isSome = true := by
    unfold PySem.W.hasDictIn at h2
    cases e : PySem.W.clsIn K L with
    | none =>
      rw [e] at h2
      cases h2
    | some _ => rfl
  have e1 : (PySem.W.subIn K (.ref L) (.type "BaseException") == some true) = true := by rw [h1] <;> rfl
  have e2 : ((PySem.W.clsIn K L).isSome && PySem.W.typeIn K (.ref L) == some (.type "type")) = true := by
    rw [h2', h3] <;> rfl
  show (if (PySem.W.subIn K (.ref L) (.type "BaseException") == some true) = true then (if ((PySem.W.clsIn K L).isSome && PySem.W.typeIn K (.ref L) == some (.type "type")) = true then PySem.W.subIn K (.ref S) (.ref L) else none) else none) = some true
  rw [if_pos e1, if_pos e2]
  exact h4
def rIsE2 (K : PySem.W.Frag) (D a : Addr) (cls : Value) (d : Option Addr) : List V → Hp → VK → Prop := fun xs H Q => cls = .ref D ∧ d = none ∧ rIsE K D a xs H Q
theorem call_isE2 {X : Cx} {a D : Addr} {oe : Obj} {pn : List (Addr × Obj)} {cls : Value} {d : Option Addr} (C : ExcC X.K D) (hz : Zc cls d oe) (hf : ∃ vs, oe.data = .fields vs) : CallR (X.suite a ((a, oe) :: pn)) (.builtin "isinstance") (rIsE2 X.K D a cls d) := by
  intro pins s σ H xs us Q I r h
  obtain ⟨rfl, rfl, h⟩ := h
  exact call_isE C hz hf pins s σ H xs us Q I r h
theorem pss_stop {X : Cx} {st : Stmt} {rest : List Stmt} {t : TS} (h1 : PS X st t) : PSs X (st :: rest) (fun D σ H => t { D with nx := fun _ _ => False } σ H) := by
  refine ⟨fun pins s σ H D I h => ?_⟩
  refine wpAny_execs_cons (thn (h1.run pins s σ H { D with nx := fun _ _ => False } I h) fun f s1 q => ?_)
  cases f with
  | next =>
    obtain ⟨σ', H', I', q⟩ := q
    exact q.elim
  | ret v => exact q
  | brk => exact q
  | cont => exact q
section
variable {P : Program} {w : World} {K : PySem.W.Frag} {mg : Str → Option Value} {base : Heap} {C : Addr}
def spNoProg (K : PySem.W.Frag) (B : Addr) : Sp := fun vs H Q E => ∃ (v : V) (N : List Addr) (d : PyData), vs = [v] ∧ Dq K N H v d ∧ isProg d = false ∧ (∀ H', Same H H' → E (.ref B) none H')
theorem ok_looked_not {Lp B D N U : Addr} (X : ExTxt K mg Lp B D N U) {f : Addr} {fd : FuncData} (T : Txt K mg C) (F : DefAt K mg "looked" "looked" s_looked ["program"] f fd) : FnOk P w K mg base (L2.CX P w) 17 f fd ["program"] (spNoProg K B) := by
  obtain ⟨f1, fd1, D_need_program⟩ := T.d_need_program
  have G_need_program : FnOk P w K mg base (L2.CX P w) 16 f1 fd1 ["program"] (spProgram K B) := ok_need_program X T D_need_program
  refine F.F.okX sc_looked (fun vs H Q E h => ?_) (fun cdv A outer z H vs Q E hr h => ?_)
  · obtain ⟨v, N, d, rfl, _⟩ := h
    rfl
  · obtain ⟨v, N, d, rfl, hd, nd, qe⟩ := h
    refine ⟨_, pss_stop (ps_expr (pe_callS G_need_program (hr.mono (by decide)) (by rfl) D_need_program.g D_need_program.F.kp D_need_program.b (fun σ => passAt (takes_of rfl rfl rfl rfl) σ) (pa_cons (pv 0) pa_nil))), ?_⟩
    exact ⟨_, rfl, v, N, d, rfl, hd, fun e => absurd (nd.symm.trans e) (by decide), fun _ H' s => qe H' s⟩
theorem ok_written_not {Lp B D N U : Addr} (X : ExTxt K mg Lp B D N U) {f : Addr} {fd : FuncData} (T : Txt K mg C) (F : DefAt K mg "written" "written" s_written ["program"] f fd) : FnOk P w K mg base (L2.CX P w) 18 f fd ["program"] (spNoProg K B) := by
  obtain ⟨f1, fd1, D_looked⟩ := T.d_looked
  have G_looked : FnOk P w K mg base (L2.CX P w) 17 f1 fd1 ["program"] (spNoProg K B) := ok_looked_not X T D_looked
  refine F.F.okX sc_written (fun vs H Q E h => ?_) (fun cdv A outer z H vs Q E hr h => ?_)
  · obtain ⟨v, N, d, rfl, _⟩ := h
    rfl
  · obtain ⟨v, N, d, rfl, hd, nd, qe⟩ := h
    refine ⟨_, pss_stop (ps_expr (pe_callS G_looked (hr.mono (by decide)) (by rfl) D_looked.g D_looked.F.kp D_looked.b (fun σ => passAt (takes_of rfl rfl rfl rfl) σ) (pa_cons (pv 0) pa_nil))), ?_⟩
    exact ⟨_, rfl, v, N, d, rfl, hd, nd, fun H' s => qe H' s⟩
def spRefused (K : PySem.W.Frag) : Sp := fun vs H Q _ => ∃ (way : Int) (v : V) (N : List Addr) (d : PyData), vs = [.int way, v] ∧ Dq K N H v d ∧ isProg d = false ∧ ∀ H', Same H H' → Q (.bl true) H'
theorem ok_law_refused {f : Addr} {fd : FuncData} (T : Txt K mg C) (F : DefAt K mg "_law_refused" "_law_refused" s_law_refused ["_law_way", "_law_program_here"] f fd) : FnOk P w K mg base CX0 20 f fd ["_law_way", "_law_program_here"] (spRefused K) := by
  obtain ⟨Lp, B, D, N, U, X⟩ := T.ex
  obtain ⟨f1, fd1, D_need_program⟩ := T.d_need_program
  have G_need_program : FnOk P w K mg base (L2.CX P w) 16 f1 fd1 ["program"] (spProgram K B) := ok_need_program X T D_need_program
  obtain ⟨f2, fd2, D_looked⟩ := T.d_looked
  have G_looked : FnOk P w K mg base (L2.CX P w) 17 f2 fd2 ["program"] (spNoProg K B) := ok_looked_not X T D_looked
  obtain ⟨f3, fd3, D_written⟩ := T.d_written
  have G_written : FnOk P w K mg base (L2.CX P w) 18 f3 fd3 ["program"] (spNoProg K B) := ok_written_not X T D_written
  have EC : ExcC K B := ⟨X.hgB, X.hkB, X.bB, X.hdB, X.haB, X.hnB, X.htB, X.hmB⟩
  refine F.F.ok sc_law_refused (fun vs H Q E h => ?_) (fun cdv A outer z H vs Q E hr h => ?_)
  · obtain ⟨way, v, N, d, rfl, _⟩ := h
    rfl
  · obtain ⟨way, v, N2, d, rfl, hd, nd, q⟩ := h
    have hr1 : Room 16 _ := hr.mono (by decide)
    have hr2 : Room 17 _ := hr.mono (by decide)
    have hr3 : Room 18 _ := hr.mono (by decide)
    refine ⟨_, pss_cons (ps_try_as (i := 2) (Wout := fun _ _ _ _ => False) rfl rfl sc_law_refused.nd rfl rfl ⟨rfl, by decide, .inl X.gL⟩ takes0
        (fun W pn xe tk _ => pss_one (ps_if (pt_cmpR op_eq (pv 0) pe_int (nomark _)) (pss_one (ps_expr (pe_callS G_need_program hr1 (by rfl) D_need_program.g D_need_program.F.kp D_need_program.b (fun σ => passAt tk σ) (pa_cons (pv 1) pa_nil))))
          (pss_one (ps_if (pt_cmpR op_eq (pv 0) pe_int (nomark _)) (pss_one (ps_expr (pe_callS G_looked hr2 (by rfl) D_looked.g D_looked.F.kp D_looked.b (fun σ => passAt tk σ) (pa_cons (pv 1) pa_nil))))
            (pss_one (ps_expr (pe_callS G_written hr3 (by rfl) D_written.g D_written.F.kp D_written.b (fun σ => passAt tk σ) (pa_cons (pv 1) pa_nil))))))))
        (fun a oe cls d pn hz hf => pss_cons (ps_if (PW.pt (pw_or (pt_val (pe_callB (call_isE2 (cls := cls) (d := d) EC hz hf) (by rfl) T.m_isinstance (by decide +kernel) (pa_cons (pv 2) (pa_cons (pe_glob (v := .ref D) rfl X.gD rfl) pa_nil)))) (pw_or (pt_val (pe_callB (call_isE2 (cls := cls) (d := d) EC hz hf) (by rfl) T.m_isinstance (by decide +kernel) (pa_cons (pv 2) (pa_cons (pe_glob (v := .ref N) rfl X.gN rfl) pa_nil)))) (pw_or1 (pt_val (pe_callB (call_isE2 (cls := cls) (d := d) EC hz hf) (by rfl) T.m_isinstance (by decide +kernel) (pa_cons (pv 2) (pa_cons (pe_glob (v := .ref U) rfl X.gU rfl) pa_nil)))))))) (pss_one (ps_ret pe_bl)) pss_nil)
          (pss_one (ps_ret (pe_and (pe_callB (call_isE2 (cls := cls) (d := d) EC hz hf) (by rfl) T.m_isinstance (by decide +kernel) (pa_cons (pv 2) (pa_cons (pe_glob (v := .ref B) rfl X.gB rfl) pa_nil))) (pe_one (pe_callB (call_isE2 (cls := cls) (d := d) EC hz hf) (by rfl) T.m_isinstance (by decide +kernel) (pa_cons (pv 2) (pa_cons (pe_bltn (v := .ty "ValueError") (by rfl) T.m_ValueError (by decide +kernel) rfl) pa_nil)))))))))
      (pss_one (ps_ret pe_bl)), ?_⟩
    have kit : ∀ {a S : Addr} {b : Bool} {H : Hp} {Q : VK}, PySem.W.kitOne K (.ref B) (.ref S) = some b → Q (.bl b) H → rIsE2 K B a (.ref B) none [.ref a, .ref S] H Q := fun {a S b H Q} e q => ⟨rfl, rfl, .ref S, .ref S, b, rfl, fun u hu => hu, e, q⟩
    refine ⟨_, rfl, rfl, _, rfl, ite2 (fun e => ⟨_, rfl, v, N2, d, rfl, hd, fun e => absurd (nd.symm.trans e) (by decide), fun _ H' s1 => ?_⟩) (fun e => ⟨_, rfl, rfl, _, rfl, ite2 (fun e2 => ⟨_, rfl, v, N2, d, rfl, hd, nd, fun H' s1 => ?_⟩) (fun e2 => ⟨_, rfl, v, N2, d, rfl, hd, nd, fun H' s1 => ?_⟩)⟩)⟩
    all_goals
      refine ⟨true, exm_two X.bL X.hL X.tL X.sBL, fun _ a ha => ?_, fun z => (nomatch z)⟩
      refine ⟨_, rfl, kit X.iBD ⟨_, rfl, ite2 (fun c => absurd c (by decide)) (fun _ => ?_)⟩⟩
      refine ⟨_, rfl, kit X.iBN ⟨_, rfl, ite2 (fun c => absurd c (by decide)) (fun _ => ?_)⟩⟩
      refine ⟨_, rfl, kit X.iBU ⟨_, rfl, ite2 (fun c => absurd c (by decide)) (fun _ => ?_)⟩⟩
      refine ⟨_, rfl, kit X.iBB ⟨_, rfl, ite2 (fun _ => ?_) (fun c => absurd (by decide) c)⟩⟩
      refine ⟨_, rfl, rfl, rfl, .ty "ValueError", .type "ValueError", true, rfl, fun u hu => ?_, X.iBV, ?_⟩
      · exact hu
      · exact q H' s1
end
/-! ### the law -/
mutual
theorem Dq.sub {K : PySem.W.Frag} {N N' : List Addr} {H : Hp} (s : ∀ n ∈ N, n ∈ N') : ∀ {d : PyData} {v : V}, Dq K N' H v d → Dq K N H v d
  | .none, _, h => by cases h; exact .non
  | .bool _, _, h => by cases h; exact .bl _
  | .int _, _, h => by cases h; exact .int _
  | .str _, _, h => by cases h with | str q l => exact .str q l
  | .list _, _, h => by cases h with | lst a n q => exact .lst a (fun m => n (s _ m)) (DqAll.sub s q)
  | .tuple _, _, h => by cases h with | tup a q => exact .tup a (DqAll.sub s q)
  | .dict _, _, h => by cases h
theorem DqAll.sub {K : PySem.W.Frag} {N N' : List Addr} {H : Hp} (s : ∀ n ∈ N, n ∈ N') : ∀ {ds : List PyData} {vs : List V}, DqAll K N' H vs ds → DqAll K N H vs ds
  | [], _, h => by cases h; exact .nil
  | _ :: _, _, h => by cases h with | cons a b => exact .cons (Dq.sub s a) (DqAll.sub s b)
end
theorem dR_len : ∀ r : Rw, (dR r).length = lenR r
  | .nil => rfl
  | .set _ _ r => by show (dR r).length + 1 = lenR r + 1; rw [dR_len r]
  | .say _ r => by show (dR r).length + 1 = lenR r + 1; rw [dR_len r]
  | .lap _ _ _ r => by show (dR r).length + 1 = lenR r + 1; rw [dR_len r]
theorem DqAll.rep {K : PySem.W.Frag} {N : List Addr} {H : Hp} {v : V} {d : PyData} (h : Dq K N H v d) : ∀ n, DqAll K N H (List.replicate n v) (List.replicate n d)
  | 0 => .nil
  | n + 1 => .cons h (DqAll.rep h n)
def sayD : PyData := .tuple [.str "say", .tuple [.str "num", .int 1]]
def rowD (ds : List PyData) : PyData := .tuple [.str "row", .tuple ds]
def lapD : PyData := .tuple [.str "lap", .str "a", gA, rowD (List.replicate 20 sayD)]
def oddP : List PyData := [.tuple [], .int 5, .none, .tuple [.str "row"], .tuple [.str "row", .list []], .list [.str "row", .tuple []], .tuple [.str "lap", .tuple []], .tuple [.str "row", .tuple [], .tuple []]]
theorem oddP_bad : ∀ d ∈ oddP, isProg d = false := by decide +kernel
theorem long_bad : isProg (rowD (List.replicate 40 sayD ++ [sayD])) = false := by decide +kernel
theorem laps_bad : isProg (rowD [lapD, lapD]) = false := by decide +kernel
theorem long_ok : isProg (rowD (List.replicate 40 sayD)) = true := by decide +kernel
theorem none_ok : isProg (rowD []) = true := by decide +kernel
theorem deep_ok {x d : PyData} (hx : nameOk x = true) (hd : exOk 5 d = true) : isProg (rowD [.tuple [.str "say", d], .tuple [.str "lap", x, d, rowD []]]) = true := by
  have e : innerF 3 38 (rowD []) = some 38 := by
    show needRow 2 38 (.tuple [.str "row", .tuple []]) = _
    rw [needRow_row]
    rfl
  show (needRow 3 40 (.tuple [.str "row", .tuple _])).isSome = true
  rw [needRow_row, needSts_cons (by rw [needSt_say, if_pos hd]), needSts_cons (by rw [needSt_lap, if_pos ⟨hx, hd⟩]; exact e)]
  rfl
theorem lit_rep {X K : PySem.W.Frag} (eX : X = K) {N : List Addr} {σ : L2.St} {H0 : Hp} {s : L2.TE} {d : PyData} {n : Nat} (a : LitT K N σ H0 s (.tuple [d])) (h2 : 2 ≤ n) (h3 : n ≤ 1000) : LitT K N σ H0 (tOp (rRepT X) s (tC (.int (n : Nat)))) (.tuple (List.replicate n d)) := fun H Q s q =>
  a H _ s fun v H1 s1 h1 => by
    subst eX
    cases h1 with
    | tup st ad =>
      cases ad with
      | @cons v1 _ _ _ a1 an =>
        cases an
        refine ⟨_, _, _, rfl, rfl, st, List.cons_ne_nil _ _, by omega, by omega, by show 1 ≤ 1000; decide, fun p np => ?_⟩
        have e : (List.replicate ((n : Nat) : Int).toNat [v1]).flatten = List.replicate n v1 := by
          rw [Int.toNat_natCast]
          simp
        rw [e]
        have u := same_upd (o := .tup (List.replicate n v1)) np
        exact q _ _ (s1.trans u) (.tup (SqT.of upd_same) (DqAll.rep (a1.stay (Sty.same u)) n))
theorem lit_setop {K : PySem.W.Frag} {N : List Addr} {σ : L2.St} {H : Hp} {t t2 : L2.TE} {r : R2} {d : PyData} {g : TG} {u : TS} {D : Ends} (L : LitT K N σ H t d) (k : ∀ v H', Same H H' → Dq K N H' v d → t2 σ H' fun y H2 => r v y H2 fun x H3 => g x σ H3 (u D)) : tSeq (tAsg (tOp r t t2) g) u D σ H := L H _ (Same.refl _) k
theorem lit_ifS {K : PySem.W.Frag} {N : List Addr} {σ : L2.St} {H : Hp} {t : L2.TE} {sp : Sp} {E : L2.St → XK} {d : PyData} {a b u : TS} {D : Ends} (L : LitT K N σ H t d) (k : ∀ v H', Same H H' → Dq K N H' v d → tSeq (tIfS (tB (tNotN (tCallS sp E (tCons (tC v) tNil)))) a b) u D σ H') : tSeq (tIfS (tB (tNotN (tCallS sp E (tCons t tNil)))) a b) u D σ H := L H _ (Same.refl _) k
theorem lit_andN {K : PySem.W.Frag} {N : List Addr} {σ : L2.St} {H : Hp} {t r : L2.TE} {sp : Sp} {E : L2.St → XK} {d : PyData} {D : Ends} (L : LitT K N σ H t d) (k : ∀ v H', Same H H' → Dq K N H' v d → tRet (tAndV (tIsN (tCallS sp E (tCons (tC v) tNil))) r) D σ H') : tRet (tAndV (tIsN (tCallS sp E (tCons t tNil))) r) D σ H := L H _ (Same.refl _) k
theorem nx_go {D : Ends} {σ : L2.St} {H : Hp} (h : D.nx σ H) : tNext D σ H := h
section
variable {P : Program} {w : World} {K : PySem.W.Frag} {mg : Str → Option Value} {base : Heap} {C : Addr}
def spLaw (K : PySem.W.Frag) : Sp := fun vs H Q _ => ∃ (a : Addr) (ns : List Int), vs = [.ref a] ∧ SqL K H a (ns.map V.int) ∧ ns.length ≤ 63 ∧ ∀ H', Q (.bl true) H'
set_option maxHeartbeats 4000000 in
theorem ok_law {f : Addr} {fd : FuncData} (T : Txt K mg C) (FF : DefAt K mg "law" "law" s_law ["_law_script"] f fd) : FnOk P w K mg base CX0 90 f fd ["_law_script"] (spLaw K) := by
  obtain ⟨Lp, B, D, N, U, X⟩ := id T.ex
  obtain ⟨f0, fd0, D_law_names⟩ := T.d_law_names
  have G_law_names : FnOk P w K mg base CX0 2 f0 fd0 ["_law_h"] (spNames K) := ok_law_names T D_law_names
  obtain ⟨f1, fd1, D_law_program⟩ := T.d_law_program
  have G_law_program : FnOk P w K mg base CX0 13 f1 fd1 ["_law_h", "_law_names_here", "_law_odd"] (spProg K) := ok_law_program T D_law_program
  obtain ⟨f2, fd2, D_law_spoilt⟩ := T.d_law_spoilt
  have G_law_spoilt : FnOk P w K mg base CX0 4 f2 fd2 ["_law_h", "_law_program_here", "_law_names_here"] (spSpoilt K) := ok_law_spoilt T D_law_spoilt
  obtain ⟨f3, fd3, D_law_refused⟩ := T.d_law_refused
  have G_law_refused : FnOk P w K mg base CX0 20 f3 fd3 ["_law_way", "_law_program_here"] (spRefused K) := ok_law_refused T D_law_refused
  obtain ⟨f5, fd5, D_need_program⟩ := T.d_need_program
  have G_need_program : FnOk P w K mg base (L2.CX P w) 16 f5 fd5 ["program"] (spProgram K B) := ok_need_program X T D_need_program
  obtain ⟨f6, fd6, D_law_next⟩ := T.d_law_next
  have G_law_next : FnOk P w K mg base CX0 1 f6 fd6 ["_law_h", "_law_many"] spNext := ok_law_next T D_law_next
  refine FF.F.ok sc_law (fun vs H Q E h => ?_) (fun cdv A outer s H vs Q E hr h => ?_)
  · obtain ⟨a, ns, rfl, _⟩ := h
    rfl
  · obtain ⟨a0, ns, rfl, hS, hlen, q⟩ := h
    refine ⟨_, (pss_cons (ps_set (i := 1) sc_law.nd rfl (.inr rfl) (pe_lst (pa_cons pe_int (pa_cons (pe_callTy call_list_of (by rfl) T.m_list (by decide +kernel) (pa_cons (pv 0) pa_nil)) (pa_cons pe_int pa_nil)))))
      (pss_cons (ps_set (i := 2) sc_law.nd rfl (.inr rfl) (pe_call G_law_names (hr.mono (by decide)) (by rfl) D_law_names.g D_law_names.F.kp D_law_names.b .nil pass0 (pa_cons (pv 1) pa_nil)))
      (pss_cons (ps_set (i := 3) sc_law.nd rfl (.inr rfl) (pe_call G_law_program (hr.mono (by decide)) (by rfl) D_law_program.g D_law_program.F.kp D_law_program.b .nil pass0 (pa_cons (pv 1) (pa_cons (pv 2) (pa_cons pe_bl pa_nil)))))
      (pss_cons (ps_if (pt_cmp (pc_notN (pe_callS G_need_program (hr.mono (by decide)) (by rfl) D_need_program.g D_need_program.F.kp D_need_program.b (fun σ => passAt takes0 σ) (pa_cons (pv 3) pa_nil))) (by rfl)) (pss_one (ps_ret pe_bl)) pss_nil)
      (pss_cons (ps_setLc (i := 4) (own := [("_law_turn", 12)]) (g := gName 12) (tt := tYes) rfl sc_law.nd rfl rfl (sw_true rfl rfl rfl (by decide +kernel)) (pi_range1 rfl T.m_range (pa_cons pe_int pa_nil)) (blkOk_by (own := [("_law_turn", 12)]) (N := ["_law_script", "_law_h", "_law_names_here", "_law_program_here", "_law_wrong", "_law_long", "_law_laps", "_law_odd", "_law_one", "_law_way", "_law_deep", "_law_k", "_law_turn"]) (sc := defScope s_law) (by decide +kernel)) (fun _ _ _ _ _ => pg_name (i := 12) sc_law.nd rfl (.inl rfl)) (fun _ _ _ _ _ => pts_nil) (fun _ _ _ _ _ => (pe_call G_law_spoilt (hr.mono (by decide)) (by rfl) D_law_spoilt.g D_law_spoilt.F.kp D_law_spoilt.b .nil pass0 (pa_cons (pv 1) (pa_cons (pv 3) (pa_cons (pv 2) pa_nil))))))
      (pss_cons (ps_set (i := 5) sc_law.nd rfl (.inl rfl) (pe_tup (pa_cons pe_str (pa_cons (pe_op op_repT (pe_tup (pa_cons (pe_tup (pa_cons pe_str (pa_cons (pe_tup (pa_cons pe_str (pa_cons pe_int pa_nil))) pa_nil))) pa_nil)) (pe_op op_add pe_int (pe_call G_law_next (hr.mono (by decide)) (by rfl) D_law_next.g D_law_next.F.kp D_law_next.b .nil pass0 (pa_cons (pv 1) (pa_cons pe_int pa_nil))))) pa_nil))))
      (pss_cons (ps_set (i := 6) sc_law.nd rfl (.inl rfl) (pe_tup (pa_cons pe_str (pa_cons (pe_op op_repT (pe_tup (pa_cons (pe_tup (pa_cons pe_str (pa_cons pe_str (pa_cons (pe_tup (pa_cons pe_str (pa_cons pe_str pa_nil))) (pa_cons (pe_tup (pa_cons pe_str (pa_cons (pe_slice (sl_tupU (K := K) rfl) (pe_ix (ix_tupK (K := K) rfl) (pv 5) pe_int (fun _ _ => rfl)) po_none (po_some pe_int)) pa_nil))) pa_nil))))) pa_nil)) pe_int) pa_nil))))
      (pss_cons (ps_set (i := 7) sc_law.nd rfl (.inl rfl) (pe_ix (ix_listK (K := K) rfl) (pe_lst (pa_cons (pe_tup pa_nil) (pa_cons pe_int (pa_cons pe_non (pa_cons (pe_tup (pa_cons pe_str pa_nil)) (pa_cons (pe_tup (pa_cons pe_str (pa_cons (pe_lst pa_nil) pa_nil))) (pa_cons (pe_lst (pa_cons pe_str (pa_cons (pe_tup pa_nil) pa_nil))) (pa_cons (pe_tup (pa_cons pe_str (pa_cons (pe_tup pa_nil) pa_nil))) (pa_cons (pe_tup (pa_cons pe_str (pa_cons (pe_tup pa_nil) (pa_cons (pe_tup pa_nil) pa_nil)))) pa_nil))))))))) (pe_call G_law_next (hr.mono (by decide)) (by rfl) D_law_next.g D_law_next.F.kp D_law_next.b .nil pass0 (pa_cons (pv 1) (pa_cons pe_int pa_nil))) (fun _ _ => rfl)))
      (pss_cons (ps_for PassesOwn.never rfl (pi_list (pe_op op_cat (pv 4) (pe_lst (pa_cons (pe_tup (pa_cons pe_str (pa_cons (pe_op (op_catU (K := K) rfl) (pe_slice (sl_tupU (K := K) rfl) (pe_ix (ix_tupK (K := K) rfl) (pv 5) pe_int (fun _ _ => rfl)) po_none (po_some pe_int)) (pe_tup (pa_cons (pe_tup (pa_cons pe_str (pa_cons (pe_tup (pa_cons pe_str (pa_cons pe_int pa_nil))) pa_nil))) pa_nil))) pa_nil))) (pa_cons (pv 6) (pa_cons (pv 7) pa_nil)))))) (pg_name (i := 8) sc_law.nd rfl (.inl rfl)) (pss_one (ps_for PassesOwn.never rfl (pi_range1 rfl T.m_range (pa_cons pe_int pa_nil)) (pg_name (i := 9) sc_law.nd rfl (.inl rfl)) (pss_one (ps_if (pt_not (pt_val (pe_call G_law_refused (hr.mono (by decide)) (by rfl) D_law_refused.g D_law_refused.F.kp D_law_refused.b .nil pass0 (pa_cons (pv 9) (pa_cons (pv 8) pa_nil))))) (pss_one (ps_ret pe_bl)) pss_nil)))))
      (pss_cons (ps_set (i := 10) sc_law.nd rfl (.inl rfl) (pe_tup (pa_cons pe_str (pa_cons (pe_ix (ix_listK (K := K) rfl) (pv 2) pe_int (fun _ _ => rfl)) pa_nil))))
      (pss_cons (ps_for PassesOwn.never rfl (pi_range1 rfl T.m_range (pa_cons pe_int pa_nil)) (pg_name (i := 11) sc_law.nd rfl (.inl rfl)) (pss_one (ps_set (i := 10) sc_law.nd rfl (.inl rfl) (pe_ix (ix_listK (K := K) rfl) (pe_lst (pa_cons (pe_tup (pa_cons pe_str (pa_cons (pv 10) (pa_cons (pe_tup (pa_cons pe_str (pa_cons pe_int pa_nil))) pa_nil)))) (pa_cons (pe_tup (pa_cons pe_str (pa_cons (pe_tup (pa_cons pe_str (pa_cons pe_int pa_nil))) (pa_cons (pv 10) pa_nil)))) pa_nil))) (pe_call G_law_next (hr.mono (by decide)) (by rfl) D_law_next.g D_law_next.F.kp D_law_next.b .nil pass0 (pa_cons (pv 1) (pa_cons pe_int pa_nil))) (fun _ _ => rfl)))))
      (pss_cons (ps_if (pt_cmp (pc_notN (pe_callS G_need_program (hr.mono (by decide)) (by rfl) D_need_program.g D_need_program.F.kp D_need_program.b (fun σ => passAt takes0 σ) (pa_cons (pe_tup (pa_cons pe_str (pa_cons (pe_tup (pa_cons (pe_tup (pa_cons pe_str (pa_cons (pv 10) pa_nil))) (pa_cons (pe_tup (pa_cons pe_str (pa_cons (pe_ix (ix_listK (K := K) rfl) (pv 2) pe_int (fun _ _ => rfl)) (pa_cons (pv 10) (pa_cons (pe_tup (pa_cons pe_str (pa_cons (pe_tup pa_nil) pa_nil))) pa_nil))))) pa_nil))) pa_nil))) pa_nil))) (by rfl)) (pss_one (ps_ret pe_bl)) pss_nil)
      (pss_one (ps_ret (pe_and (pe_cmp (pc_isN (pe_callS G_need_program (hr.mono (by decide)) (by rfl) D_need_program.g D_need_program.F.kp D_need_program.b (fun σ => passAt takes0 σ) (pa_cons (pe_tup (pa_cons pe_str (pa_cons (pe_slice (sl_tupU (K := K) rfl) (pe_ix (ix_tupK (K := K) rfl) (pv 5) pe_int (fun _ _ => rfl)) po_none (po_some pe_int)) pa_nil))) pa_nil))) (by rfl)) (pe_one (pe_cmp (pc_isN (pe_callS G_need_program (hr.mono (by decide)) (by rfl) D_need_program.g D_need_program.F.kp D_need_program.b (fun σ => passAt takes0 σ) (pa_cons (pe_tup (pa_cons pe_str (pa_cons (pe_tup pa_nil) pa_nil))) pa_nil))) (by rfl)))))))))))))))))), ?_⟩
    refine ⟨_, rfl, a0, _, rfl, .inl hS, fun c hc => ⟨(by show 3 ≤ sizeLine; decide), fun h hh => ?_⟩⟩
    have A0 : HAt (upd (upd H c (.lst (ns.map V.int))) h (.lst [.int 23, .ref c, .int 0])) h c 23 0 ns := by
      have nhc : c ≠ h := ne_of_none upd_same hh
      exact ⟨upd_same, by rw [upd_ne nhc]; exact upd_same, hlen⟩
    refine ⟨_, rfl, h, c, _, _, _, rfl, A0, fun s2 k2 cs2 nm ln H3 nok A3 B3 nl nlh nlc el => ?_⟩
    have tx := texts_names nok
    refine ⟨_, rfl, _, rfl, h, c, ln, _, _, _, nm, true, rfl, A3, el, nlh, nlc, nok.len, tx, fun s4 k4 cs4 p r H4 A4 B4 R4 ok4 tm4 l12 l1 ct => gName_go ?_⟩
    have el4 := B4 _ _ el nlh nlc
    refine ⟨_, rfl, .ref p, [h, c], _, rfl, R4.dq nok ok4, fun _ H5 s5 => ?_, fun e => absurd ((acc_prog nok ok4 tm4 (by omega)).symm.trans e) (by decide)⟩
    refine ⟨_, rfl, ite2 (fun c => absurd c (by decide)) (fun _ => ?_)⟩
    have A5 := A4.same s5
    have el5 := s5 _ _ el4
    have R5 := R4.stay (TupsStay.same s5)
    dsimp only
    refine ⟨5, rfl, by decide, by decide, fun lw nlw => ?_⟩
    have wh : lw ≠ h := (ne_of_none A5.h nlw).symm
    have wc : lw ≠ c := (ne_of_none A5.c nlw).symm
    have wl : lw ≠ ln := (ne_of_none el5 nlw).symm
    have uw : Same H5 (upd H5 lw (.lst [])) := same_upd nlw
    refine lc_range (lo := 0) (n := 5) (fun i Hx => ∃ (s k : Int) (cs : List Int) (ds : List PyData) (xs : List V), HAt Hx h c s k cs ∧ But h c H5 Hx ∧ Hx ln = some (.lst (nm.map V.str)) ∧ RwAt K Hx p r ∧ Hx lw = some (.lst xs) ∧ xs.length = i ∧ DqAll K (h :: c :: [lw]) Hx xs ds ∧ ∀ d ∈ ds, isProg d = false) ⟨_, _, _, [], [], A5.same uw, Same.but uw, uw _ _ el5, R5.stay (TupsStay.same uw), upd_same, rfl, .nil, fun _ z => (nomatch z)⟩ ?_ ?_
    · rintro i Hx hi ⟨sx, kx, csx, ds, xs, Ax, Bx, elx, Rx, ewx, lx, adx, bad⟩
      refine ⟨rfl, _, rfl, _, rfl, _, rfl, h, c, p, ln, _, _, _, nm, dR r, [lw], rfl, Ax, (fun n m => by rw [List.mem_singleton.mp m, ewx]; exact fun z => (nomatch z)), Rx.dq nok ok4, by rw [dR_len]; omega, elx, nlh, nlc, nok, fun s7 k7 cs7 v d H7 A7 B7 d7 b7 => ?_⟩
      have st : Sty (h :: c :: [lw]) Hx H7 := B7.sty Ax
      have ew7 := B7 _ _ ewx wh wc
      have u7 : Sty (h :: c :: [lw]) H7 (upd H7 lw (.lst (xs ++ [v]))) := ⟨fun a o e n => by rw [upd_ne (fun z => n (by simp [z]))]; exact e, TupsStay.upd ew7 True.intro⟩
      refine ⟨_, ew7, by rw [lx, sizeLine_eq]; omega, _, _, _, ds ++ [d], xs ++ [v], A7.set wh wc, (Bx.trans B7).upd nlw, by rw [upd_ne wl.symm]; exact B7 _ _ elx nlh nlc, (Rx.stay st.tup).stay u7.tup, upd_same, by rw [List.length_append, lx]; rfl, DqAll.app (.cons (d7.stay u7) .nil) ((adx.stay st).stay u7), fun e he => ?_⟩
      rcases List.mem_append.mp he with z | z
      · exact bad e z
      · rw [List.mem_singleton.mp z]
        exact b7
    · rintro Hx ⟨sx, kx, csx, ds, xs, Ax, Bx, elx, Rx, ewx, lx, adx, bad⟩
      have dw : Dq K [h, c] Hx (.ref lw) (.list ds) := .lst ewx (by simp [wh, wc]) (adx.sub fun n m => by simp at m ⊢; rcases m with z | z <;> simp [z])
      dsimp only
      refine ⟨(by show 2 ≤ sizeLine; decide), fun p1 n1 => ⟨(by show 2 ≤ sizeLine; decide), fun p2 n2 => ⟨(by show 1 ≤ sizeLine; decide), fun p3 n3 => ?_⟩⟩⟩
      have u1 := same_upd (o := .tup [.str "num", .int 1]) n1
      have u2 := same_upd (o := .tup [.str "say", .ref p1]) n2
      have u3 := same_upd (o := .tup [.ref p2]) n3
      have d1 : Dq K [h, c] _ (.ref p1) (.tuple [.str "num", .int 1]) := .tup (SqT.of (upd_same (H := Hx))) (.cons (.word (by decide)) (.cons (.int 1) .nil))
      have d2 : Dq K [h, c] _ (.ref p2) sayD := .tup (SqT.of (upd_same (H := _))) (.cons (.word (by decide)) (.cons (d1.stay (Sty.same u2)) .nil))
      have d2 := d2.stay (Sty.same u3)
      have t3 : SqT K (upd (upd (upd Hx p1 (.tup [.str "num", .int 1])) p2 (.tup [.str "say", .ref p1])) p3 (.tup [.ref p2])) p3 [V.ref p2] := SqT.of upd_same
      have u13 := Same.trans (Same.trans u1 u2) u3
      have A6 := Ax.same u13
      refine ⟨_, rfl, h, c, _, _, 2, _, rfl, by decide, by decide, A6, fun s7 k7 cs7 r7 H7 r0 r2 A7 B7 => ⟨40, r7, rfl, rfl, p3, 40 + r7, _, rfl, rfl, SqT.keeps t3 (B7.tups A6), List.cons_ne_nil _ _, by omega, by omega, by show 1 ≤ 1000; decide, fun p4 n4 => ⟨(by show 2 ≤ sizeLine; decide), fun p5 n5 => gName_go ?_⟩⟩⟩
      have st7 : Sty [h, c] _ H7 := B7.sty A6
      obtain ⟨n, en, n40⟩ : ∃ n : Nat, (40 + r7).toNat = n ∧ (n = 40 ∨ n = 41) := ⟨_, rfl, by omega⟩
      have e4 : (List.replicate (40 + r7).toNat [V.ref p2]).flatten = List.replicate n (V.ref p2) := by rw [en]; simp
      rw [e4] at n5 ⊢
      have u4 := same_upd (o := .tup (List.replicate n (V.ref p2))) n4
      have u5 := same_upd (o := .tup [.str "row", .ref p4]) n5
      have dl : Dq K [h, c] (upd (upd H7 p4 (.tup (List.replicate n (V.ref p2)))) p5 (.tup [.str "row", .ref p4])) (.ref p5) (rowD (List.replicate n sayD)) := .tup (SqT.of upd_same) (.cons (.word (by decide)) (.cons ((Dq.tup (SqT.of upd_same) (DqAll.rep ((d2.stay st7).stay (Sty.same u4)) n)).stay (Sty.same u5)) .nil))
      have u45 := Same.trans u4 u5
      have A8 := A7.same u45
      have dw8 := ((dw.stay (Sty.same u13)).stay st7).stay (Sty.same u45)
      have el8 := u45 _ _ (B7 _ _ (u13 _ _ elx) nlh nlc)
      clear A0 A3 A4 A5 B3 B4 Rx R5 R4 el el4 el5 d1 d2 t3 A6 A7 u1 u2 u3 u4 u5 u13 n1 n2 n3 n4 n5 uw st7 e4 B7 Bx Ax elx
      generalize (upd (upd H7 p4 (.tup (List.replicate n (V.ref p2)))) p5 (.tup [.str "row", .ref p4])) = H8 at *
      dsimp only
      have dm8 : ∀ n ∈ [h, c], H8 n ≠ none := domM (M := []) (fun _ z => (nomatch z)) (But.refl h c H8) A8
      have l40 : 40 ≤ n := by omega
      refine lit_set (K := K) (N := [h, c]) (d := rowD (List.replicate 2 (.tuple [.str "lap", .str "a", gA, rowD ((List.replicate n sayD).take 20)]))) (lit_tup (lit_cons (by repeat' (first | assumption | exact lit_nil | apply lit_cons | exact lit_int _ | exact lit_bl _ | exact lit_non | exact lit_neg _ | exact lit_str (by decide +kernel) | exact lit_var rfl (by assumption) | refine lit_tup ?_ | refine lit_lst (by assumption) ?_ | refine lit_cat (by assumption) ?_ ?_)) (lit_cons (lit_rep rfl (lit_tup (lit_cons (lit_tup (lit_cons (by repeat' (first | assumption | exact lit_nil | apply lit_cons | exact lit_int _ | exact lit_bl _ | exact lit_non | exact lit_neg _ | exact lit_str (by decide +kernel) | exact lit_var rfl (by assumption) | refine lit_tup ?_ | refine lit_lst (by assumption) ?_ | refine lit_cat (by assumption) ?_ ?_)) (lit_cons (by repeat' (first | assumption | exact lit_nil | apply lit_cons | exact lit_int _ | exact lit_bl _ | exact lit_non | exact lit_neg _ | exact lit_str (by decide +kernel) | exact lit_var rfl (by assumption) | refine lit_tup ?_ | refine lit_lst (by assumption) ?_ | refine lit_cat (by assumption) ?_ ?_)) (lit_cons (by unfold gA; repeat' (first | assumption | exact lit_nil | apply lit_cons | exact lit_int _ | exact lit_bl _ | exact lit_non | exact lit_neg _ | exact lit_str (by decide +kernel) | exact lit_var rfl (by assumption) | refine lit_tup ?_ | refine lit_lst (by assumption) ?_ | refine lit_cat (by assumption) ?_ ?_)) (lit_cons (lit_tup (lit_cons (by repeat' (first | assumption | exact lit_nil | apply lit_cons | exact lit_int _ | exact lit_bl _ | exact lit_non | exact lit_neg _ | exact lit_str (by decide +kernel) | exact lit_var rfl (by assumption) | refine lit_tup ?_ | refine lit_lst (by assumption) ?_ | refine lit_cat (by assumption) ?_ ?_)) (lit_cons (lit_take (lit_ix (k := 1) (lit_var rfl dl) (by show 1 < 2; decide)) (n := 20) fun H Q q => ⟨20, rfl, q⟩) lit_nil))) lit_nil))))) lit_nil)) (by decide) (by decide)) lit_nil))) fun v6 H9 s9 d9 => ?_
      rw [List.take_replicate, Nat.min_eq_left (by omega : 20 ≤ n)] at d9
      have A9 := A8.same s9
      have dm9 : ∀ n ∈ [h, c], H9 n ≠ none := domM (M := []) (fun _ z => (nomatch z)) (But.refl h c H9) A9
      refine lit_setop (K := K) (N := [h, c]) (d := .list oddP) (by unfold oddP; repeat' (first | assumption | exact lit_nil | apply lit_cons | exact lit_int _ | exact lit_bl _ | exact lit_non | exact lit_neg _ | exact lit_str (by decide +kernel) | exact lit_var rfl (by assumption) | refine lit_tup ?_ | refine lit_lst (by assumption) ?_ | refine lit_cat (by assumption) ?_ ?_)) fun v7 Ha sa da => ?_
      have Aa := A9.same sa
      refine ⟨_, rfl, h, c, _, _, 8, _, rfl, by decide, by decide, Aa, fun sb kb csb rb Hb b0 b8 Ab Bb => ?_⟩
      have stb : Sty [h, c] Ha Hb := Bb.sty Aa
      obtain ⟨ao, xo, vo, rfl, q1, q2, q3, q4⟩ := dq_pick (da.stay stb) b0 b8
      refine ⟨ao, xo, rb, vo, rfl, rfl, q1, q2, gName_go ?_⟩
      have db := oddP_bad _ q4
      have sAb : Sty [h, c] H8 Hb := ⟨fun a o e n => stb.but a o (Same.trans s9 sa a o e) n, fun a xs e => stb.tup a xs (TupsStay.same (Same.trans s9 sa) a xs e)⟩
      have dlb := dl.stay sAb
      have dwb := dw8.stay sAb
      have d9b := (d9.stay (Sty.same sa)).stay stb
      have elb := Bb _ _ (Same.trans s9 sa _ _ el8) nlh nlc
      clear q1 q2 q4 dl dw8 d9 da dm8 dm9 el8 A8 A9 Aa sAb stb dw
      generalize oddP.getD rb.toNat .none = od at *
      have dmb : ∀ n ∈ [h, c], Hb n ≠ none := domM (M := []) (fun _ z => (nomatch z)) (But.refl h c Hb) Ab
      have l5 : ds.length = 5 := by rw [← adx.len]; exact lx
      have Lw : LitT K [h, c] [some (.ref a0), some (.ref h), some (.ref ln), some (.ref p), some (.ref lw), some (.ref p5), some v6, some vo, none, none, none, none, none] Hb (tOp (rIxT K) (tVar 5) (tC (.int 1))) (.tuple (List.replicate n sayD)) := lit_ix (k := 1) (lit_var rfl dlb) (by show 1 < 2; decide)
      refine lit_for (K := K) (N := [h, c]) (d := .list (ds ++ [rowD ((List.replicate n sayD).take 40 ++ [sayD]), rowD (List.replicate 2 lapD), od])) (lit_cat dmb (lit_var rfl dwb) (lit_lst dmb (lit_cons (lit_tup (lit_cons (by repeat' (first | assumption | exact lit_nil | apply lit_cons | exact lit_int _ | exact lit_bl _ | exact lit_non | exact lit_neg _ | exact lit_str (by decide +kernel) | exact lit_var rfl (by assumption) | refine lit_tup ?_ | refine lit_lst (by assumption) ?_ | refine lit_cat (by assumption) ?_ ?_)) (lit_cons (lit_catU (lit_take Lw (n := 40) fun H Q q => ⟨40, rfl, q⟩) (by unfold sayD; repeat' (first | assumption | exact lit_nil | apply lit_cons | exact lit_int _ | exact lit_bl _ | exact lit_non | exact lit_neg _ | exact lit_str (by decide +kernel) | exact lit_var rfl (by assumption) | refine lit_tup ?_ | refine lit_lst (by assumption) ?_ | refine lit_cat (by assumption) ?_ ?_)) (by rw [List.length_take]; show _ + 1 ≤ _; omega)) lit_nil))) (lit_cons (lit_var rfl d9b) (lit_cons (lit_var rfl q3) lit_nil)))) (by rw [l5]; show 5 + 3 ≤ _; omega)) fun vl Hc sc dc => ?_
      rw [List.take_replicate, Nat.min_eq_left l40] at dc
      have badA : ∀ d ∈ ds ++ [rowD (List.replicate 40 sayD ++ [sayD]), rowD (List.replicate 2 lapD), od], isProg d = false := fun d hd => by
        rcases List.mem_append.mp hd with z | z
        · exact bad d z
        · simp only [List.mem_cons, List.not_mem_nil, or_false] at z
          rcases z with z | z | z
          · rw [z]; exact long_bad
          · rw [z]; exact laps_bad
          · rw [z]; exact db
      generalize ds ++ [rowD (List.replicate 40 sayD ++ [sayD]), rowD (List.replicate 2 lapD), od] = es at *
      obtain ⟨la, xl, rfl, el6, adl6⟩ : ∃ a xs, vl = .ref a ∧ Hc a = some (.lst xs) ∧ DqAll K [h, c] Hc xs es := by
        cases dc with
        | lst e n ad => exact ⟨_, _, rfl, e, ad⟩
      have Ac := Ab.same sc
      refine ⟨la, rfl, ⟨xl, SqL.of el6⟩, for_list (K := K) (a := la) (xs := xl) (fun i σ Hx => ∃ v8 v9 : Option V, σ = [some (.ref a0), some (.ref h), some (.ref ln), some (.ref p), some (.ref lw), some (.ref p5), some v6, some vo, v8, v9, none, none, none] ∧ Same Hc Hx) ⟨none, none, rfl, Same.refl _⟩ (fun i σ Hx _ ⟨_, _, _, u⟩ => SqL.of (u _ _ el6)) (fun i x σ Hx hx h2 => ?_) (fun σ Hx h2 => ?_)⟩
      · obtain ⟨v8, v9, rfl, u⟩ := h2
        refine gName_go ?_
        obtain ⟨d, dx, bd⟩ : ∃ d, Dq K [h, c] Hx x d ∧ isProg d = false := by
          have hi : i < es.length := by
            rw [← adl6.len]
            exact (List.getElem?_eq_some_iff.mp hx).1
          obtain ⟨u2, eu, du⟩ := (adl6.stay (Sty.same u)).at_ hi
          obtain rfl : x = u2 := Option.some.inj (hx.symm.trans eu)
          refine ⟨_, du, badA _ ?_⟩
          rw [List.getD_eq_getElem?_getD, List.getElem?_eq_getElem hi]
          exact List.getElem_mem hi
        refine ⟨3, rfl, by decide, by decide, for_range (lo := 0) (n := 3) (fun j σ Hy => ∃ v9 : Option V, σ = [some (.ref a0), some (.ref h), some (.ref ln), some (.ref p), some (.ref lw), some (.ref p5), some v6, some vo, some x, v9, none, none, none] ∧ Same Hc Hy ∧ Dq K [h, c] Hy x d) ⟨_, rfl, u, dx⟩ ?_ ?_⟩
        · rintro j σ Hy hj ⟨v9, rfl, uy, dy⟩
          refine gName_go ?_
          exact ⟨_, rfl, _, rfl, _, x, _, d, rfl, dy, bd, fun Hz sz => ⟨_, rfl, ite2 (fun z => absurd z (by decide)) (fun _ => ⟨_, rfl, Same.trans uy sz, dy.stay (Sty.same sz)⟩)⟩⟩
        · rintro σ Hy ⟨v9, rfl, uy, dy⟩
          exact ⟨_, _, rfl, uy⟩
      · obtain ⟨v8, v9, rfl, u⟩ := h2
        have Ad := Ac.same u
        have dl9 := dlb.stay (Sty.same (Same.trans sc u))
        have el9 := u _ _ (sc _ _ elb)
        dsimp only
        obtain ⟨x0, e0⟩ : ∃ x, nm[0]? = some x := by
          cases nm with
          | nil => exact absurd nok.len (by decide)
          | cons x r => exact ⟨x, rfl⟩
        have m0 : x0 ∈ nm := List.mem_of_getElem? e0
        refine lit_set (K := K) (N := [h, c]) (d := .tuple [.str "name", .str x0]) (lit_tup (lit_cons (by repeat' (first | assumption | exact lit_nil | apply lit_cons | exact lit_int _ | exact lit_bl _ | exact lit_non | exact lit_neg _ | exact lit_str (by decide +kernel) | exact lit_var rfl (by assumption) | refine lit_tup ?_ | refine lit_lst (by assumption) ?_ | refine lit_cat (by assumption) ?_ ?_)) (lit_cons (lit_nm (k := 0) rfl el9 e0 (nok.txt m0)) lit_nil))) fun vd He se de => ?_
        have Ae := Ad.same se
        have dle := dl9.stay (Sty.same se)
        have ele := se _ _ el9
        clear Ab Ac Ad dl9 el9 dlb elb d9b dwb dmb
        refine ⟨4, rfl, by decide, by decide, for_range (lo := 0) (n := 4) (fun i σ H6 => ∃ (v11 : Option V) (vd : V) (dd : PyData) (s k : Int) (cs : List Int), σ = [some (.ref a0), some (.ref h), some (.ref ln), some (.ref p), some (.ref lw), some (.ref p5), some v6, some vo, v8, v9, some vd, v11, none] ∧ HAt H6 h c s k cs ∧ H6 ln = some (.lst (nm.map V.str)) ∧ Dq K [h, c] H6 (.ref p5) (rowD (List.replicate n sayD)) ∧ Dq K [h, c] H6 vd dd ∧ exOk (i + 1) dd = true) ⟨none, vd, _, _, _, _, rfl, Ae, ele, dle, de, by rw [exOk_name]; exact nok.name m0⟩ ?_ ?_⟩
        · rintro i σ H6 hi ⟨v11, vd, dd, s6, k6, cs6, rfl, A6, el6, dl6, d6, e6⟩
          have dm6 : ∀ n ∈ [h, c], H6 n ≠ none := domM (M := []) (fun _ z => (nomatch z)) (But.refl h c H6) A6
          refine gName_go ?_
          refine lit_op (K := K) (N := [h, c]) (d := .list [.tuple [.str "add", dd, .tuple [.str "num", .int 999]], .tuple [.str "times", .tuple [.str "num", .int 0], dd]]) (by repeat' (first | assumption | exact lit_nil | apply lit_cons | exact lit_int _ | exact lit_bl _ | exact lit_non | exact lit_neg _ | exact lit_str (by decide +kernel) | exact lit_var rfl (by assumption) | refine lit_tup ?_ | refine lit_lst (by assumption) ?_ | refine lit_cat (by assumption) ?_ ?_)) fun v8 H8 s8 d8 => ?_
          have A8 := A6.same s8
          refine ⟨_, rfl, h, c, _, _, 2, _, rfl, by decide, by decide, A8, fun s9 k9 cs9 r H9 r0 r2 A9 B9 => ?_⟩
          have st : Sty [h, c] H8 H9 := B9.sty A8
          obtain ⟨a, xs, u, rfl, q1, q2, q3, q4⟩ := dq_pick (d8.stay st) r0 r2
          refine ⟨a, xs, r, u, rfl, rfl, q1, q2, ?_⟩
          refine ⟨_, _, _, _, _, _, rfl, A9, B9 _ _ (s8 _ _ el6) nlh nlc, (dl6.stay (Sty.same s8)).stay st, q3, ?_⟩
          have z : r = 0 ∨ r = 1 := by
            have : r < 2 := r2
            omega
          rcases z with z | z
          · subst z
            show exOk (i + 1 + 1) (.tuple [.str "add", dd, .tuple [.str "num", .int 999]]) = true
            rw [exOk_add, e6, exOk_num]
            rfl
          · subst z
            show exOk (i + 1 + 1) (.tuple [.str "times", .tuple [.str "num", .int 0], dd]) = true
            rw [exOk_times, e6, exOk_num]
            rfl
        · rintro σ H6 ⟨v11, vd, dd, s6, k6, cs6, rfl, A6, el6, dl6, d6, e6⟩
          dsimp only
          refine lit_ifS (K := K) (N := [h, c]) (d := rowD [.tuple [.str "say", dd], .tuple [.str "lap", .str x0, dd, rowD []]]) (lit_tup (lit_cons (by repeat' (first | assumption | exact lit_nil | apply lit_cons | exact lit_int _ | exact lit_bl _ | exact lit_non | exact lit_neg _ | exact lit_str (by decide +kernel) | exact lit_var rfl (by assumption) | refine lit_tup ?_ | refine lit_lst (by assumption) ?_ | refine lit_cat (by assumption) ?_ ?_)) (lit_cons (lit_tup (lit_cons (lit_tup (lit_cons (by repeat' (first | assumption | exact lit_nil | apply lit_cons | exact lit_int _ | exact lit_bl _ | exact lit_non | exact lit_neg _ | exact lit_str (by decide +kernel) | exact lit_var rfl (by assumption) | refine lit_tup ?_ | refine lit_lst (by assumption) ?_ | refine lit_cat (by assumption) ?_ ?_)) (lit_cons (lit_var rfl d6) lit_nil))) (lit_cons (lit_tup (lit_cons (by repeat' (first | assumption | exact lit_nil | apply lit_cons | exact lit_int _ | exact lit_bl _ | exact lit_non | exact lit_neg _ | exact lit_str (by decide +kernel) | exact lit_var rfl (by assumption) | refine lit_tup ?_ | refine lit_lst (by assumption) ?_ | refine lit_cat (by assumption) ?_ ?_)) (lit_cons (lit_nm (k := 0) rfl el6 e0 (nok.txt m0)) (lit_cons (lit_var rfl d6) (lit_cons (by unfold rowD; repeat' (first | assumption | exact lit_nil | apply lit_cons | exact lit_int _ | exact lit_bl _ | exact lit_non | exact lit_neg _ | exact lit_str (by decide +kernel) | exact lit_var rfl (by assumption) | refine lit_tup ?_ | refine lit_lst (by assumption) ?_ | refine lit_cat (by assumption) ?_ ?_)) lit_nil))))) lit_nil))) lit_nil))) fun vg Hg sg dg => ?_
          refine ⟨vg, [h, c], _, rfl, dg, fun _ Hi si => ?_, fun e => absurd ((deep_ok (nok.name m0) e6).symm.trans e) (by decide)⟩
          refine ⟨_, rfl, ite2 (fun c => absurd c (by decide)) (fun _ => ?_)⟩
          have dli := (dl6.stay (Sty.same sg)).stay (Sty.same si)
          refine nx_go ?_
          dsimp only
          refine lit_andN (K := K) (N := [h, c]) (d := rowD ((List.replicate n sayD).take 40)) (lit_tup (lit_cons (by repeat' (first | assumption | exact lit_nil | apply lit_cons | exact lit_int _ | exact lit_bl _ | exact lit_non | exact lit_neg _ | exact lit_str (by decide +kernel) | exact lit_var rfl (by assumption) | refine lit_tup ?_ | refine lit_lst (by assumption) ?_ | refine lit_cat (by assumption) ?_ ?_)) (lit_cons (lit_take (lit_ix (k := 1) (lit_var rfl dli) (by show 1 < 2; decide)) (n := 40) fun H Q q => ⟨40, rfl, q⟩) lit_nil))) fun vj Hj sj dj => ?_
          rw [List.take_replicate, Nat.min_eq_left l40] at dj
          refine ⟨vj, [h, c], _, rfl, dj, fun _ Hk sk => ?_, fun e => absurd (long_ok.symm.trans e) (by decide)⟩
          refine ⟨_, rfl, ?_⟩
          refine ⟨(by show 0 ≤ sizeLine; decide), fun q1 m1 => ⟨(by show 2 ≤ sizeLine; decide), fun q2 m2 => ?_⟩⟩
          have w2 := same_upd (o := .tup [.str "row", .ref q1]) m2
          refine ⟨.ref q2, [h, c], rowD [], rfl, .tup (SqT.of upd_same) (.cons (.word (by decide)) (.cons (.tup (SqT.keeps (SqT.of upd_same) (TupsStay.same w2)) .nil) .nil)), fun _ Hl sl => q _, fun e => absurd (none_ok.symm.trans e) (by decide)⟩
end
set_option maxHeartbeats 4000000 in
theorem all_mk {l : PySem.W.OpenLaw} {w : World} {K : PySem.W.Frag} {h : Heap} {mg : Str → Option Value} {fa : Addr} (X : K.In h) (G : h.Ns mainGlobals mg) (hfa : mg "law" = some (.ref fa))
    {f0 : Addr} {od0 an0 : Option Addr} {sl0 : Array (Option Value)} {oc0 kV0 dc0 pm0 cd0 ct0 : Value}
    (a0 : PySem.W.nsIn K mainGlobals "share" = some (some (.ref f0))) (l0 : K.lookup f0 = some ⟨oc0, od0, .func (PySem.W.fnOf "share" "share" (defArgs s_share) (defBody s_share) (defScope s_share) .none kV0 dc0 pm0 an0 cd0 ct0), sl0⟩) (c0 : PySem.W.codeIn K cd0 "share" = true) (k0 : PySem.W.keepIn K (.ref f0) = true)
    {f1 : Addr} {od1 an1 : Option Addr} {sl1 : Array (Option Value)} {oc1 kV1 dc1 pm1 cd1 ct1 : Value}
    (a1 : PySem.W.nsIn K mainGlobals "plus" = some (some (.ref f1))) (l1 : K.lookup f1 = some ⟨oc1, od1, .func (PySem.W.fnOf "plus" "plus" (defArgs s_plus) (defBody s_plus) (defScope s_plus) .none kV1 dc1 pm1 an1 cd1 ct1), sl1⟩) (c1 : PySem.W.codeIn K cd1 "plus" = true) (k1 : PySem.W.keepIn K (.ref f1) = true)
    {f2 : Addr} {od2 an2 : Option Addr} {sl2 : Array (Option Value)} {oc2 kV2 dc2 pm2 cd2 ct2 : Value}
    (a2 : PySem.W.nsIn K mainGlobals "minus" = some (some (.ref f2))) (l2 : K.lookup f2 = some ⟨oc2, od2, .func (PySem.W.fnOf "minus" "minus" (defArgs s_minus) (defBody s_minus) (defScope s_minus) .none kV2 dc2 pm2 an2 cd2 ct2), sl2⟩) (c2 : PySem.W.codeIn K cd2 "minus" = true) (k2 : PySem.W.keepIn K (.ref f2) = true)
    {f3 : Addr} {od3 an3 : Option Addr} {sl3 : Array (Option Value)} {oc3 kV3 dc3 pm3 cd3 ct3 : Value}
    (a3 : PySem.W.nsIn K mainGlobals "times" = some (some (.ref f3))) (l3 : K.lookup f3 = some ⟨oc3, od3, .func (PySem.W.fnOf "times" "times" (defArgs s_times) (defBody s_times) (defScope s_times) .none kV3 dc3 pm3 an3 cd3 ct3), sl3⟩) (c3 : PySem.W.codeIn K cd3 "times" = true) (k3 : PySem.W.keepIn K (.ref f3) = true)
    {f4 : Addr} {od4 an4 : Option Addr} {sl4 : Array (Option Value)} {oc4 kV4 dc4 pm4 cd4 ct4 : Value}
    (a4 : PySem.W.nsIn K mainGlobals "sum_of_number" = some (some (.ref f4))) (l4 : K.lookup f4 = some ⟨oc4, od4, .func (PySem.W.fnOf "sum_of_number" "sum_of_number" (defArgs s_sum_of_number) (defBody s_sum_of_number) (defScope s_sum_of_number) .none kV4 dc4 pm4 an4 cd4 ct4), sl4⟩) (c4 : PySem.W.codeIn K cd4 "sum_of_number" = true) (k4 : PySem.W.keepIn K (.ref f4) = true)
    {f5 : Addr} {od5 an5 : Option Addr} {sl5 : Array (Option Value)} {oc5 kV5 dc5 pm5 cd5 ct5 : Value}
    (a5 : PySem.W.nsIn K mainGlobals "sum_of_name" = some (some (.ref f5))) (l5 : K.lookup f5 = some ⟨oc5, od5, .func (PySem.W.fnOf "sum_of_name" "sum_of_name" (defArgs s_sum_of_name) (defBody s_sum_of_name) (defScope s_sum_of_name) .none kV5 dc5 pm5 an5 cd5 ct5), sl5⟩) (c5 : PySem.W.codeIn K cd5 "sum_of_name" = true) (k5 : PySem.W.keepIn K (.ref f5) = true)
    {f6 : Addr} {od6 an6 : Option Addr} {sl6 : Array (Option Value)} {oc6 kV6 dc6 pm6 cd6 ct6 : Value}
    (a6 : PySem.W.nsIn K mainGlobals "added" = some (some (.ref f6))) (l6 : K.lookup f6 = some ⟨oc6, od6, .func (PySem.W.fnOf "added" "added" (defArgs s_added) (defBody s_added) (defScope s_added) .none kV6 dc6 pm6 an6 cd6 ct6), sl6⟩) (c6 : PySem.W.codeIn K cd6 "added" = true) (k6 : PySem.W.keepIn K (.ref f6) = true)
    {f7 : Addr} {od7 an7 : Option Addr} {sl7 : Array (Option Value)} {oc7 kV7 dc7 pm7 cd7 ct7 : Value}
    (a7 : PySem.W.nsIn K mainGlobals "lessened" = some (some (.ref f7))) (l7 : K.lookup f7 = some ⟨oc7, od7, .func (PySem.W.fnOf "lessened" "lessened" (defArgs s_lessened) (defBody s_lessened) (defScope s_lessened) .none kV7 dc7 pm7 an7 cd7 ct7), sl7⟩) (c7 : PySem.W.codeIn K cd7 "lessened" = true) (k7 : PySem.W.keepIn K (.ref f7) = true)
    {f8 : Addr} {od8 an8 : Option Addr} {sl8 : Array (Option Value)} {oc8 kV8 dc8 pm8 cd8 ct8 : Value}
    (a8 : PySem.W.nsIn K mainGlobals "timed" = some (some (.ref f8))) (l8 : K.lookup f8 = some ⟨oc8, od8, .func (PySem.W.fnOf "timed" "timed" (defArgs s_timed) (defBody s_timed) (defScope s_timed) .none kV8 dc8 pm8 an8 cd8 ct8), sl8⟩) (c8 : PySem.W.codeIn K cd8 "timed" = true) (k8 : PySem.W.keepIn K (.ref f8) = true)
    {f9 : Addr} {od9 an9 : Option Addr} {sl9 : Array (Option Value)} {oc9 kV9 dc9 pm9 cd9 ct9 : Value}
    (a9 : PySem.W.nsIn K mainGlobals "put_in" = some (some (.ref f9))) (l9 : K.lookup f9 = some ⟨oc9, od9, .func (PySem.W.fnOf "put_in" "put_in" (defArgs s_put_in) (defBody s_put_in) (defScope s_put_in) .none kV9 dc9 pm9 an9 cd9 ct9), sl9⟩) (c9 : PySem.W.codeIn K cd9 "put_in" = true) (k9 : PySem.W.keepIn K (.ref f9) = true)
    {f10 : Addr} {od10 an10 : Option Addr} {sl10 : Array (Option Value)} {oc10 kV10 dc10 pm10 cd10 ct10 : Value}
    (a10 : PySem.W.nsIn K mainGlobals "totalled" = some (some (.ref f10))) (l10 : K.lookup f10 = some ⟨oc10, od10, .func (PySem.W.fnOf "totalled" "totalled" (defArgs s_totalled) (defBody s_totalled) (defScope s_totalled) .none kV10 dc10 pm10 an10 cd10 ct10), sl10⟩) (c10 : PySem.W.codeIn K cd10 "totalled" = true) (k10 : PySem.W.keepIn K (.ref f10) = true)
    {f11 : Addr} {od11 an11 : Option Addr} {sl11 : Array (Option Value)} {oc11 kV11 dc11 pm11 cd11 ct11 : Value}
    (a11 : PySem.W.nsIn K mainGlobals "is_natural" = some (some (.ref f11))) (l11 : K.lookup f11 = some ⟨oc11, od11, .func (PySem.W.fnOf "is_natural" "is_natural" (defArgs s_is_natural) (defBody s_is_natural) (defScope s_is_natural) .none kV11 dc11 pm11 an11 cd11 ct11), sl11⟩) (c11 : PySem.W.codeIn K cd11 "is_natural" = true) (k11 : PySem.W.keepIn K (.ref f11) = true)
    {f12 : Addr} {od12 an12 : Option Addr} {sl12 : Array (Option Value)} {oc12 kV12 dc12 pm12 cd12 ct12 : Value}
    (a12 : PySem.W.nsIn K mainGlobals "same" = some (some (.ref f12))) (l12 : K.lookup f12 = some ⟨oc12, od12, .func (PySem.W.fnOf "same" "same" (defArgs s_same) (defBody s_same) (defScope s_same) .none kV12 dc12 pm12 an12 cd12 ct12), sl12⟩) (c12 : PySem.W.codeIn K cd12 "same" = true) (k12 : PySem.W.keepIn K (.ref f12) = true)
    {f13 : Addr} {od13 an13 : Option Addr} {sl13 : Array (Option Value)} {oc13 kV13 dc13 pm13 cd13 ct13 : Value}
    (a13 : PySem.W.nsIn K mainGlobals "names_in" = some (some (.ref f13))) (l13 : K.lookup f13 = some ⟨oc13, od13, .func (PySem.W.fnOf "names_in" "names_in" (defArgs s_names_in) (defBody s_names_in) (defScope s_names_in) .none kV13 dc13 pm13 an13 cd13 ct13), sl13⟩) (c13 : PySem.W.codeIn K cd13 "names_in" = true) (k13 : PySem.W.keepIn K (.ref f13) = true)
    {f14 : Addr} {od14 an14 : Option Addr} {sl14 : Array (Option Value)} {oc14 kV14 dc14 pm14 cd14 ct14 : Value}
    (a14 : PySem.W.nsIn K mainGlobals "_put_to" = some (some (.ref f14))) (l14 : K.lookup f14 = some ⟨oc14, od14, .func (PySem.W.fnOf "_put_to" "_put_to" (defArgs s_put_to) (defBody s_put_to) (defScope s_put_to) .none kV14 dc14 pm14 an14 cd14 ct14), sl14⟩) (c14 : PySem.W.codeIn K cd14 "_put_to" = true) (k14 : PySem.W.keepIn K (.ref f14) = true)
    {f15 : Addr} {od15 an15 : Option Addr} {sl15 : Array (Option Value)} {oc15 kV15 dc15 pm15 cd15 ct15 : Value}
    (a15 : PySem.W.nsIn K mainGlobals "_put_all_to" = some (some (.ref f15))) (l15 : K.lookup f15 = some ⟨oc15, od15, .func (PySem.W.fnOf "_put_all_to" "_put_all_to" (defArgs s_put_all_to) (defBody s_put_all_to) (defScope s_put_all_to) .none kV15 dc15 pm15 an15 cd15 ct15), sl15⟩) (c15 : PySem.W.codeIn K cd15 "_put_all_to" = true) (k15 : PySem.W.keepIn K (.ref f15) = true)
    {f16 : Addr} {od16 an16 : Option Addr} {sl16 : Array (Option Value)} {oc16 kV16 dc16 pm16 cd16 ct16 : Value}
    (a16 : PySem.W.nsIn K mainGlobals "_joined" = some (some (.ref f16))) (l16 : K.lookup f16 = some ⟨oc16, od16, .func (PySem.W.fnOf "_joined" "_joined" (defArgs s_joined) (defBody s_joined) (defScope s_joined) .none kV16 dc16 pm16 an16 cd16 ct16), sl16⟩) (c16 : PySem.W.codeIn K cd16 "_joined" = true) (k16 : PySem.W.keepIn K (.ref f16) = true)
    {f17 : Addr} {od17 an17 : Option Addr} {sl17 : Array (Option Value)} {oc17 kV17 dc17 pm17 cd17 ct17 : Value}
    (a17 : PySem.W.nsIn K mainGlobals "_number_raised" = some (some (.ref f17))) (l17 : K.lookup f17 = some ⟨oc17, od17, .func (PySem.W.fnOf "_number_raised" "_number_raised" (defArgs s_number_raised) (defBody s_number_raised) (defScope s_number_raised) .none kV17 dc17 pm17 an17 cd17 ct17), sl17⟩) (c17 : PySem.W.codeIn K cd17 "_number_raised" = true) (k17 : PySem.W.keepIn K (.ref f17) = true)
    {f18 : Addr} {od18 an18 : Option Addr} {sl18 : Array (Option Value)} {oc18 kV18 dc18 pm18 cd18 ct18 : Value}
    (a18 : PySem.W.nsIn K mainGlobals "_powers_of" = some (some (.ref f18))) (l18 : K.lookup f18 = some ⟨oc18, od18, .func (PySem.W.fnOf "_powers_of" "_powers_of" (defArgs s_powers_of) (defBody s_powers_of) (defScope s_powers_of) .none kV18 dc18 pm18 an18 cd18 ct18), sl18⟩) (c18 : PySem.W.codeIn K cd18 "_powers_of" = true) (k18 : PySem.W.keepIn K (.ref f18) = true)
    {f19 : Addr} {od19 an19 : Option Addr} {sl19 : Array (Option Value)} {oc19 kV19 dc19 pm19 cd19 ct19 : Value}
    (a19 : PySem.W.nsIn K mainGlobals "_part_raised" = some (some (.ref f19))) (l19 : K.lookup f19 = some ⟨oc19, od19, .func (PySem.W.fnOf "_part_raised" "_part_raised" (defArgs s_part_raised) (defBody s_part_raised) (defScope s_part_raised) .none kV19 dc19 pm19 an19 cd19 ct19), sl19⟩) (c19 : PySem.W.codeIn K cd19 "_part_raised" = true) (k19 : PySem.W.keepIn K (.ref f19) = true)
    {f20 : Addr} {od20 an20 : Option Addr} {sl20 : Array (Option Value)} {oc20 kV20 dc20 pm20 cd20 ct20 : Value}
    (a20 : PySem.W.nsIn K mainGlobals "_risen_fillings" = some (some (.ref f20))) (l20 : K.lookup f20 = some ⟨oc20, od20, .func (PySem.W.fnOf "_risen_fillings" "_risen_fillings" (defArgs s_risen_fillings) (defBody s_risen_fillings) (defScope s_risen_fillings) .none kV20 dc20 pm20 an20 cd20 ct20), sl20⟩) (c20 : PySem.W.codeIn K cd20 "_risen_fillings" = true) (k20 : PySem.W.keepIn K (.ref f20) = true)
    {f21 : Addr} {od21 an21 : Option Addr} {sl21 : Array (Option Value)} {oc21 kV21 dc21 pm21 cd21 ct21 : Value}
    (a21 : PySem.W.nsIn K mainGlobals "_filled" = some (some (.ref f21))) (l21 : K.lookup f21 = some ⟨oc21, od21, .func (PySem.W.fnOf "_filled" "_filled" (defArgs s_filled) (defBody s_filled) (defScope s_filled) .none kV21 dc21 pm21 an21 cd21 ct21), sl21⟩) (c21 : PySem.W.codeIn K cd21 "_filled" = true) (k21 : PySem.W.keepIn K (.ref f21) = true)
    {f22 : Addr} {od22 an22 : Option Addr} {sl22 : Array (Option Value)} {oc22 kV22 dc22 pm22 cd22 ct22 : Value}
    (a22 : PySem.W.nsIn K mainGlobals "_power_in" = some (some (.ref f22))) (l22 : K.lookup f22 = some ⟨oc22, od22, .func (PySem.W.fnOf "_power_in" "_power_in" (defArgs s_power_in) (defBody s_power_in) (defScope s_power_in) .none kV22 dc22 pm22 an22 cd22 ct22), sl22⟩) (c22 : PySem.W.codeIn K cd22 "_power_in" = true) (k22 : PySem.W.keepIn K (.ref f22) = true)
    {f23 : Addr} {od23 an23 : Option Addr} {sl23 : Array (Option Value)} {oc23 kV23 dc23 pm23 cd23 ct23 : Value}
    (a23 : PySem.W.nsIn K mainGlobals "_totals_by_power" = some (some (.ref f23))) (l23 : K.lookup f23 = some ⟨oc23, od23, .func (PySem.W.fnOf "_totals_by_power" "_totals_by_power" (defArgs s_totals_by_power) (defBody s_totals_by_power) (defScope s_totals_by_power) .none kV23 dc23 pm23 an23 cd23 ct23), sl23⟩) (c23 : PySem.W.codeIn K cd23 "_totals_by_power" = true) (k23 : PySem.W.keepIn K (.ref f23) = true)
    {f24 : Addr} {od24 an24 : Option Addr} {sl24 : Array (Option Value)} {oc24 kV24 dc24 pm24 cd24 ct24 : Value}
    (a24 : PySem.W.nsIn K mainGlobals "_sums_of_powers" = some (some (.ref f24))) (l24 : K.lookup f24 = some ⟨oc24, od24, .func (PySem.W.fnOf "_sums_of_powers" "_sums_of_powers" (defArgs s_sums_of_powers) (defBody s_sums_of_powers) (defScope s_sums_of_powers) .none kV24 dc24 pm24 an24 cd24 ct24), sl24⟩) (c24 : PySem.W.codeIn K cd24 "_sums_of_powers" = true) (k24 : PySem.W.keepIn K (.ref f24) = true)
    {f25 : Addr} {od25 an25 : Option Addr} {sl25 : Array (Option Value)} {oc25 kV25 dc25 pm25 cd25 ct25 : Value}
    (a25 : PySem.W.nsIn K mainGlobals "_next_sum_of_powers" = some (some (.ref f25))) (l25 : K.lookup f25 = some ⟨oc25, od25, .func (PySem.W.fnOf "_next_sum_of_powers" "_next_sum_of_powers" (defArgs s_next_sum_of_powers) (defBody s_next_sum_of_powers) (defScope s_next_sum_of_powers) .none kV25 dc25 pm25 an25 cd25 ct25), sl25⟩) (c25 : PySem.W.codeIn K cd25 "_next_sum_of_powers" = true) (k25 : PySem.W.keepIn K (.ref f25) = true)
    {f26 : Addr} {od26 an26 : Option Addr} {sl26 : Array (Option Value)} {oc26 kV26 dc26 pm26 cd26 ct26 : Value}
    (a26 : PySem.W.nsIn K mainGlobals "need_program" = some (some (.ref f26))) (l26 : K.lookup f26 = some ⟨oc26, od26, .func (PySem.W.fnOf "need_program" "need_program" (defArgs s_need_program) (defBody s_need_program) (defScope s_need_program) .none kV26 dc26 pm26 an26 cd26 ct26), sl26⟩) (c26 : PySem.W.codeIn K cd26 "need_program" = true) (k26 : PySem.W.keepIn K (.ref f26) = true)
    {f27 : Addr} {od27 an27 : Option Addr} {sl27 : Array (Option Value)} {oc27 kV27 dc27 pm27 cd27 ct27 : Value}
    (a27 : PySem.W.nsIn K mainGlobals "names_of" = some (some (.ref f27))) (l27 : K.lookup f27 = some ⟨oc27, od27, .func (PySem.W.fnOf "names_of" "names_of" (defArgs s_names_of) (defBody s_names_of) (defScope s_names_of) .none kV27 dc27 pm27 an27 cd27 ct27), sl27⟩) (c27 : PySem.W.codeIn K cd27 "names_of" = true) (k27 : PySem.W.keepIn K (.ref f27) = true)
    {f28 : Addr} {od28 an28 : Option Addr} {sl28 : Array (Option Value)} {oc28 kV28 dc28 pm28 cd28 ct28 : Value}
    (a28 : PySem.W.nsIn K mainGlobals "sum_told" = some (some (.ref f28))) (l28 : K.lookup f28 = some ⟨oc28, od28, .func (PySem.W.fnOf "sum_told" "sum_told" (defArgs s_sum_told) (defBody s_sum_told) (defScope s_sum_told) .none kV28 dc28 pm28 an28 cd28 ct28), sl28⟩) (c28 : PySem.W.codeIn K cd28 "sum_told" = true) (k28 : PySem.W.keepIn K (.ref f28) = true)
    {f29 : Addr} {od29 an29 : Option Addr} {sl29 : Array (Option Value)} {oc29 kV29 dc29 pm29 cd29 ct29 : Value}
    (a29 : PySem.W.nsIn K mainGlobals "_word_of" = some (some (.ref f29))) (l29 : K.lookup f29 = some ⟨oc29, od29, .func (PySem.W.fnOf "_word_of" "_word_of" (defArgs s_word_of) (defBody s_word_of) (defScope s_word_of) .none kV29 dc29 pm29 an29 cd29 ct29), sl29⟩) (c29 : PySem.W.codeIn K cd29 "_word_of" = true) (k29 : PySem.W.keepIn K (.ref f29) = true)
    {f30 : Addr} {od30 an30 : Option Addr} {sl30 : Array (Option Value)} {oc30 kV30 dc30 pm30 cd30 ct30 : Value}
    (a30 : PySem.W.nsIn K mainGlobals "_need_row" = some (some (.ref f30))) (l30 : K.lookup f30 = some ⟨oc30, od30, .func (PySem.W.fnOf "_need_row" "_need_row" (defArgs s_need_row) (defBody s_need_row) (defScope s_need_row) .none kV30 dc30 pm30 an30 cd30 ct30), sl30⟩) (c30 : PySem.W.codeIn K cd30 "_need_row" = true) (k30 : PySem.W.keepIn K (.ref f30) = true)
    {f31 : Addr} {od31 an31 : Option Addr} {sl31 : Array (Option Value)} {oc31 kV31 dc31 pm31 cd31 ct31 : Value}
    (a31 : PySem.W.nsIn K mainGlobals "_need_statement" = some (some (.ref f31))) (l31 : K.lookup f31 = some ⟨oc31, od31, .func (PySem.W.fnOf "_need_statement" "_need_statement" (defArgs s_need_statement) (defBody s_need_statement) (defScope s_need_statement) .none kV31 dc31 pm31 an31 cd31 ct31), sl31⟩) (c31 : PySem.W.codeIn K cd31 "_need_statement" = true) (k31 : PySem.W.keepIn K (.ref f31) = true)
    {f32 : Addr} {od32 an32 : Option Addr} {sl32 : Array (Option Value)} {oc32 kV32 dc32 pm32 cd32 ct32 : Value}
    (a32 : PySem.W.nsIn K mainGlobals "_need_expression" = some (some (.ref f32))) (l32 : K.lookup f32 = some ⟨oc32, od32, .func (PySem.W.fnOf "_need_expression" "_need_expression" (defArgs s_need_expression) (defBody s_need_expression) (defScope s_need_expression) .none kV32 dc32 pm32 an32 cd32 ct32), sl32⟩) (c32 : PySem.W.codeIn K cd32 "_need_expression" = true) (k32 : PySem.W.keepIn K (.ref f32) = true)
    {f33 : Addr} {od33 an33 : Option Addr} {sl33 : Array (Option Value)} {oc33 kV33 dc33 pm33 cd33 ct33 : Value}
    (a33 : PySem.W.nsIn K mainGlobals "_need_number" = some (some (.ref f33))) (l33 : K.lookup f33 = some ⟨oc33, od33, .func (PySem.W.fnOf "_need_number" "_need_number" (defArgs s_need_number) (defBody s_need_number) (defScope s_need_number) .none kV33 dc33 pm33 an33 cd33 ct33), sl33⟩) (c33 : PySem.W.codeIn K cd33 "_need_number" = true) (k33 : PySem.W.keepIn K (.ref f33) = true)
    {f34 : Addr} {od34 an34 : Option Addr} {sl34 : Array (Option Value)} {oc34 kV34 dc34 pm34 cd34 ct34 : Value}
    (a34 : PySem.W.nsIn K mainGlobals "_need_name" = some (some (.ref f34))) (l34 : K.lookup f34 = some ⟨oc34, od34, .func (PySem.W.fnOf "_need_name" "_need_name" (defArgs s_need_name) (defBody s_need_name) (defScope s_need_name) .none kV34 dc34 pm34 an34 cd34 ct34), sl34⟩) (c34 : PySem.W.codeIn K cd34 "_need_name" = true) (k34 : PySem.W.keepIn K (.ref f34) = true)
    {f35 : Addr} {od35 an35 : Option Addr} {sl35 : Array (Option Value)} {oc35 kV35 dc35 pm35 cd35 ct35 : Value}
    (a35 : PySem.W.nsIn K mainGlobals "_find_in_row" = some (some (.ref f35))) (l35 : K.lookup f35 = some ⟨oc35, od35, .func (PySem.W.fnOf "_find_in_row" "_find_in_row" (defArgs s_find_in_row) (defBody s_find_in_row) (defScope s_find_in_row) .none kV35 dc35 pm35 an35 cd35 ct35), sl35⟩) (c35 : PySem.W.codeIn K cd35 "_find_in_row" = true) (k35 : PySem.W.keepIn K (.ref f35) = true)
    {f36 : Addr} {od36 an36 : Option Addr} {sl36 : Array (Option Value)} {oc36 kV36 dc36 pm36 cd36 ct36 : Value}
    (a36 : PySem.W.nsIn K mainGlobals "_find_in_expression" = some (some (.ref f36))) (l36 : K.lookup f36 = some ⟨oc36, od36, .func (PySem.W.fnOf "_find_in_expression" "_find_in_expression" (defArgs s_find_in_expression) (defBody s_find_in_expression) (defScope s_find_in_expression) .none kV36 dc36 pm36 an36 cd36 ct36), sl36⟩) (c36 : PySem.W.codeIn K cd36 "_find_in_expression" = true) (k36 : PySem.W.keepIn K (.ref f36) = true)
    {f37 : Addr} {od37 an37 : Option Addr} {sl37 : Array (Option Value)} {oc37 kV37 dc37 pm37 cd37 ct37 : Value}
    (a37 : PySem.W.nsIn K mainGlobals "hangs_on_blurred" = some (some (.ref f37))) (l37 : K.lookup f37 = some ⟨oc37, od37, .func (PySem.W.fnOf "hangs_on_blurred" "hangs_on_blurred" (defArgs s_hangs_on_blurred) (defBody s_hangs_on_blurred) (defScope s_hangs_on_blurred) .none kV37 dc37 pm37 an37 cd37 ct37), sl37⟩) (c37 : PySem.W.codeIn K cd37 "hangs_on_blurred" = true) (k37 : PySem.W.keepIn K (.ref f37) = true)
    {f38 : Addr} {od38 an38 : Option Addr} {sl38 : Array (Option Value)} {oc38 kV38 dc38 pm38 cd38 ct38 : Value}
    (a38 : PySem.W.nsIn K mainGlobals "at_first" = some (some (.ref f38))) (l38 : K.lookup f38 = some ⟨oc38, od38, .func (PySem.W.fnOf "at_first" "at_first" (defArgs s_at_first) (defBody s_at_first) (defScope s_at_first) .none kV38 dc38 pm38 an38 cd38 ct38), sl38⟩) (c38 : PySem.W.codeIn K cd38 "at_first" = true) (k38 : PySem.W.keepIn K (.ref f38) = true)
    {f39 : Addr} {od39 an39 : Option Addr} {sl39 : Array (Option Value)} {oc39 kV39 dc39 pm39 cd39 ct39 : Value}
    (a39 : PySem.W.nsIn K mainGlobals "names_of_lap" = some (some (.ref f39))) (l39 : K.lookup f39 = some ⟨oc39, od39, .func (PySem.W.fnOf "names_of_lap" "names_of_lap" (defArgs s_names_of_lap) (defBody s_names_of_lap) (defScope s_names_of_lap) .none kV39 dc39 pm39 an39 cd39 ct39), sl39⟩) (c39 : PySem.W.codeIn K cd39 "names_of_lap" = true) (k39 : PySem.W.keepIn K (.ref f39) = true)
    {f40 : Addr} {od40 an40 : Option Addr} {sl40 : Array (Option Value)} {oc40 kV40 dc40 pm40 cd40 ct40 : Value}
    (a40 : PySem.W.nsIn K mainGlobals "behind_turn" = some (some (.ref f40))) (l40 : K.lookup f40 = some ⟨oc40, od40, .func (PySem.W.fnOf "behind_turn" "behind_turn" (defArgs s_behind_turn) (defBody s_behind_turn) (defScope s_behind_turn) .none kV40 dc40 pm40 an40 cd40 ct40), sl40⟩) (c40 : PySem.W.codeIn K cd40 "behind_turn" = true) (k40 : PySem.W.keepIn K (.ref f40) = true)
    {f41 : Addr} {od41 an41 : Option Addr} {sl41 : Array (Option Value)} {oc41 kV41 dc41 pm41 cd41 ct41 : Value}
    (a41 : PySem.W.nsIn K mainGlobals "do_set" = some (some (.ref f41))) (l41 : K.lookup f41 = some ⟨oc41, od41, .func (PySem.W.fnOf "do_set" "do_set" (defArgs s_do_set) (defBody s_do_set) (defScope s_do_set) .none kV41 dc41 pm41 an41 cd41 ct41), sl41⟩) (c41 : PySem.W.codeIn K cd41 "do_set" = true) (k41 : PySem.W.keepIn K (.ref f41) = true)
    {f42 : Addr} {od42 an42 : Option Addr} {sl42 : Array (Option Value)} {oc42 kV42 dc42 pm42 cd42 ct42 : Value}
    (a42 : PySem.W.nsIn K mainGlobals "do_lap" = some (some (.ref f42))) (l42 : K.lookup f42 = some ⟨oc42, od42, .func (PySem.W.fnOf "do_lap" "do_lap" (defArgs s_do_lap) (defBody s_do_lap) (defScope s_do_lap) .none kV42 dc42 pm42 an42 cd42 ct42), sl42⟩) (c42 : PySem.W.codeIn K cd42 "do_lap" = true) (k42 : PySem.W.keepIn K (.ref f42) = true)
    {f43 : Addr} {od43 an43 : Option Addr} {sl43 : Array (Option Value)} {oc43 kV43 dc43 pm43 cd43 ct43 : Value}
    (a43 : PySem.W.nsIn K mainGlobals "is_even" = some (some (.ref f43))) (l43 : K.lookup f43 = some ⟨oc43, od43, .func (PySem.W.fnOf "is_even" "is_even" (defArgs s_is_even) (defBody s_is_even) (defScope s_is_even) .none kV43 dc43 pm43 an43 cd43 ct43), sl43⟩) (c43 : PySem.W.codeIn K cd43 "is_even" = true) (k43 : PySem.W.keepIn K (.ref f43) = true)
    {f44 : Addr} {od44 an44 : Option Addr} {sl44 : Array (Option Value)} {oc44 kV44 dc44 pm44 cd44 ct44 : Value}
    (a44 : PySem.W.nsIn K mainGlobals "told_in_turns" = some (some (.ref f44))) (l44 : K.lookup f44 = some ⟨oc44, od44, .func (PySem.W.fnOf "told_in_turns" "told_in_turns" (defArgs s_told_in_turns) (defBody s_told_in_turns) (defScope s_told_in_turns) .none kV44 dc44 pm44 an44 cd44 ct44), sl44⟩) (c44 : PySem.W.codeIn K cd44 "told_in_turns" = true) (k44 : PySem.W.keepIn K (.ref f44) = true)
    {f45 : Addr} {od45 an45 : Option Addr} {sl45 : Array (Option Value)} {oc45 kV45 dc45 pm45 cd45 ct45 : Value}
    (a45 : PySem.W.nsIn K mainGlobals "all_told" = some (some (.ref f45))) (l45 : K.lookup f45 = some ⟨oc45, od45, .func (PySem.W.fnOf "all_told" "all_told" (defArgs s_all_told) (defBody s_all_told) (defScope s_all_told) .none kV45 dc45 pm45 an45 cd45 ct45), sl45⟩) (c45 : PySem.W.codeIn K cd45 "all_told" = true) (k45 : PySem.W.keepIn K (.ref f45) = true)
    {f46 : Addr} {od46 an46 : Option Addr} {sl46 : Array (Option Value)} {oc46 kV46 dc46 pm46 cd46 ct46 : Value}
    (a46 : PySem.W.nsIn K mainGlobals "grown" = some (some (.ref f46))) (l46 : K.lookup f46 = some ⟨oc46, od46, .func (PySem.W.fnOf "grown" "grown" (defArgs s_grown) (defBody s_grown) (defScope s_grown) .none kV46 dc46 pm46 an46 cd46 ct46), sl46⟩) (c46 : PySem.W.codeIn K cd46 "grown" = true) (k46 : PySem.W.keepIn K (.ref f46) = true)
    {f47 : Addr} {od47 an47 : Option Addr} {sl47 : Array (Option Value)} {oc47 kV47 dc47 pm47 cd47 ct47 : Value}
    (a47 : PySem.W.nsIn K mainGlobals "in_turn" = some (some (.ref f47))) (l47 : K.lookup f47 = some ⟨oc47, od47, .func (PySem.W.fnOf "in_turn" "in_turn" (defArgs s_in_turn) (defBody s_in_turn) (defScope s_in_turn) .none kV47 dc47 pm47 an47 cd47 ct47), sl47⟩) (c47 : PySem.W.codeIn K cd47 "in_turn" = true) (k47 : PySem.W.keepIn K (.ref f47) = true)
    {f48 : Addr} {od48 an48 : Option Addr} {sl48 : Array (Option Value)} {oc48 kV48 dc48 pm48 cd48 ct48 : Value}
    (a48 : PySem.W.nsIn K mainGlobals "_behind" = some (some (.ref f48))) (l48 : K.lookup f48 = some ⟨oc48, od48, .func (PySem.W.fnOf "_behind" "_behind" (defArgs s_behind) (defBody s_behind) (defScope s_behind) .none kV48 dc48 pm48 an48 cd48 ct48), sl48⟩) (c48 : PySem.W.codeIn K cd48 "_behind" = true) (k48 : PySem.W.keepIn K (.ref f48) = true)
    {f49 : Addr} {od49 an49 : Option Addr} {sl49 : Array (Option Value)} {oc49 kV49 dc49 pm49 cd49 ct49 : Value}
    (a49 : PySem.W.nsIn K mainGlobals "_keep" = some (some (.ref f49))) (l49 : K.lookup f49 = some ⟨oc49, od49, .func (PySem.W.fnOf "_keep" "_keep" (defArgs s_keep) (defBody s_keep) (defScope s_keep) .none kV49 dc49 pm49 an49 cd49 ct49), sl49⟩) (c49 : PySem.W.codeIn K cd49 "_keep" = true) (k49 : PySem.W.keepIn K (.ref f49) = true)
    {f50 : Addr} {od50 an50 : Option Addr} {sl50 : Array (Option Value)} {oc50 kV50 dc50 pm50 cd50 ct50 : Value}
    (a50 : PySem.W.nsIn K mainGlobals "_blurred" = some (some (.ref f50))) (l50 : K.lookup f50 = some ⟨oc50, od50, .func (PySem.W.fnOf "_blurred" "_blurred" (defArgs s_blurred) (defBody s_blurred) (defScope s_blurred) .none kV50 dc50 pm50 an50 cd50 ct50), sl50⟩) (c50 : PySem.W.codeIn K cd50 "_blurred" = true) (k50 : PySem.W.keepIn K (.ref f50) = true)
    {f51 : Addr} {od51 an51 : Option Addr} {sl51 : Array (Option Value)} {oc51 kV51 dc51 pm51 cd51 ct51 : Value}
    (a51 : PySem.W.nsIn K mainGlobals "_may_set" = some (some (.ref f51))) (l51 : K.lookup f51 = some ⟨oc51, od51, .func (PySem.W.fnOf "_may_set" "_may_set" (defArgs s_may_set) (defBody s_may_set) (defScope s_may_set) .none kV51 dc51 pm51 an51 cd51 ct51), sl51⟩) (c51 : PySem.W.codeIn K cd51 "_may_set" = true) (k51 : PySem.W.keepIn K (.ref f51) = true)
    {f52 : Addr} {od52 an52 : Option Addr} {sl52 : Array (Option Value)} {oc52 kV52 dc52 pm52 cd52 ct52 : Value}
    (a52 : PySem.W.nsIn K mainGlobals "_ends_of_even" = some (some (.ref f52))) (l52 : K.lookup f52 = some ⟨oc52, od52, .func (PySem.W.fnOf "_ends_of_even" "_ends_of_even" (defArgs s_ends_of_even) (defBody s_ends_of_even) (defScope s_ends_of_even) .none kV52 dc52 pm52 an52 cd52 ct52), sl52⟩) (c52 : PySem.W.codeIn K cd52 "_ends_of_even" = true) (k52 : PySem.W.keepIn K (.ref f52) = true)
    {f53 : Addr} {od53 an53 : Option Addr} {sl53 : Array (Option Value)} {oc53 kV53 dc53 pm53 cd53 ct53 : Value}
    (a53 : PySem.W.nsIn K mainGlobals "looked" = some (some (.ref f53))) (l53 : K.lookup f53 = some ⟨oc53, od53, .func (PySem.W.fnOf "looked" "looked" (defArgs s_looked) (defBody s_looked) (defScope s_looked) .none kV53 dc53 pm53 an53 cd53 ct53), sl53⟩) (c53 : PySem.W.codeIn K cd53 "looked" = true) (k53 : PySem.W.keepIn K (.ref f53) = true)
    {f54 : Addr} {od54 an54 : Option Addr} {sl54 : Array (Option Value)} {oc54 kV54 dc54 pm54 cd54 ct54 : Value}
    (a54 : PySem.W.nsIn K mainGlobals "_look_at_row" = some (some (.ref f54))) (l54 : K.lookup f54 = some ⟨oc54, od54, .func (PySem.W.fnOf "_look_at_row" "_look_at_row" (defArgs s_look_at_row) (defBody s_look_at_row) (defScope s_look_at_row) .none kV54 dc54 pm54 an54 cd54 ct54), sl54⟩) (c54 : PySem.W.codeIn K cd54 "_look_at_row" = true) (k54 : PySem.W.keepIn K (.ref f54) = true)
    {f55 : Addr} {od55 an55 : Option Addr} {sl55 : Array (Option Value)} {oc55 kV55 dc55 pm55 cd55 ct55 : Value}
    (a55 : PySem.W.nsIn K mainGlobals "_falls" = some (some (.ref f55))) (l55 : K.lookup f55 = some ⟨oc55, od55, .func (PySem.W.fnOf "_falls" "_falls" (defArgs s_falls) (defBody s_falls) (defScope s_falls) .none kV55 dc55 pm55 an55 cd55 ct55), sl55⟩) (c55 : PySem.W.codeIn K cd55 "_falls" = true) (k55 : PySem.W.keepIn K (.ref f55) = true)
    {f56 : Addr} {od56 an56 : Option Addr} {sl56 : Array (Option Value)} {oc56 kV56 dc56 pm56 cd56 ct56 : Value}
    (a56 : PySem.W.nsIn K mainGlobals "written" = some (some (.ref f56))) (l56 : K.lookup f56 = some ⟨oc56, od56, .func (PySem.W.fnOf "written" "written" (defArgs s_written) (defBody s_written) (defScope s_written) .none kV56 dc56 pm56 an56 cd56 ct56), sl56⟩) (c56 : PySem.W.codeIn K cd56 "written" = true) (k56 : PySem.W.keepIn K (.ref f56) = true)
    {f57 : Addr} {od57 an57 : Option Addr} {sl57 : Array (Option Value)} {oc57 kV57 dc57 pm57 cd57 ct57 : Value}
    (a57 : PySem.W.nsIn K mainGlobals "_row_written" = some (some (.ref f57))) (l57 : K.lookup f57 = some ⟨oc57, od57, .func (PySem.W.fnOf "_row_written" "_row_written" (defArgs s_row_written) (defBody s_row_written) (defScope s_row_written) .none kV57 dc57 pm57 an57 cd57 ct57), sl57⟩) (c57 : PySem.W.codeIn K cd57 "_row_written" = true) (k57 : PySem.W.keepIn K (.ref f57) = true)
    {f58 : Addr} {od58 an58 : Option Addr} {sl58 : Array (Option Value)} {oc58 kV58 dc58 pm58 cd58 ct58 : Value}
    (a58 : PySem.W.nsIn K mainGlobals "_statement_written" = some (some (.ref f58))) (l58 : K.lookup f58 = some ⟨oc58, od58, .func (PySem.W.fnOf "_statement_written" "_statement_written" (defArgs s_statement_written) (defBody s_statement_written) (defScope s_statement_written) .none kV58 dc58 pm58 an58 cd58 ct58), sl58⟩) (c58 : PySem.W.codeIn K cd58 "_statement_written" = true) (k58 : PySem.W.keepIn K (.ref f58) = true)
    {f59 : Addr} {od59 an59 : Option Addr} {sl59 : Array (Option Value)} {oc59 kV59 dc59 pm59 cd59 ct59 : Value}
    (a59 : PySem.W.nsIn K mainGlobals "_lap_written" = some (some (.ref f59))) (l59 : K.lookup f59 = some ⟨oc59, od59, .func (PySem.W.fnOf "_lap_written" "_lap_written" (defArgs s_lap_written) (defBody s_lap_written) (defScope s_lap_written) .none kV59 dc59 pm59 an59 cd59 ct59), sl59⟩) (c59 : PySem.W.codeIn K cd59 "_lap_written" = true) (k59 : PySem.W.keepIn K (.ref f59) = true)
    {f60 : Addr} {od60 an60 : Option Addr} {sl60 : Array (Option Value)} {oc60 kV60 dc60 pm60 cd60 ct60 : Value}
    (a60 : PySem.W.nsIn K mainGlobals "_all_but" = some (some (.ref f60))) (l60 : K.lookup f60 = some ⟨oc60, od60, .func (PySem.W.fnOf "_all_but" "_all_but" (defArgs s_all_but) (defBody s_all_but) (defScope s_all_but) .none kV60 dc60 pm60 an60 cd60 ct60), sl60⟩) (c60 : PySem.W.codeIn K cd60 "_all_but" = true) (k60 : PySem.W.keepIn K (.ref f60) = true)
    {f61 : Addr} {od61 an61 : Option Addr} {sl61 : Array (Option Value)} {oc61 kV61 dc61 pm61 cd61 ct61 : Value}
    (a61 : PySem.W.nsIn K mainGlobals "_expression_written" = some (some (.ref f61))) (l61 : K.lookup f61 = some ⟨oc61, od61, .func (PySem.W.fnOf "_expression_written" "_expression_written" (defArgs s_expression_written) (defBody s_expression_written) (defScope s_expression_written) .none kV61 dc61 pm61 an61 cd61 ct61), sl61⟩) (c61 : PySem.W.codeIn K cd61 "_expression_written" = true) (k61 : PySem.W.keepIn K (.ref f61) = true)
    {f62 : Addr} {od62 an62 : Option Addr} {sl62 : Array (Option Value)} {oc62 kV62 dc62 pm62 cd62 ct62 : Value}
    (a62 : PySem.W.nsIn K mainGlobals "_law_next" = some (some (.ref f62))) (l62 : K.lookup f62 = some ⟨oc62, od62, .func (PySem.W.fnOf "_law_next" "_law_next" (defArgs s_law_next) (defBody s_law_next) (defScope s_law_next) .none kV62 dc62 pm62 an62 cd62 ct62), sl62⟩) (c62 : PySem.W.codeIn K cd62 "_law_next" = true) (k62 : PySem.W.keepIn K (.ref f62) = true)
    {f63 : Addr} {od63 an63 : Option Addr} {sl63 : Array (Option Value)} {oc63 kV63 dc63 pm63 cd63 ct63 : Value}
    (a63 : PySem.W.nsIn K mainGlobals "_law_names" = some (some (.ref f63))) (l63 : K.lookup f63 = some ⟨oc63, od63, .func (PySem.W.fnOf "_law_names" "_law_names" (defArgs s_law_names) (defBody s_law_names) (defScope s_law_names) .none kV63 dc63 pm63 an63 cd63 ct63), sl63⟩) (c63 : PySem.W.codeIn K cd63 "_law_names" = true) (k63 : PySem.W.keepIn K (.ref f63) = true)
    {f64 : Addr} {od64 an64 : Option Addr} {sl64 : Array (Option Value)} {oc64 kV64 dc64 pm64 cd64 ct64 : Value}
    (a64 : PySem.W.nsIn K mainGlobals "_law_part" = some (some (.ref f64))) (l64 : K.lookup f64 = some ⟨oc64, od64, .func (PySem.W.fnOf "_law_part" "_law_part" (defArgs s_law_part) (defBody s_law_part) (defScope s_law_part) .none kV64 dc64 pm64 an64 cd64 ct64), sl64⟩) (c64 : PySem.W.codeIn K cd64 "_law_part" = true) (k64 : PySem.W.keepIn K (.ref f64) = true)
    {f65 : Addr} {od65 an65 : Option Addr} {sl65 : Array (Option Value)} {oc65 kV65 dc65 pm65 cd65 ct65 : Value}
    (a65 : PySem.W.nsIn K mainGlobals "_law_measure" = some (some (.ref f65))) (l65 : K.lookup f65 = some ⟨oc65, od65, .func (PySem.W.fnOf "_law_measure" "_law_measure" (defArgs s_law_measure) (defBody s_law_measure) (defScope s_law_measure) .none kV65 dc65 pm65 an65 cd65 ct65), sl65⟩) (c65 : PySem.W.codeIn K cd65 "_law_measure" = true) (k65 : PySem.W.keepIn K (.ref f65) = true)
    {f66 : Addr} {od66 an66 : Option Addr} {sl66 : Array (Option Value)} {oc66 kV66 dc66 pm66 cd66 ct66 : Value}
    (a66 : PySem.W.nsIn K mainGlobals "_law_lap" = some (some (.ref f66))) (l66 : K.lookup f66 = some ⟨oc66, od66, .func (PySem.W.fnOf "_law_lap" "_law_lap" (defArgs s_law_lap) (defBody s_law_lap) (defScope s_law_lap) .none kV66 dc66 pm66 an66 cd66 ct66), sl66⟩) (c66 : PySem.W.codeIn K cd66 "_law_lap" = true) (k66 : PySem.W.keepIn K (.ref f66) = true)
    {f67 : Addr} {od67 an67 : Option Addr} {sl67 : Array (Option Value)} {oc67 kV67 dc67 pm67 cd67 ct67 : Value}
    (a67 : PySem.W.nsIn K mainGlobals "_law_grow" = some (some (.ref f67))) (l67 : K.lookup f67 = some ⟨oc67, od67, .func (PySem.W.fnOf "_law_grow" "_law_grow" (defArgs s_law_grow) (defBody s_law_grow) (defScope s_law_grow) .none kV67 dc67 pm67 an67 cd67 ct67), sl67⟩) (c67 : PySem.W.codeIn K cd67 "_law_grow" = true) (k67 : PySem.W.keepIn K (.ref f67) = true)
    {f68 : Addr} {od68 an68 : Option Addr} {sl68 : Array (Option Value)} {oc68 kV68 dc68 pm68 cd68 ct68 : Value}
    (a68 : PySem.W.nsIn K mainGlobals "_law_row" = some (some (.ref f68))) (l68 : K.lookup f68 = some ⟨oc68, od68, .func (PySem.W.fnOf "_law_row" "_law_row" (defArgs s_law_row) (defBody s_law_row) (defScope s_law_row) .none kV68 dc68 pm68 an68 cd68 ct68), sl68⟩) (c68 : PySem.W.codeIn K cd68 "_law_row" = true) (k68 : PySem.W.keepIn K (.ref f68) = true)
    {f69 : Addr} {od69 an69 : Option Addr} {sl69 : Array (Option Value)} {oc69 kV69 dc69 pm69 cd69 ct69 : Value}
    (a69 : PySem.W.nsIn K mainGlobals "_law_program" = some (some (.ref f69))) (l69 : K.lookup f69 = some ⟨oc69, od69, .func (PySem.W.fnOf "_law_program" "_law_program" (defArgs s_law_program) (defBody s_law_program) (defScope s_law_program) .none kV69 dc69 pm69 an69 cd69 ct69), sl69⟩) (c69 : PySem.W.codeIn K cd69 "_law_program" = true) (k69 : PySem.W.keepIn K (.ref f69) = true)
    {f70 : Addr} {od70 an70 : Option Addr} {sl70 : Array (Option Value)} {oc70 kV70 dc70 pm70 cd70 ct70 : Value}
    (a70 : PySem.W.nsIn K mainGlobals "_law_bad_part" = some (some (.ref f70))) (l70 : K.lookup f70 = some ⟨oc70, od70, .func (PySem.W.fnOf "_law_bad_part" "_law_bad_part" (defArgs s_law_bad_part) (defBody s_law_bad_part) (defScope s_law_bad_part) .none kV70 dc70 pm70 an70 cd70 ct70), sl70⟩) (c70 : PySem.W.codeIn K cd70 "_law_bad_part" = true) (k70 : PySem.W.keepIn K (.ref f70) = true)
    {f71 : Addr} {od71 an71 : Option Addr} {sl71 : Array (Option Value)} {oc71 kV71 dc71 pm71 cd71 ct71 : Value}
    (a71 : PySem.W.nsIn K mainGlobals "_law_bad" = some (some (.ref f71))) (l71 : K.lookup f71 = some ⟨oc71, od71, .func (PySem.W.fnOf "_law_bad" "_law_bad" (defArgs s_law_bad) (defBody s_law_bad) (defScope s_law_bad) .none kV71 dc71 pm71 an71 cd71 ct71), sl71⟩) (c71 : PySem.W.codeIn K cd71 "_law_bad" = true) (k71 : PySem.W.keepIn K (.ref f71) = true)
    {f72 : Addr} {od72 an72 : Option Addr} {sl72 : Array (Option Value)} {oc72 kV72 dc72 pm72 cd72 ct72 : Value}
    (a72 : PySem.W.nsIn K mainGlobals "_law_spoilt" = some (some (.ref f72))) (l72 : K.lookup f72 = some ⟨oc72, od72, .func (PySem.W.fnOf "_law_spoilt" "_law_spoilt" (defArgs s_law_spoilt) (defBody s_law_spoilt) (defScope s_law_spoilt) .none kV72 dc72 pm72 an72 cd72 ct72), sl72⟩) (c72 : PySem.W.codeIn K cd72 "_law_spoilt" = true) (k72 : PySem.W.keepIn K (.ref f72) = true)
    {f73 : Addr} {od73 an73 : Option Addr} {sl73 : Array (Option Value)} {oc73 kV73 dc73 pm73 cd73 ct73 : Value}
    (a73 : PySem.W.nsIn K mainGlobals "_law_refused" = some (some (.ref f73))) (l73 : K.lookup f73 = some ⟨oc73, od73, .func (PySem.W.fnOf "_law_refused" "_law_refused" (defArgs s_law_refused) (defBody s_law_refused) (defScope s_law_refused) .none kV73 dc73 pm73 an73 cd73 ct73), sl73⟩) (c73 : PySem.W.codeIn K cd73 "_law_refused" = true) (k73 : PySem.W.keepIn K (.ref f73) = true)
    {f74 : Addr} {od74 an74 : Option Addr} {sl74 : Array (Option Value)} {oc74 kV74 dc74 pm74 cd74 ct74 : Value}
    (a74 : PySem.W.nsIn K mainGlobals "law" = some (some (.ref f74))) (l74 : K.lookup f74 = some ⟨oc74, od74, .func (PySem.W.fnOf "law" "law" (defArgs s_law) (defBody s_law) (defScope s_law) .none kV74 dc74 pm74 an74 cd74 ct74), sl74⟩) (c74 : PySem.W.codeIn K cd74 "law" = true) (k74 : PySem.W.keepIn K (.ref f74) = true)
    {C_Sum : Addr} (aC_Sum : PySem.W.nsIn K mainGlobals "Sum" = some (some (.ref C_Sum)))
    {f_Sum_init : Addr} {od_Sum_init an_Sum_init : Option Addr} {sl_Sum_init : Array (Option Value)} {oc_Sum_init kV_Sum_init dc_Sum_init pm_Sum_init cd_Sum_init ct_Sum_init : Value}
    (a_Sum_init : PySem.W.findIn K (.ref C_Sum) "__init__" = some (some (.ref f_Sum_init))) (i_Sum_init : PySem.W.isFn K (.ref f_Sum_init) = true) (l_Sum_init : K.lookup f_Sum_init = some ⟨oc_Sum_init, od_Sum_init, .func (PySem.W.fnOf "__init__" "Sum.__init__" (defArgs s_Sum_init) (defBody s_Sum_init) (defScope s_Sum_init) .none kV_Sum_init dc_Sum_init pm_Sum_init an_Sum_init cd_Sum_init ct_Sum_init), sl_Sum_init⟩) (c_Sum_init : PySem.W.codeIn K cd_Sum_init "Sum.__init__" = true) (k_Sum_init : PySem.W.keepIn K (.ref f_Sum_init) = true)
    (pg_Sum : PySem.W.plainGet K C_Sum Str.empty = true) (hd_Sum : PySem.W.hasDictIn K C_Sum = true) (po_Sum : PySem.W.plainOver K C_Sum = true) (sa_Sum : PySem.W.findIn K (.ref C_Sum) "__setattr__" = some (some (.builtin "object.__setattr__"))) (mk_Sum : PySem.W.makesIn K C_Sum = true) (kc_Sum : PySem.W.keepIn K (.ref C_Sum) = true)
    (na_Sum_parts : PySem.W.findIn K (.ref C_Sum) "parts" = some none)
    {v_NOUGHT : Addr} {o_NOUGHT : Option Addr} {n_NOUGHT : Nat} {s_NOUGHT : Array (Option Value)} {t0_NOUGHT t1_NOUGHT : Tok}
    (av_NOUGHT : PySem.W.nsIn K mainGlobals "NOUGHT" = some (some (.ref v_NOUGHT))) (lv_NOUGHT : K.lookup v_NOUGHT = some ⟨.type "tuple", o_NOUGHT, .seq #[.int 0 t0_NOUGHT, .int 1 t1_NOUGHT] n_NOUGHT, s_NOUGHT⟩)
    {v_ONE : Addr} {o_ONE : Option Addr} {n_ONE : Nat} {s_ONE : Array (Option Value)} {t0_ONE t1_ONE : Tok}
    (av_ONE : PySem.W.nsIn K mainGlobals "ONE" = some (some (.ref v_ONE))) (lv_ONE : K.lookup v_ONE = some ⟨.type "tuple", o_ONE, .seq #[.int 1 t0_ONE, .int 1 t1_ONE] n_ONE, s_ONE⟩)
    {u_TURN : Tok} (av_TURN : PySem.W.nsIn K mainGlobals "TURN" = some (some (.str "the turn" u_TURN)))
    {u_BLURRED : Tok} (av_BLURRED : PySem.W.nsIn K mainGlobals "BLURRED" = some (some (.str "blurred " u_BLURRED)))
    {u_MOST_LETTERS : Tok} (av_MOST_LETTERS : PySem.W.nsIn K mainGlobals "MOST_LETTERS" = some (some (.int 8 u_MOST_LETTERS)))
    {u_HIGHEST_NUMBER : Tok} (av_HIGHEST_NUMBER : PySem.W.nsIn K mainGlobals "HIGHEST_NUMBER" = some (some (.int 999 u_HIGHEST_NUMBER)))
    {u_MOST_DEEP : Tok} (av_MOST_DEEP : PySem.W.nsIn K mainGlobals "MOST_DEEP" = some (some (.int 5 u_MOST_DEEP)))
    {u_MOST_STATEMENTS : Tok} (av_MOST_STATEMENTS : PySem.W.nsIn K mainGlobals "MOST_STATEMENTS" = some (some (.int 40 u_MOST_STATEMENTS)))
    {u_MOST_LAPS : Tok} (av_MOST_LAPS : PySem.W.nsIn K mainGlobals "MOST_LAPS" = some (some (.int 3 u_MOST_LAPS)))
    {v_ROWS : Addr} {o_ROWS : Option Addr} {n_ROWS : Nat} {s_ROWS : Array (Option Value)} {i0_ROWS : Addr}
    (av_ROWS : PySem.W.nsIn K mainGlobals "ROWS" = some (some (.ref v_ROWS))) (lv_ROWS : K.lookup v_ROWS = some ⟨.type "tuple", o_ROWS, .seq #[.ref i0_ROWS] n_ROWS, s_ROWS⟩)
    {o0_ROWS : Option Addr} {n0_ROWS : Nat} {s0_ROWS : Array (Option Value)} {t0_0_ROWS t0_1_ROWS : Tok} (lv0_ROWS : K.lookup i0_ROWS = some ⟨.type "tuple", o0_ROWS, .seq #[.str "row" t0_0_ROWS, .int 2 t0_1_ROWS] n0_ROWS, s0_ROWS⟩)
    {v_STATEMENTS : Addr} {o_STATEMENTS : Option Addr} {n_STATEMENTS : Nat} {s_STATEMENTS : Array (Option Value)} {i0_STATEMENTS i1_STATEMENTS i2_STATEMENTS : Addr}
    (av_STATEMENTS : PySem.W.nsIn K mainGlobals "STATEMENTS" = some (some (.ref v_STATEMENTS))) (lv_STATEMENTS : K.lookup v_STATEMENTS = some ⟨.type "tuple", o_STATEMENTS, .seq #[.ref i0_STATEMENTS, .ref i1_STATEMENTS, .ref i2_STATEMENTS] n_STATEMENTS, s_STATEMENTS⟩)
    {o0_STATEMENTS : Option Addr} {n0_STATEMENTS : Nat} {s0_STATEMENTS : Array (Option Value)} {t0_0_STATEMENTS t0_1_STATEMENTS : Tok} (lv0_STATEMENTS : K.lookup i0_STATEMENTS = some ⟨.type "tuple", o0_STATEMENTS, .seq #[.str "set" t0_0_STATEMENTS, .int 3 t0_1_STATEMENTS] n0_STATEMENTS, s0_STATEMENTS⟩)
    {o1_STATEMENTS : Option Addr} {n1_STATEMENTS : Nat} {s1_STATEMENTS : Array (Option Value)} {t1_0_STATEMENTS t1_1_STATEMENTS : Tok} (lv1_STATEMENTS : K.lookup i1_STATEMENTS = some ⟨.type "tuple", o1_STATEMENTS, .seq #[.str "say" t1_0_STATEMENTS, .int 2 t1_1_STATEMENTS] n1_STATEMENTS, s1_STATEMENTS⟩)
    {o2_STATEMENTS : Option Addr} {n2_STATEMENTS : Nat} {s2_STATEMENTS : Array (Option Value)} {t2_0_STATEMENTS t2_1_STATEMENTS : Tok} (lv2_STATEMENTS : K.lookup i2_STATEMENTS = some ⟨.type "tuple", o2_STATEMENTS, .seq #[.str "lap" t2_0_STATEMENTS, .int 4 t2_1_STATEMENTS] n2_STATEMENTS, s2_STATEMENTS⟩)
    {v_EXPRESSIONS : Addr} {o_EXPRESSIONS : Option Addr} {n_EXPRESSIONS : Nat} {s_EXPRESSIONS : Array (Option Value)} {i0_EXPRESSIONS i1_EXPRESSIONS i2_EXPRESSIONS i3_EXPRESSIONS : Addr}
    (av_EXPRESSIONS : PySem.W.nsIn K mainGlobals "EXPRESSIONS" = some (some (.ref v_EXPRESSIONS))) (lv_EXPRESSIONS : K.lookup v_EXPRESSIONS = some ⟨.type "tuple", o_EXPRESSIONS, .seq #[.ref i0_EXPRESSIONS, .ref i1_EXPRESSIONS, .ref i2_EXPRESSIONS, .ref i3_EXPRESSIONS] n_EXPRESSIONS, s_EXPRESSIONS⟩)
    {o0_EXPRESSIONS : Option Addr} {n0_EXPRESSIONS : Nat} {s0_EXPRESSIONS : Array (Option Value)} {t0_0_EXPRESSIONS t0_1_EXPRESSIONS : Tok} (lv0_EXPRESSIONS : K.lookup i0_EXPRESSIONS = some ⟨.type "tuple", o0_EXPRESSIONS, .seq #[.str "num" t0_0_EXPRESSIONS, .int 2 t0_1_EXPRESSIONS] n0_EXPRESSIONS, s0_EXPRESSIONS⟩)
    {o1_EXPRESSIONS : Option Addr} {n1_EXPRESSIONS : Nat} {s1_EXPRESSIONS : Array (Option Value)} {t1_0_EXPRESSIONS t1_1_EXPRESSIONS : Tok} (lv1_EXPRESSIONS : K.lookup i1_EXPRESSIONS = some ⟨.type "tuple", o1_EXPRESSIONS, .seq #[.str "name" t1_0_EXPRESSIONS, .int 2 t1_1_EXPRESSIONS] n1_EXPRESSIONS, s1_EXPRESSIONS⟩)
    {o2_EXPRESSIONS : Option Addr} {n2_EXPRESSIONS : Nat} {s2_EXPRESSIONS : Array (Option Value)} {t2_0_EXPRESSIONS t2_1_EXPRESSIONS : Tok} (lv2_EXPRESSIONS : K.lookup i2_EXPRESSIONS = some ⟨.type "tuple", o2_EXPRESSIONS, .seq #[.str "add" t2_0_EXPRESSIONS, .int 3 t2_1_EXPRESSIONS] n2_EXPRESSIONS, s2_EXPRESSIONS⟩)
    {o3_EXPRESSIONS : Option Addr} {n3_EXPRESSIONS : Nat} {s3_EXPRESSIONS : Array (Option Value)} {t3_0_EXPRESSIONS t3_1_EXPRESSIONS : Tok} (lv3_EXPRESSIONS : K.lookup i3_EXPRESSIONS = some ⟨.type "tuple", o3_EXPRESSIONS, .seq #[.str "times" t3_0_EXPRESSIONS, .int 3 t3_1_EXPRESSIONS] n3_EXPRESSIONS, s3_EXPRESSIONS⟩)
    {L B D N U : Addr}
    (e_gL : PySem.W.nsIn K mainGlobals "LapError" = some (some (.ref L)))
    (e_gB : PySem.W.nsIn K mainGlobals "BadForm" = some (some (.ref B)))
    (e_gD : PySem.W.nsIn K mainGlobals "Dry" = some (some (.ref D)))
    (e_gN : PySem.W.nsIn K mainGlobals "NeedntFall" = some (some (.ref N)))
    (e_gU : PySem.W.nsIn K mainGlobals "Uneven" = some (some (.ref U)))
    (e_xB : PySem.W.excIn K B [.type "ValueError", .type "Exception", .type "BaseException", .type "object"] "ValueError.__new__" = true)
    (e_kB : PySem.W.keepIn K (.ref B) = true)
    (e_bB : PySem.W.subIn K (.ref B) (.type "BaseException") = some true)
    (e_tB : PySem.W.typeIn K (.ref B) = some (.type "type"))
    (e_bL : PySem.W.subIn K (.ref L) (.type "BaseException") = some true)
    (e_hL : PySem.W.hasDictIn K L = true)
    (e_tL : PySem.W.typeIn K (.ref L) = some (.type "type"))
    (e_sBL : PySem.W.subIn K (.ref B) (.ref L) = some true)
    (e_hgB : PySem.W.findIn K (.ref B) "__getattribute__" = some (some (.builtin "BaseException.__getattribute__")))
    (e_hkB : PySem.W.findIn K (.ref B) "__getattr__" = some none)
    (e_hdB : PySem.W.hasDictIn K B = true)
    (e_haB : PySem.W.findIn K (.ref B) "__class__" = some (some (.builtin "object.__class__")))
    (e_hnB : PySem.W.specialIn K (.builtin "object.__class__") "__get__" = some (some (.builtin "getset_descriptor.__get__")))
    (e_htB : PySem.W.takesIn K (.builtin "object.__class__") = some true)
    (e_hmB : PySem.W.mroIn K B (.type "object") = some true)
    (e_sBB : PySem.W.subIn K (.ref B) (.ref B) = some true)
    (e_iBB : PySem.W.kitOne K (.ref B) (.ref B) = some true)
    (e_iBV : PySem.W.kitOne K (.ref B) (.type "ValueError") = some true)
    (e_iBD : PySem.W.kitOne K (.ref B) (.ref D) = some false)
    (e_iBN : PySem.W.kitOne K (.ref B) (.ref N) = some false)
    (e_iBU : PySem.W.kitOne K (.ref B) (.ref U) = some false)
    (z_sorted : PySem.W.nsIn K mainGlobals "sorted" = some none)
    (z_all : PySem.W.nsIn K mainGlobals "all" = some none)
    (z_set : PySem.W.nsIn K mainGlobals "set" = some none)
    (z_tuple : PySem.W.nsIn K mainGlobals "tuple" = some none)
    (z_len : PySem.W.nsIn K mainGlobals "len" = some none)
    (z_range : PySem.W.nsIn K mainGlobals "range" = some none)
    (z_max : PySem.W.nsIn K mainGlobals "max" = some none)
    (z_type : PySem.W.nsIn K mainGlobals "type" = some none)
    (z_str : PySem.W.nsIn K mainGlobals "str" = some none)
    (z_int : PySem.W.nsIn K mainGlobals "int" = some none)
    (z_any : PySem.W.nsIn K mainGlobals "any" = some none)
    (z_enumerate : PySem.W.nsIn K mainGlobals "enumerate" = some none)
    (z_reversed : PySem.W.nsIn K mainGlobals "reversed" = some none)
    (z_isinstance : PySem.W.nsIn K mainGlobals "isinstance" = some none)
    (z_ValueError : PySem.W.nsIn K mainGlobals "ValueError" = some none)
    (z_list : PySem.W.nsIn K mainGlobals "list" = some none)
    (y_gcd : PySem.W.nsIn K mainGlobals "gcd" = some (some (.builtin "math.gcd"))) :
    ∃ fd : FuncData, (∀ (s : Shared) (v : Value), BindsTo s fd ⟨[v], []⟩ [("_law_script", v)]) ∧ ∀ base : Heap, K.In base → base.Ns mainGlobals mg → FnOk l.prog w K mg base CX0 90 fa fd ["_law_script"] (spLaw K) := by
  have e := hfa.symm.trans (PySem.W.mg_of X G a74)
  cases e
  have F0 := fun_mk (st := s_share) l0 c0 k0
  have D0 : DefAt K mg "share" "share" s_share ["top", "bottom"] _ _ := ⟨F0, PySem.W.mg_of X G a0, F0.binds (ps := ["top", "bottom"]) fun _ _ _ _ _ _ us hl => match us, hl with | [_, _], _ => rfl⟩
  have F1 := fun_mk (st := s_plus) l1 c1 k1
  have D1 : DefAt K mg "plus" "plus" s_plus ["one", "other"] _ _ := ⟨F1, PySem.W.mg_of X G a1, F1.binds (ps := ["one", "other"]) fun _ _ _ _ _ _ us hl => match us, hl with | [_, _], _ => rfl⟩
  have F2 := fun_mk (st := s_minus) l2 c2 k2
  have D2 : DefAt K mg "minus" "minus" s_minus ["one", "other"] _ _ := ⟨F2, PySem.W.mg_of X G a2, F2.binds (ps := ["one", "other"]) fun _ _ _ _ _ _ us hl => match us, hl with | [_, _], _ => rfl⟩
  have F3 := fun_mk (st := s_times) l3 c3 k3
  have D3 : DefAt K mg "times" "times" s_times ["one", "other"] _ _ := ⟨F3, PySem.W.mg_of X G a3, F3.binds (ps := ["one", "other"]) fun _ _ _ _ _ _ us hl => match us, hl with | [_, _], _ => rfl⟩
  have F4 := fun_mk (st := s_sum_of_number) l4 c4 k4
  have D4 : DefAt K mg "sum_of_number" "sum_of_number" s_sum_of_number ["n"] _ _ := ⟨F4, PySem.W.mg_of X G a4, F4.binds (ps := ["n"]) fun _ _ _ _ _ _ us hl => match us, hl with | [_], _ => rfl⟩
  have F5 := fun_mk (st := s_sum_of_name) l5 c5 k5
  have D5 : DefAt K mg "sum_of_name" "sum_of_name" s_sum_of_name ["x"] _ _ := ⟨F5, PySem.W.mg_of X G a5, F5.binds (ps := ["x"]) fun _ _ _ _ _ _ us hl => match us, hl with | [_], _ => rfl⟩
  have F6 := fun_mk (st := s_added) l6 c6 k6
  have D6 : DefAt K mg "added" "added" s_added ["one", "other"] _ _ := ⟨F6, PySem.W.mg_of X G a6, F6.binds (ps := ["one", "other"]) fun _ _ _ _ _ _ us hl => match us, hl with | [_, _], _ => rfl⟩
  have F7 := fun_mk (st := s_lessened) l7 c7 k7
  have D7 : DefAt K mg "lessened" "lessened" s_lessened ["one", "other"] _ _ := ⟨F7, PySem.W.mg_of X G a7, F7.binds (ps := ["one", "other"]) fun _ _ _ _ _ _ us hl => match us, hl with | [_, _], _ => rfl⟩
  have F8 := fun_mk (st := s_timed) l8 c8 k8
  have D8 : DefAt K mg "timed" "timed" s_timed ["one", "other"] _ _ := ⟨F8, PySem.W.mg_of X G a8, F8.binds (ps := ["one", "other"]) fun _ _ _ _ _ _ us hl => match us, hl with | [_, _], _ => rfl⟩
  have F9 := fun_mk (st := s_put_in) l9 c9 k9
  have D9 : DefAt K mg "put_in" "put_in" s_put_in ["given", "filling"] _ _ := ⟨F9, PySem.W.mg_of X G a9, F9.binds (ps := ["given", "filling"]) fun _ _ _ _ _ _ us hl => match us, hl with | [_, _], _ => rfl⟩
  have F10 := fun_mk (st := s_totalled) l10 c10 k10
  have D10 : DefAt K mg "totalled" "totalled" s_totalled ["given", "x", "many"] _ _ := ⟨F10, PySem.W.mg_of X G a10, F10.binds (ps := ["given", "x", "many"]) fun _ _ _ _ _ _ us hl => match us, hl with | [_, _, _], _ => rfl⟩
  have F11 := fun_mk (st := s_is_natural) l11 c11 k11
  have D11 : DefAt K mg "is_natural" "is_natural" s_is_natural ["given"] _ _ := ⟨F11, PySem.W.mg_of X G a11, F11.binds (ps := ["given"]) fun _ _ _ _ _ _ us hl => match us, hl with | [_], _ => rfl⟩
  have F12 := fun_mk (st := s_same) l12 c12 k12
  have D12 : DefAt K mg "same" "same" s_same ["one", "other"] _ _ := ⟨F12, PySem.W.mg_of X G a12, F12.binds (ps := ["one", "other"]) fun _ _ _ _ _ _ us hl => match us, hl with | [_, _], _ => rfl⟩
  have F13 := fun_mk (st := s_names_in) l13 c13 k13
  have D13 : DefAt K mg "names_in" "names_in" s_names_in ["given"] _ _ := ⟨F13, PySem.W.mg_of X G a13, F13.binds (ps := ["given"]) fun _ _ _ _ _ _ us hl => match us, hl with | [_], _ => rfl⟩
  have F14 := fun_mk (st := s_put_to) l14 c14 k14
  have D14 : DefAt K mg "_put_to" "_put_to" s_put_to ["shares", "key", "part"] _ _ := ⟨F14, PySem.W.mg_of X G a14, F14.binds (ps := ["shares", "key", "part"]) fun _ _ _ _ _ _ us hl => match us, hl with | [_, _, _], _ => rfl⟩
  have F15 := fun_mk (st := s_put_all_to) l15 c15 k15
  have D15 : DefAt K mg "_put_all_to" "_put_all_to" s_put_all_to ["parts", "other"] _ _ := ⟨F15, PySem.W.mg_of X G a15, F15.binds (ps := ["parts", "other"]) fun _ _ _ _ _ _ us hl => match us, hl with | [_, _], _ => rfl⟩
  have F16 := fun_mk (st := s_joined) l16 c16 k16
  have D16 : DefAt K mg "_joined" "_joined" s_joined ["one", "other"] _ _ := ⟨F16, PySem.W.mg_of X G a16, F16.binds (ps := ["one", "other"]) fun _ _ _ _ _ _ us hl => match us, hl with | [_, _], _ => rfl⟩
  have F17 := fun_mk (st := s_number_raised) l17 c17 k17
  have D17 : DefAt K mg "_number_raised" "_number_raised" s_number_raised ["number", "power"] _ _ := ⟨F17, PySem.W.mg_of X G a17, F17.binds (ps := ["number", "power"]) fun _ _ _ _ _ _ us hl => match us, hl with | [_, _], _ => rfl⟩
  have F18 := fun_mk (st := s_powers_of) l18 c18 k18
  have D18 : DefAt K mg "_powers_of" "_powers_of" s_powers_of ["base", "wanted"] _ _ := ⟨F18, PySem.W.mg_of X G a18, F18.binds (ps := ["base", "wanted"]) fun _ _ _ _ _ _ us hl => match us, hl with | [_, _], _ => rfl⟩
  have F19 := fun_mk (st := s_part_raised) l19 c19 k19
  have D19 : DefAt K mg "_part_raised" "_part_raised" s_part_raised ["base", "power"] _ _ := ⟨F19, PySem.W.mg_of X G a19, F19.binds (ps := ["base", "power"]) fun _ _ _ _ _ _ us hl => match us, hl with | [_, _], _ => rfl⟩
  have F20 := fun_mk (st := s_risen_fillings) l20 c20 k20
  have D20 : DefAt K mg "_risen_fillings" "_risen_fillings" s_risen_fillings ["given", "filling"] _ _ := ⟨F20, PySem.W.mg_of X G a20, F20.binds (ps := ["given", "filling"]) fun _ _ _ _ _ _ us hl => match us, hl with | [_, _], _ => rfl⟩
  have F21 := fun_mk (st := s_filled) l21 c21 k21
  have D21 : DefAt K mg "_filled" "_filled" s_filled ["product", "part", "risen"] _ _ := ⟨F21, PySem.W.mg_of X G a21, F21.binds (ps := ["product", "part", "risen"]) fun _ _ _ _ _ _ us hl => match us, hl with | [_, _, _], _ => rfl⟩
  have F22 := fun_mk (st := s_power_in) l22 c22 k22
  have D22 : DefAt K mg "_power_in" "_power_in" s_power_in ["product", "x"] _ _ := ⟨F22, PySem.W.mg_of X G a22, F22.binds (ps := ["product", "x"]) fun _ _ _ _ _ _ us hl => match us, hl with | [_, _], _ => rfl⟩
  have F23 := fun_mk (st := s_totals_by_power) l23 c23 k23
  have D23 : DefAt K mg "_totals_by_power" "_totals_by_power" s_totals_by_power ["given", "x"] _ _ := ⟨F23, PySem.W.mg_of X G a23, F23.binds (ps := ["given", "x"]) fun _ _ _ _ _ _ us hl => match us, hl with | [_, _], _ => rfl⟩
  have F24 := fun_mk (st := s_sums_of_powers) l24 c24 k24
  have D24 : DefAt K mg "_sums_of_powers" "_sums_of_powers" s_sums_of_powers ["highest"] _ _ := ⟨F24, PySem.W.mg_of X G a24, F24.binds (ps := ["highest"]) fun _ _ _ _ _ _ us hl => match us, hl with | [_], _ => rfl⟩
  have F25 := fun_mk (st := s_next_sum_of_powers) l25 c25 k25
  have D25 : DefAt K mg "_next_sum_of_powers" "_next_sum_of_powers" s_next_sum_of_powers ["row", "k"] _ _ := ⟨F25, PySem.W.mg_of X G a25, F25.binds (ps := ["row", "k"]) fun _ _ _ _ _ _ us hl => match us, hl with | [_, _], _ => rfl⟩
  have F26 := fun_mk (st := s_need_program) l26 c26 k26
  have D26 : DefAt K mg "need_program" "need_program" s_need_program ["program"] _ _ := ⟨F26, PySem.W.mg_of X G a26, F26.binds (ps := ["program"]) fun _ _ _ _ _ _ us hl => match us, hl with | [_], _ => rfl⟩
  have F27 := fun_mk (st := s_names_of) l27 c27 k27
  have D27 : DefAt K mg "names_of" "names_of" s_names_of ["program"] _ _ := ⟨F27, PySem.W.mg_of X G a27, F27.binds (ps := ["program"]) fun _ _ _ _ _ _ us hl => match us, hl with | [_], _ => rfl⟩
  have F28 := fun_mk (st := s_sum_told) l28 c28 k28
  have D28 : DefAt K mg "sum_told" "sum_told" s_sum_told ["expression"] _ _ := ⟨F28, PySem.W.mg_of X G a28, F28.binds (ps := ["expression"]) fun _ _ _ _ _ _ us hl => match us, hl with | [_], _ => rfl⟩
  have F29 := fun_mk (st := s_word_of) l29 c29 k29
  have D29 : DefAt K mg "_word_of" "_word_of" s_word_of ["thing", "forms"] _ _ := ⟨F29, PySem.W.mg_of X G a29, F29.binds (ps := ["thing", "forms"]) fun _ _ _ _ _ _ us hl => match us, hl with | [_, _], _ => rfl⟩
  have F30 := fun_mk (st := s_need_row) l30 c30 k30
  have D30 : DefAt K mg "_need_row" "_need_row" s_need_row ["row", "statements", "laps"] _ _ := ⟨F30, PySem.W.mg_of X G a30, F30.binds (ps := ["row", "statements", "laps"]) fun _ _ _ _ _ _ us hl => match us, hl with | [_, _, _], _ => rfl⟩
  have F31 := fun_mk (st := s_need_statement) l31 c31 k31
  have D31 : DefAt K mg "_need_statement" "_need_statement" s_need_statement ["statement", "statements", "laps"] _ _ := ⟨F31, PySem.W.mg_of X G a31, F31.binds (ps := ["statement", "statements", "laps"]) fun _ _ _ _ _ _ us hl => match us, hl with | [_, _, _], _ => rfl⟩
  have F32 := fun_mk (st := s_need_expression) l32 c32 k32
  have D32 : DefAt K mg "_need_expression" "_need_expression" s_need_expression ["expression", "deep"] _ _ := ⟨F32, PySem.W.mg_of X G a32, F32.binds (ps := ["expression", "deep"]) fun _ _ _ _ _ _ us hl => match us, hl with | [_, _], _ => rfl⟩
  have F33 := fun_mk (st := s_need_number) l33 c33 k33
  have D33 : DefAt K mg "_need_number" "_need_number" s_need_number ["n"] _ _ := ⟨F33, PySem.W.mg_of X G a33, F33.binds (ps := ["n"]) fun _ _ _ _ _ _ us hl => match us, hl with | [_], _ => rfl⟩
  have F34 := fun_mk (st := s_need_name) l34 c34 k34
  have D34 : DefAt K mg "_need_name" "_need_name" s_need_name ["x"] _ _ := ⟨F34, PySem.W.mg_of X G a34, F34.binds (ps := ["x"]) fun _ _ _ _ _ _ us hl => match us, hl with | [_], _ => rfl⟩
  have F35 := fun_mk (st := s_find_in_row) l35 c35 k35
  have D35 : DefAt K mg "_find_in_row" "_find_in_row" s_find_in_row ["row", "found"] _ _ := ⟨F35, PySem.W.mg_of X G a35, F35.binds (ps := ["row", "found"]) fun _ _ _ _ _ _ us hl => match us, hl with | [_, _], _ => rfl⟩
  have F36 := fun_mk (st := s_find_in_expression) l36 c36 k36
  have D36 : DefAt K mg "_find_in_expression" "_find_in_expression" s_find_in_expression ["expression", "found"] _ _ := ⟨F36, PySem.W.mg_of X G a36, F36.binds (ps := ["expression", "found"]) fun _ _ _ _ _ _ us hl => match us, hl with | [_, _], _ => rfl⟩
  have F37 := fun_mk (st := s_hangs_on_blurred) l37 c37 k37
  have D37 : DefAt K mg "hangs_on_blurred" "hangs_on_blurred" s_hangs_on_blurred ["given"] _ _ := ⟨F37, PySem.W.mg_of X G a37, F37.binds (ps := ["given"]) fun _ _ _ _ _ _ us hl => match us, hl with | [_], _ => rfl⟩
  have F38 := fun_mk (st := s_at_first) l38 c38 k38
  have D38 : DefAt K mg "at_first" "at_first" s_at_first ["names"] _ _ := ⟨F38, PySem.W.mg_of X G a38, F38.binds (ps := ["names"]) fun _ _ _ _ _ _ us hl => match us, hl with | [_], _ => rfl⟩
  have F39 := fun_mk (st := s_names_of_lap) l39 c39 k39
  have D39 : DefAt K mg "names_of_lap" "names_of_lap" s_names_of_lap ["lap"] _ _ := ⟨F39, PySem.W.mg_of X G a39, F39.binds (ps := ["lap"]) fun _ _ _ _ _ _ us hl => match us, hl with | [_], _ => rfl⟩
  have F40 := fun_mk (st := s_behind_turn) l40 c40 k40
  have D40 : DefAt K mg "behind_turn" "behind_turn" s_behind_turn ["lap"] _ _ := ⟨F40, PySem.W.mg_of X G a40, F40.binds (ps := ["lap"]) fun _ _ _ _ _ _ us hl => match us, hl with | [_], _ => rfl⟩
  have F41 := fun_mk (st := s_do_set) l41 c41 k41
  have D41 : DefAt K mg "do_set" "do_set" s_do_set ["sums", "statement"] _ _ := ⟨F41, PySem.W.mg_of X G a41, F41.binds (ps := ["sums", "statement"]) fun _ _ _ _ _ _ us hl => match us, hl with | [_, _], _ => rfl⟩
  have F42 := fun_mk (st := s_do_lap) l42 c42 k42
  have D42 : DefAt K mg "do_lap" "do_lap" s_do_lap ["sums", "lap", "turn"] _ _ := ⟨F42, PySem.W.mg_of X G a42, F42.binds (ps := ["sums", "lap", "turn"]) fun _ _ _ _ _ _ us hl => match us, hl with | [_, _, _], _ => rfl⟩
  have F43 := fun_mk (st := s_is_even) l43 c43 k43
  have D43 : DefAt K mg "is_even" "is_even" s_is_even ["guard", "turn"] _ _ := ⟨F43, PySem.W.mg_of X G a43, F43.binds (ps := ["guard", "turn"]) fun _ _ _ _ _ _ us hl => match us, hl with | [_, _], _ => rfl⟩
  have F44 := fun_mk (st := s_told_in_turns) l44 c44 k44
  have D44 : DefAt K mg "told_in_turns" "told_in_turns" s_told_in_turns ["guard", "turn"] _ _ := ⟨F44, PySem.W.mg_of X G a44, F44.binds (ps := ["guard", "turn"]) fun _ _ _ _ _ _ us hl => match us, hl with | [_, _], _ => rfl⟩
  have F45 := fun_mk (st := s_all_told) l45 c45 k45
  have D45 : DefAt K mg "all_told" "all_told" s_all_told ["given", "told"] _ _ := ⟨F45, PySem.W.mg_of X G a45, F45.binds (ps := ["given", "told"]) fun _ _ _ _ _ _ us hl => match us, hl with | [_, _], _ => rfl⟩
  have F46 := fun_mk (st := s_grown) l46 c46 k46
  have D46 : DefAt K mg "grown" "grown" s_grown ["growth", "told"] _ _ := ⟨F46, PySem.W.mg_of X G a46, F46.binds (ps := ["growth", "told"]) fun _ _ _ _ _ _ us hl => match us, hl with | [_, _], _ => rfl⟩
  have F47 := fun_mk (st := s_in_turn) l47 c47 k47
  have D47 : DefAt K mg "in_turn" "in_turn" s_in_turn ["given", "number", "ahead"] _ _ := ⟨F47, PySem.W.mg_of X G a47, F47.binds (ps := ["given", "number", "ahead"]) fun _ _ _ _ _ _ us hl => match us, hl with | [_, _, _], _ => rfl⟩
  have F48 := fun_mk (st := s_behind) l48 c48 k48
  have D48 : DefAt K mg "_behind" "_behind" s_behind ["row", "names"] _ _ := ⟨F48, PySem.W.mg_of X G a48, F48.binds (ps := ["row", "names"]) fun _ _ _ _ _ _ us hl => match us, hl with | [_, _], _ => rfl⟩
  have F49 := fun_mk (st := s_keep) l49 c49 k49
  have D49 : DefAt K mg "_keep" "_keep" s_keep ["sums", "name", "told"] _ _ := ⟨F49, PySem.W.mg_of X G a49, F49.binds (ps := ["sums", "name", "told"]) fun _ _ _ _ _ _ us hl => match us, hl with | [_, _, _], _ => rfl⟩
  have F50 := fun_mk (st := s_blurred) l50 c50 k50
  have D50 : DefAt K mg "_blurred" "_blurred" s_blurred ["name"] _ _ := ⟨F50, PySem.W.mg_of X G a50, F50.binds (ps := ["name"]) fun _ _ _ _ _ _ us hl => match us, hl with | [_], _ => rfl⟩
  have F51 := fun_mk (st := s_may_set) l51 c51 k51
  have D51 : DefAt K mg "_may_set" "_may_set" s_may_set ["row"] _ _ := ⟨F51, PySem.W.mg_of X G a51, F51.binds (ps := ["row"]) fun _ _ _ _ _ _ us hl => match us, hl with | [_], _ => rfl⟩
  have F52 := fun_mk (st := s_ends_of_even) l52 c52 k52
  have D52 : DefAt K mg "_ends_of_even" "_ends_of_even" s_ends_of_even ["guard", "turn", "ahead"] _ _ := ⟨F52, PySem.W.mg_of X G a52, F52.binds (ps := ["guard", "turn", "ahead"]) fun _ _ _ _ _ _ us hl => match us, hl with | [_, _, _], _ => rfl⟩
  have F53 := fun_mk (st := s_looked) l53 c53 k53
  have D53 : DefAt K mg "looked" "looked" s_looked ["program"] _ _ := ⟨F53, PySem.W.mg_of X G a53, F53.binds (ps := ["program"]) fun _ _ _ _ _ _ us hl => match us, hl with | [_], _ => rfl⟩
  have F54 := fun_mk (st := s_look_at_row) l54 c54 k54
  have D54 : DefAt K mg "_look_at_row" "_look_at_row" s_look_at_row ["row", "place"] _ _ := ⟨F54, PySem.W.mg_of X G a54, F54.binds (ps := ["row", "place"]) fun _ _ _ _ _ _ us hl => match us, hl with | [_, _], _ => rfl⟩
  have F55 := fun_mk (st := s_falls) l55 c55 k55
  have D55 : DefAt K mg "_falls" "_falls" s_falls ["lap"] _ _ := ⟨F55, PySem.W.mg_of X G a55, F55.binds (ps := ["lap"]) fun _ _ _ _ _ _ us hl => match us, hl with | [_], _ => rfl⟩
  have F56 := fun_mk (st := s_written) l56 c56 k56
  have D56 : DefAt K mg "written" "written" s_written ["program"] _ _ := ⟨F56, PySem.W.mg_of X G a56, F56.binds (ps := ["program"]) fun _ _ _ _ _ _ us hl => match us, hl with | [_], _ => rfl⟩
  have F57 := fun_mk (st := s_row_written) l57 c57 k57
  have D57 : DefAt K mg "_row_written" "_row_written" s_row_written ["row", "slots"] _ _ := ⟨F57, PySem.W.mg_of X G a57, F57.binds (ps := ["row", "slots"]) fun _ _ _ _ _ _ us hl => match us, hl with | [_, _], _ => rfl⟩
  have F58 := fun_mk (st := s_statement_written) l58 c58 k58
  have D58 : DefAt K mg "_statement_written" "_statement_written" s_statement_written ["statement", "slots"] _ _ := ⟨F58, PySem.W.mg_of X G a58, F58.binds (ps := ["statement", "slots"]) fun _ _ _ _ _ _ us hl => match us, hl with | [_, _], _ => rfl⟩
  have F59 := fun_mk (st := s_lap_written) l59 c59 k59
  have D59 : DefAt K mg "_lap_written" "_lap_written" s_lap_written ["lap", "slots"] _ _ := ⟨F59, PySem.W.mg_of X G a59, F59.binds (ps := ["lap", "slots"]) fun _ _ _ _ _ _ us hl => match us, hl with | [_, _], _ => rfl⟩
  have F60 := fun_mk (st := s_all_but) l60 c60 k60
  have D60 : DefAt K mg "_all_but" "_all_but" s_all_but ["slots", "others"] _ _ := ⟨F60, PySem.W.mg_of X G a60, F60.binds (ps := ["slots", "others"]) fun _ _ _ _ _ _ us hl => match us, hl with | [_, _], _ => rfl⟩
  have F61 := fun_mk (st := s_expression_written) l61 c61 k61
  have D61 : DefAt K mg "_expression_written" "_expression_written" s_expression_written ["expression", "slots"] _ _ := ⟨F61, PySem.W.mg_of X G a61, F61.binds (ps := ["expression", "slots"]) fun _ _ _ _ _ _ us hl => match us, hl with | [_, _], _ => rfl⟩
  have F62 := fun_mk (st := s_law_next) l62 c62 k62
  have D62 : DefAt K mg "_law_next" "_law_next" s_law_next ["_law_h", "_law_many"] _ _ := ⟨F62, PySem.W.mg_of X G a62, F62.binds (ps := ["_law_h", "_law_many"]) fun _ _ _ _ _ _ us hl => match us, hl with | [_, _], _ => rfl⟩
  have F63 := fun_mk (st := s_law_names) l63 c63 k63
  have D63 : DefAt K mg "_law_names" "_law_names" s_law_names ["_law_h"] _ _ := ⟨F63, PySem.W.mg_of X G a63, F63.binds (ps := ["_law_h"]) fun _ _ _ _ _ _ us hl => match us, hl with | [_], _ => rfl⟩
  have F64 := fun_mk (st := s_law_part) l64 c64 k64
  have D64 : DefAt K mg "_law_part" "_law_part" s_law_part ["_law_h", "_law_some", "_law_deep"] _ _ := ⟨F64, PySem.W.mg_of X G a64, F64.binds (ps := ["_law_h", "_law_some", "_law_deep"]) fun _ _ _ _ _ _ us hl => match us, hl with | [_, _, _], _ => rfl⟩
  have F65 := fun_mk (st := s_law_measure) l65 c65 k65
  have D65 : DefAt K mg "_law_measure" "_law_measure" s_law_measure ["_law_h", "_law_guard", "_law_calm"] _ _ := ⟨F65, PySem.W.mg_of X G a65, F65.binds (ps := ["_law_h", "_law_guard", "_law_calm"]) fun _ _ _ _ _ _ us hl => match us, hl with | [_, _, _], _ => rfl⟩
  have F66 := fun_mk (st := s_law_lap) l66 c66 k66
  have D66 : DefAt K mg "_law_lap" "_law_lap" s_law_lap ["_law_h", "_law_names_here", "_law_depth", "_law_odd"] _ _ := ⟨F66, PySem.W.mg_of X G a66, F66.binds (ps := ["_law_h", "_law_names_here", "_law_depth", "_law_odd"]) fun _ _ _ _ _ _ us hl => match us, hl with | [_, _, _, _], _ => rfl⟩
  have F67 := fun_mk (st := s_law_grow) l67 c67 k67
  have D67 : DefAt K mg "_law_grow" "_law_grow" s_law_grow ["_law_h", "_law_low", "_law_some"] _ _ := ⟨F67, PySem.W.mg_of X G a67, F67.binds (ps := ["_law_h", "_law_low", "_law_some"]) fun _ _ _ _ _ _ us hl => match us, hl with | [_, _, _], _ => rfl⟩
  have F68 := fun_mk (st := s_law_row) l68 c68 k68
  have D68 : DefAt K mg "_law_row" "_law_row" s_law_row ["_law_h", "_law_names_here", "_law_depth", "_law_odd"] _ _ := ⟨F68, PySem.W.mg_of X G a68, F68.binds (ps := ["_law_h", "_law_names_here", "_law_depth", "_law_odd"]) fun _ _ _ _ _ _ us hl => match us, hl with | [_, _, _, _], _ => rfl⟩
  have F69 := fun_mk (st := s_law_program) l69 c69 k69
  have D69 : DefAt K mg "_law_program" "_law_program" s_law_program ["_law_h", "_law_names_here", "_law_odd"] _ _ := ⟨F69, PySem.W.mg_of X G a69, F69.binds (ps := ["_law_h", "_law_names_here", "_law_odd"]) fun _ _ _ _ _ _ us hl => match us, hl with | [_, _, _], _ => rfl⟩
  have F70 := fun_mk (st := s_law_bad_part) l70 c70 k70
  have D70 : DefAt K mg "_law_bad_part" "_law_bad_part" s_law_bad_part ["_law_h"] _ _ := ⟨F70, PySem.W.mg_of X G a70, F70.binds (ps := ["_law_h"]) fun _ _ _ _ _ _ us hl => match us, hl with | [_], _ => rfl⟩
  have F71 := fun_mk (st := s_law_bad) l71 c71 k71
  have D71 : DefAt K mg "_law_bad" "_law_bad" s_law_bad ["_law_h"] _ _ := ⟨F71, PySem.W.mg_of X G a71, F71.binds (ps := ["_law_h"]) fun _ _ _ _ _ _ us hl => match us, hl with | [_], _ => rfl⟩
  have F72 := fun_mk (st := s_law_spoilt) l72 c72 k72
  have D72 : DefAt K mg "_law_spoilt" "_law_spoilt" s_law_spoilt ["_law_h", "_law_program_here", "_law_names_here"] _ _ := ⟨F72, PySem.W.mg_of X G a72, F72.binds (ps := ["_law_h", "_law_program_here", "_law_names_here"]) fun _ _ _ _ _ _ us hl => match us, hl with | [_, _, _], _ => rfl⟩
  have F73 := fun_mk (st := s_law_refused) l73 c73 k73
  have D73 : DefAt K mg "_law_refused" "_law_refused" s_law_refused ["_law_way", "_law_program_here"] _ _ := ⟨F73, PySem.W.mg_of X G a73, F73.binds (ps := ["_law_way", "_law_program_here"]) fun _ _ _ _ _ _ us hl => match us, hl with | [_, _], _ => rfl⟩
  have F74 := fun_mk (st := s_law) l74 c74 k74
  have D74 : DefAt K mg "law" "law" s_law ["_law_script"] _ _ := ⟨F74, PySem.W.mg_of X G a74, F74.binds (ps := ["_law_script"]) fun _ _ _ _ _ _ us hl => match us, hl with | [_], _ => rfl⟩
  have FI_Sum := fun_mk (st := s_Sum_init) l_Sum_init c_Sum_init k_Sum_init
  have T : Txt K mg C_Sum := ⟨⟨pg_Sum, hd_Sum, po_Sum, sa_Sum⟩, PySem.W.mg_of X G aC_Sum, na_Sum_parts, ⟨_, _, ⟨mk_Sum, a_Sum_init, i_Sum_init, kc_Sum⟩, FI_Sum, FI_Sum.binds (ps := ["self", "parts"]) fun _ _ _ _ _ _ us hl => match us, hl with | [_, _], _ => rfl⟩, ⟨_, PySem.W.mg_of X G av_NOUGHT, fun H => .inr ⟨_, _, _, lv_NOUGHT, rfl, rfl, (by show 2 ≤ sizeLine; decide), .cons ⟨_, rfl⟩ (.cons ⟨_, rfl⟩ ( .nil))⟩⟩, ⟨_, PySem.W.mg_of X G av_ONE, fun H => .inr ⟨_, _, _, lv_ONE, rfl, rfl, (by show 2 ≤ sizeLine; decide), .cons ⟨_, rfl⟩ (.cons ⟨_, rfl⟩ ( .nil))⟩⟩, ⟨_, PySem.W.mg_of X G av_TURN, ⟨_, rfl⟩⟩, ⟨_, PySem.W.mg_of X G av_BLURRED, ⟨_, rfl⟩⟩, ⟨_, PySem.W.mg_of X G av_MOST_LETTERS, ⟨_, rfl⟩⟩, ⟨_, PySem.W.mg_of X G av_HIGHEST_NUMBER, ⟨_, rfl⟩⟩, ⟨_, PySem.W.mg_of X G av_MOST_DEEP, ⟨_, rfl⟩⟩, ⟨_, PySem.W.mg_of X G av_MOST_STATEMENTS, ⟨_, rfl⟩⟩, ⟨_, PySem.W.mg_of X G av_MOST_LAPS, ⟨_, rfl⟩⟩, ⟨_, PySem.W.mg_of X G av_ROWS, fun H => Dp.tup (xs := [.ref i0_ROWS]) (.inr ⟨_, _, _, lv_ROWS, rfl, rfl, (by show 1 ≤ sizeLine; decide), .cons rfl ( .nil)⟩) (.cons (Dp.tup (xs := [.str "row", .int 2]) (.inr ⟨_, _, _, lv0_ROWS, rfl, rfl, (by show 2 ≤ sizeLine; decide), .cons ⟨_, rfl⟩ (.cons ⟨_, rfl⟩ ( .nil))⟩) (.cons (.str _) (.cons (.int _) (.nil)))) (.nil))⟩, ⟨_, PySem.W.mg_of X G av_STATEMENTS, fun H => Dp.tup (xs := [.ref i0_STATEMENTS, .ref i1_STATEMENTS, .ref i2_STATEMENTS]) (.inr ⟨_, _, _, lv_STATEMENTS, rfl, rfl, (by show 3 ≤ sizeLine; decide), .cons rfl (.cons rfl (.cons rfl ( .nil)))⟩) (.cons (Dp.tup (xs := [.str "set", .int 3]) (.inr ⟨_, _, _, lv0_STATEMENTS, rfl, rfl, (by show 2 ≤ sizeLine; decide), .cons ⟨_, rfl⟩ (.cons ⟨_, rfl⟩ ( .nil))⟩) (.cons (.str _) (.cons (.int _) (.nil)))) (.cons (Dp.tup (xs := [.str "say", .int 2]) (.inr ⟨_, _, _, lv1_STATEMENTS, rfl, rfl, (by show 2 ≤ sizeLine; decide), .cons ⟨_, rfl⟩ (.cons ⟨_, rfl⟩ ( .nil))⟩) (.cons (.str _) (.cons (.int _) (.nil)))) (.cons (Dp.tup (xs := [.str "lap", .int 4]) (.inr ⟨_, _, _, lv2_STATEMENTS, rfl, rfl, (by show 2 ≤ sizeLine; decide), .cons ⟨_, rfl⟩ (.cons ⟨_, rfl⟩ ( .nil))⟩) (.cons (.str _) (.cons (.int _) (.nil)))) (.nil))))⟩, ⟨_, PySem.W.mg_of X G av_EXPRESSIONS, fun H => Dp.tup (xs := [.ref i0_EXPRESSIONS, .ref i1_EXPRESSIONS, .ref i2_EXPRESSIONS, .ref i3_EXPRESSIONS]) (.inr ⟨_, _, _, lv_EXPRESSIONS, rfl, rfl, (by show 4 ≤ sizeLine; decide), .cons rfl (.cons rfl (.cons rfl (.cons rfl ( .nil))))⟩) (.cons (Dp.tup (xs := [.str "num", .int 2]) (.inr ⟨_, _, _, lv0_EXPRESSIONS, rfl, rfl, (by show 2 ≤ sizeLine; decide), .cons ⟨_, rfl⟩ (.cons ⟨_, rfl⟩ ( .nil))⟩) (.cons (.str _) (.cons (.int _) (.nil)))) (.cons (Dp.tup (xs := [.str "name", .int 2]) (.inr ⟨_, _, _, lv1_EXPRESSIONS, rfl, rfl, (by show 2 ≤ sizeLine; decide), .cons ⟨_, rfl⟩ (.cons ⟨_, rfl⟩ ( .nil))⟩) (.cons (.str _) (.cons (.int _) (.nil)))) (.cons (Dp.tup (xs := [.str "add", .int 3]) (.inr ⟨_, _, _, lv2_EXPRESSIONS, rfl, rfl, (by show 2 ≤ sizeLine; decide), .cons ⟨_, rfl⟩ (.cons ⟨_, rfl⟩ ( .nil))⟩) (.cons (.str _) (.cons (.int _) (.nil)))) (.cons (Dp.tup (xs := [.str "times", .int 3]) (.inr ⟨_, _, _, lv3_EXPRESSIONS, rfl, rfl, (by show 2 ≤ sizeLine; decide), .cons ⟨_, rfl⟩ (.cons ⟨_, rfl⟩ ( .nil))⟩) (.cons (.str _) (.cons (.int _) (.nil)))) (.nil)))))⟩, ⟨_, _, _, _, _, ⟨PySem.W.mg_of X G e_gL, PySem.W.mg_of X G e_gB, PySem.W.mg_of X G e_gD, PySem.W.mg_of X G e_gN, PySem.W.mg_of X G e_gU, e_xB, e_kB, e_bB, e_tB, e_bL, e_hL, e_tL, e_sBL, e_hgB, e_hkB, e_hdB, e_haB, e_hnB, e_htB, e_hmB, e_sBB, e_iBB, e_iBV, e_iBD, e_iBN, e_iBU⟩⟩, ⟨_, _, D0⟩, ⟨_, _, D1⟩, ⟨_, _, D2⟩, ⟨_, _, D3⟩, ⟨_, _, D4⟩, ⟨_, _, D5⟩, ⟨_, _, D6⟩, ⟨_, _, D7⟩, ⟨_, _, D8⟩, ⟨_, _, D9⟩, ⟨_, _, D10⟩, ⟨_, _, D11⟩, ⟨_, _, D12⟩, ⟨_, _, D13⟩, ⟨_, _, D14⟩, ⟨_, _, D15⟩, ⟨_, _, D16⟩, ⟨_, _, D17⟩, ⟨_, _, D18⟩, ⟨_, _, D19⟩, ⟨_, _, D20⟩, ⟨_, _, D21⟩, ⟨_, _, D22⟩, ⟨_, _, D23⟩, ⟨_, _, D24⟩, ⟨_, _, D25⟩, ⟨_, _, D26⟩, ⟨_, _, D27⟩, ⟨_, _, D28⟩, ⟨_, _, D29⟩, ⟨_, _, D30⟩, ⟨_, _, D31⟩, ⟨_, _, D32⟩, ⟨_, _, D33⟩, ⟨_, _, D34⟩, ⟨_, _, D35⟩, ⟨_, _, D36⟩, ⟨_, _, D37⟩, ⟨_, _, D38⟩, ⟨_, _, D39⟩, ⟨_, _, D40⟩, ⟨_, _, D41⟩, ⟨_, _, D42⟩, ⟨_, _, D43⟩, ⟨_, _, D44⟩, ⟨_, _, D45⟩, ⟨_, _, D46⟩, ⟨_, _, D47⟩, ⟨_, _, D48⟩, ⟨_, _, D49⟩, ⟨_, _, D50⟩, ⟨_, _, D51⟩, ⟨_, _, D52⟩, ⟨_, _, D53⟩, ⟨_, _, D54⟩, ⟨_, _, D55⟩, ⟨_, _, D56⟩, ⟨_, _, D57⟩, ⟨_, _, D58⟩, ⟨_, _, D59⟩, ⟨_, _, D60⟩, ⟨_, _, D61⟩, ⟨_, _, D62⟩, ⟨_, _, D63⟩, ⟨_, _, D64⟩, ⟨_, _, D65⟩, ⟨_, _, D66⟩, ⟨_, _, D67⟩, ⟨_, _, D68⟩, ⟨_, _, D69⟩, ⟨_, _, D70⟩, ⟨_, _, D71⟩, ⟨_, _, D72⟩, ⟨_, _, D73⟩, PySem.W.mg_none_of X G z_sorted, PySem.W.mg_none_of X G z_all, PySem.W.mg_none_of X G z_set, PySem.W.mg_none_of X G z_tuple, PySem.W.mg_none_of X G z_len, PySem.W.mg_none_of X G z_range, PySem.W.mg_none_of X G z_max, PySem.W.mg_none_of X G z_type, PySem.W.mg_none_of X G z_str, PySem.W.mg_none_of X G z_int, PySem.W.mg_none_of X G z_any, PySem.W.mg_none_of X G z_enumerate, PySem.W.mg_none_of X G z_reversed, PySem.W.mg_none_of X G z_isinstance, PySem.W.mg_none_of X G z_ValueError, PySem.W.mg_none_of X G z_list, PySem.W.mg_of X G y_gcd⟩
  exact ⟨PySem.W.fnOf "law" "law" (defArgs s_law) (defBody s_law) (defScope s_law) .none kV74 dc74 pm74 an74 cd74 ct74, fun s v => .of_eq rfl, fun base _ _ => ok_law T D74⟩
end K05
open PySem PySem.W PyProof.Rows
set_option maxHeartbeats 0 in
theorem PySem.Challenge.cw_lapfold_k05_programs_refused_holds : PySem.Challenge.rw_lapfold_k05_programs_refused.Holds := by
  w_on; o_law; k_head; (case hw => w_witness2)
  k_fill
  refine L2.walk_of (l := PySem.Challenge.rw_lapfold_k05_programs_refused) (n := 63) (k := 90) (x := "_law_script") (CX := fun _ => L2.CX0) (sp := fun w => K05.spLaw _) rfl (by decide) rfl ⟨rfl, by decide, by decide⟩ (fun w h Y => PySem.W.kIn_of Y) ?F (fun _ _ a ns hl _ hS => ⟨a, ns, rfl, hS, hl, fun _ => rfl⟩) (fun _ _ _ _ _ h => h)
  case F =>
    intro w mg fa h KX G hmg
    refine' K05.all_mk KX G hmg ?a0 ?l0 ?c0 ?k0 ?a1 ?l1 ?c1 ?k1 ?a2 ?l2 ?c2 ?k2 ?a3 ?l3 ?c3 ?k3 ?a4 ?l4 ?c4 ?k4 ?a5 ?l5 ?c5 ?k5 ?a6 ?l6 ?c6 ?k6 ?a7 ?l7 ?c7 ?k7 ?a8 ?l8 ?c8 ?k8 ?a9 ?l9 ?c9 ?k9 ?a10 ?l10 ?c10 ?k10 ?a11 ?l11 ?c11 ?k11 ?a12 ?l12 ?c12 ?k12 ?a13 ?l13 ?c13 ?k13 ?a14 ?l14 ?c14 ?k14 ?a15 ?l15 ?c15 ?k15 ?a16 ?l16 ?c16 ?k16 ?a17 ?l17 ?c17 ?k17 ?a18 ?l18 ?c18 ?k18 ?a19 ?l19 ?c19 ?k19 ?a20 ?l20 ?c20 ?k20 ?a21 ?l21 ?c21 ?k21 ?a22 ?l22 ?c22 ?k22 ?a23 ?l23 ?c23 ?k23 ?a24 ?l24 ?c24 ?k24 ?a25 ?l25 ?c25 ?k25 ?a26 ?l26 ?c26 ?k26 ?a27 ?l27 ?c27 ?k27 ?a28 ?l28 ?c28 ?k28 ?a29 ?l29 ?c29 ?k29 ?a30 ?l30 ?c30 ?k30 ?a31 ?l31 ?c31 ?k31 ?a32 ?l32 ?c32 ?k32 ?a33 ?l33 ?c33 ?k33 ?a34 ?l34 ?c34 ?k34 ?a35 ?l35 ?c35 ?k35 ?a36 ?l36 ?c36 ?k36 ?a37 ?l37 ?c37 ?k37 ?a38 ?l38 ?c38 ?k38 ?a39 ?l39 ?c39 ?k39 ?a40 ?l40 ?c40 ?k40 ?a41 ?l41 ?c41 ?k41 ?a42 ?l42 ?c42 ?k42 ?a43 ?l43 ?c43 ?k43 ?a44 ?l44 ?c44 ?k44 ?a45 ?l45 ?c45 ?k45 ?a46 ?l46 ?c46 ?k46 ?a47 ?l47 ?c47 ?k47 ?a48 ?l48 ?c48 ?k48 ?a49 ?l49 ?c49 ?k49 ?a50 ?l50 ?c50 ?k50 ?a51 ?l51 ?c51 ?k51 ?a52 ?l52 ?c52 ?k52 ?a53 ?l53 ?c53 ?k53 ?a54 ?l54 ?c54 ?k54 ?a55 ?l55 ?c55 ?k55 ?a56 ?l56 ?c56 ?k56 ?a57 ?l57 ?c57 ?k57 ?a58 ?l58 ?c58 ?k58 ?a59 ?l59 ?c59 ?k59 ?a60 ?l60 ?c60 ?k60 ?a61 ?l61 ?c61 ?k61 ?a62 ?l62 ?c62 ?k62 ?a63 ?l63 ?c63 ?k63 ?a64 ?l64 ?c64 ?k64 ?a65 ?l65 ?c65 ?k65 ?a66 ?l66 ?c66 ?k66 ?a67 ?l67 ?c67 ?k67 ?a68 ?l68 ?c68 ?k68 ?a69 ?l69 ?c69 ?k69 ?a70 ?l70 ?c70 ?k70 ?a71 ?l71 ?c71 ?k71 ?a72 ?l72 ?c72 ?k72 ?a73 ?l73 ?c73 ?k73 ?a74 ?l74 ?c74 ?k74 ?aC_Sum ?a_Sum_init ?i_Sum_init ?l_Sum_init ?c_Sum_init ?k_Sum_init ?pg_Sum ?hd_Sum ?po_Sum ?sa_Sum ?mk_Sum ?kc_Sum ?na_Sum_parts ?av_NOUGHT ?lv_NOUGHT ?av_ONE ?lv_ONE ?av_TURN ?av_BLURRED ?av_MOST_LETTERS ?av_HIGHEST_NUMBER ?av_MOST_DEEP ?av_MOST_STATEMENTS ?av_MOST_LAPS ?av_ROWS ?lv_ROWS ?lv0_ROWS ?av_STATEMENTS ?lv_STATEMENTS ?lv0_STATEMENTS ?lv1_STATEMENTS ?lv2_STATEMENTS ?av_EXPRESSIONS ?lv_EXPRESSIONS ?lv0_EXPRESSIONS ?lv1_EXPRESSIONS ?lv2_EXPRESSIONS ?lv3_EXPRESSIONS ?e_gL ?e_gB ?e_gD ?e_gN ?e_gU ?e_xB ?e_kB ?e_bB ?e_tB ?e_bL ?e_hL ?e_tL ?e_sBL ?e_hgB ?e_hkB ?e_hdB ?e_haB ?e_hnB ?e_htB ?e_hmB ?e_sBB ?e_iBB ?e_iBV ?e_iBD ?e_iBN ?e_iBU ?z_sorted ?z_all ?z_set ?z_tuple ?z_len ?z_range ?z_max ?z_type ?z_str ?z_int ?z_any ?z_enumerate ?z_reversed ?z_isinstance ?z_ValueError ?z_list ?y_gcd
    (case a0 => k_is)
    (case l0 => k_is)
    (case c0 => k_is)
    (case k0 => k_is)
    (case a1 => k_is)
    (case l1 => k_is)
    (case c1 => k_is)
    (case k1 => k_is)
    (case a2 => k_is)
    (case l2 => k_is)
    (case c2 => k_is)
    (case k2 => k_is)
    (case a3 => k_is)
    (case l3 => k_is)
    (case c3 => k_is)
    (case k3 => k_is)
    (case a4 => k_is)
    (case l4 => k_is)
    (case c4 => k_is)
    (case k4 => k_is)
    (case a5 => k_is)
    (case l5 => k_is)
    (case c5 => k_is)
    (case k5 => k_is)
    (case a6 => k_is)
    (case l6 => k_is)
    (case c6 => k_is)
    (case k6 => k_is)
    (case a7 => k_is)
    (case l7 => k_is)
    (case c7 => k_is)
    (case k7 => k_is)
    (case a8 => k_is)
    (case l8 => k_is)
    (case c8 => k_is)
    (case k8 => k_is)
    (case a9 => k_is)
    (case l9 => k_is)
    (case c9 => k_is)
    (case k9 => k_is)
    (case a10 => k_is)
    (case l10 => k_is)
    (case c10 => k_is)
    (case k10 => k_is)
    (case a11 => k_is)
    (case l11 => k_is)
    (case c11 => k_is)
    (case k11 => k_is)
    (case a12 => k_is)
    (case l12 => k_is)
    (case c12 => k_is)
    (case k12 => k_is)
    (case a13 => k_is)
    (case l13 => k_is)
    (case c13 => k_is)
    (case k13 => k_is)
    (case a14 => k_is)
    (case l14 => k_is)
    (case c14 => k_is)
    (case k14 => k_is)
    (case a15 => k_is)
    (case l15 => k_is)
    (case c15 => k_is)
    (case k15 => k_is)
    (case a16 => k_is)
    (case l16 => k_is)
    (case c16 => k_is)
    (case k16 => k_is)
    (case a17 => k_is)
    (case l17 => k_is)
    (case c17 => k_is)
    (case k17 => k_is)
    (case a18 => k_is)
    (case l18 => k_is)
    (case c18 => k_is)
    (case k18 => k_is)
    (case a19 => k_is)
    (case l19 => k_is)
    (case c19 => k_is)
    (case k19 => k_is)
    (case a20 => k_is)
    (case l20 => k_is)
    (case c20 => k_is)
    (case k20 => k_is)
    (case a21 => k_is)
    (case l21 => k_is)
    (case c21 => k_is)
    (case k21 => k_is)
    (case a22 => k_is)
    (case l22 => k_is)
    (case c22 => k_is)
    (case k22 => k_is)
    (case a23 => k_is)
    (case l23 => k_is)
    (case c23 => k_is)
    (case k23 => k_is)
    (case a24 => k_is)
    (case l24 => k_is)
    (case c24 => k_is)
    (case k24 => k_is)
    (case a25 => k_is)
    (case l25 => k_is)
    (case c25 => k_is)
    (case k25 => k_is)
    (case a26 => k_is)
    (case l26 => k_is)
    (case c26 => k_is)
    (case k26 => k_is)
    (case a27 => k_is)
    (case l27 => k_is)
    (case c27 => k_is)
    (case k27 => k_is)
    (case a28 => k_is)
    (case l28 => k_is)
    (case c28 => k_is)
    (case k28 => k_is)
    (case a29 => k_is)
    (case l29 => k_is)
    (case c29 => k_is)
    (case k29 => k_is)
    (case a30 => k_is)
    (case l30 => k_is)
    (case c30 => k_is)
    (case k30 => k_is)
    (case a31 => k_is)
    (case l31 => k_is)
    (case c31 => k_is)
    (case k31 => k_is)
    (case a32 => k_is)
    (case l32 => k_is)
    (case c32 => k_is)
    (case k32 => k_is)
    (case a33 => k_is)
    (case l33 => k_is)
    (case c33 => k_is)
    (case k33 => k_is)
    (case a34 => k_is)
    (case l34 => k_is)
    (case c34 => k_is)
    (case k34 => k_is)
    (case a35 => k_is)
    (case l35 => k_is)
    (case c35 => k_is)
    (case k35 => k_is)
    (case a36 => k_is)
    (case l36 => k_is)
    (case c36 => k_is)
    (case k36 => k_is)
    (case a37 => k_is)
    (case l37 => k_is)
    (case c37 => k_is)
    (case k37 => k_is)
    (case a38 => k_is)
    (case l38 => k_is)
    (case c38 => k_is)
    (case k38 => k_is)
    (case a39 => k_is)
    (case l39 => k_is)
    (case c39 => k_is)
    (case k39 => k_is)
    (case a40 => k_is)
    (case l40 => k_is)
    (case c40 => k_is)
    (case k40 => k_is)
    (case a41 => k_is)
    (case l41 => k_is)
    (case c41 => k_is)
    (case k41 => k_is)
    (case a42 => k_is)
    (case l42 => k_is)
    (case c42 => k_is)
    (case k42 => k_is)
    (case a43 => k_is)
    (case l43 => k_is)
    (case c43 => k_is)
    (case k43 => k_is)
    (case a44 => k_is)
    (case l44 => k_is)
    (case c44 => k_is)
    (case k44 => k_is)
    (case a45 => k_is)
    (case l45 => k_is)
    (case c45 => k_is)
    (case k45 => k_is)
    (case a46 => k_is)
    (case l46 => k_is)
    (case c46 => k_is)
    (case k46 => k_is)
    (case a47 => k_is)
    (case l47 => k_is)
    (case c47 => k_is)
    (case k47 => k_is)
    (case a48 => k_is)
    (case l48 => k_is)
    (case c48 => k_is)
    (case k48 => k_is)
    (case a49 => k_is)
    (case l49 => k_is)
    (case c49 => k_is)
    (case k49 => k_is)
    (case a50 => k_is)
    (case l50 => k_is)
    (case c50 => k_is)
    (case k50 => k_is)
    (case a51 => k_is)
    (case l51 => k_is)
    (case c51 => k_is)
    (case k51 => k_is)
    (case a52 => k_is)
    (case l52 => k_is)
    (case c52 => k_is)
    (case k52 => k_is)
    (case a53 => k_is)
    (case l53 => k_is)
    (case c53 => k_is)
    (case k53 => k_is)
    (case a54 => k_is)
    (case l54 => k_is)
    (case c54 => k_is)
    (case k54 => k_is)
    (case a55 => k_is)
    (case l55 => k_is)
    (case c55 => k_is)
    (case k55 => k_is)
    (case a56 => k_is)
    (case l56 => k_is)
    (case c56 => k_is)
    (case k56 => k_is)
    (case a57 => k_is)
    (case l57 => k_is)
    (case c57 => k_is)
    (case k57 => k_is)
    (case a58 => k_is)
    (case l58 => k_is)
    (case c58 => k_is)
    (case k58 => k_is)
    (case a59 => k_is)
    (case l59 => k_is)
    (case c59 => k_is)
    (case k59 => k_is)
    (case a60 => k_is)
    (case l60 => k_is)
    (case c60 => k_is)
    (case k60 => k_is)
    (case a61 => k_is)
    (case l61 => k_is)
    (case c61 => k_is)
    (case k61 => k_is)
    (case a62 => k_is)
    (case l62 => k_is)
    (case c62 => k_is)
    (case k62 => k_is)
    (case a63 => k_is)
    (case l63 => k_is)
    (case c63 => k_is)
    (case k63 => k_is)
    (case a64 => k_is)
    (case l64 => k_is)
    (case c64 => k_is)
    (case k64 => k_is)
    (case a65 => k_is)
    (case l65 => k_is)
    (case c65 => k_is)
    (case k65 => k_is)
    (case a66 => k_is)
    (case l66 => k_is)
    (case c66 => k_is)
    (case k66 => k_is)
    (case a67 => k_is)
    (case l67 => k_is)
    (case c67 => k_is)
    (case k67 => k_is)
    (case a68 => k_is)
    (case l68 => k_is)
    (case c68 => k_is)
    (case k68 => k_is)
    (case a69 => k_is)
    (case l69 => k_is)
    (case c69 => k_is)
    (case k69 => k_is)
    (case a70 => k_is)
    (case l70 => k_is)
    (case c70 => k_is)
    (case k70 => k_is)
    (case a71 => k_is)
    (case l71 => k_is)
    (case c71 => k_is)
    (case k71 => k_is)
    (case a72 => k_is)
    (case l72 => k_is)
    (case c72 => k_is)
    (case k72 => k_is)
    (case a73 => k_is)
    (case l73 => k_is)
    (case c73 => k_is)
    (case k73 => k_is)
    (case a74 => k_is)
    (case l74 => k_is)
    (case c74 => k_is)
    (case k74 => k_is)
    (case aC_Sum => k_is)
    (case a_Sum_init => k_is)
    (case i_Sum_init => k_is)
    (case l_Sum_init => k_is)
    (case c_Sum_init => k_is)
    (case k_Sum_init => k_is)
    (case pg_Sum => k_is)
    (case hd_Sum => k_is)
    (case po_Sum => k_is)
    (case sa_Sum => k_is)
    (case mk_Sum => k_is)
    (case kc_Sum => k_is)
    (case na_Sum_parts => k_is)
    (case av_NOUGHT => k_is)
    (case lv_NOUGHT => k_is)
    (case av_ONE => k_is)
    (case lv_ONE => k_is)
    (case av_TURN => k_is)
    (case av_BLURRED => k_is)
    (case av_MOST_LETTERS => k_is)
    (case av_HIGHEST_NUMBER => k_is)
    (case av_MOST_DEEP => k_is)
    (case av_MOST_STATEMENTS => k_is)
    (case av_MOST_LAPS => k_is)
    (case av_ROWS => k_is)
    (case lv_ROWS => k_is)
    (case lv0_ROWS => k_is)
    (case av_STATEMENTS => k_is)
    (case lv_STATEMENTS => k_is)
    (case lv0_STATEMENTS => k_is)
    (case lv1_STATEMENTS => k_is)
    (case lv2_STATEMENTS => k_is)
    (case av_EXPRESSIONS => k_is)
    (case lv_EXPRESSIONS => k_is)
    (case lv0_EXPRESSIONS => k_is)
    (case lv1_EXPRESSIONS => k_is)
    (case lv2_EXPRESSIONS => k_is)
    (case lv3_EXPRESSIONS => k_is)
    (case e_gL => first | k_is | decide +kernel | rfl)
    (case e_gB => first | k_is | decide +kernel | rfl)
    (case e_gD => first | k_is | decide +kernel | rfl)
    (case e_gN => first | k_is | decide +kernel | rfl)
    (case e_gU => first | k_is | decide +kernel | rfl)
    (case e_xB => k_exc)
    (case e_kB => first | k_is | decide +kernel | rfl)
    (case e_bB => first | k_is | decide +kernel | rfl)
    (case e_tB => first | k_is | decide +kernel | rfl)
    (case e_bL => first | k_is | decide +kernel | rfl)
    (case e_hL => first | k_is | decide +kernel | rfl)
    (case e_tL => first | k_is | decide +kernel | rfl)
    (case e_sBL => first | k_is | decide +kernel | rfl)
    (case e_hgB => first | k_is | decide +kernel | rfl)
    (case e_hkB => first | k_is | decide +kernel | rfl)
    (case e_hdB => first | k_is | decide +kernel | rfl)
    (case e_haB => first | k_is | decide +kernel | rfl)
    (case e_hnB => first | k_is | decide +kernel | rfl)
    (case e_htB => first | k_is | decide +kernel | rfl)
    (case e_hmB => first | k_is | decide +kernel | rfl)
    (case e_sBB => first | k_is | decide +kernel | rfl)
    (case e_iBB => first | k_is | decide +kernel | rfl)
    (case e_iBV => first | k_is | decide +kernel | rfl)
    (case e_iBD => first | k_is | decide +kernel | rfl)
    (case e_iBN => first | k_is | decide +kernel | rfl)
    (case e_iBU => first | k_is | decide +kernel | rfl)
    (case z_sorted => k_is)
    (case z_all => k_is)
    (case z_set => k_is)
    (case z_tuple => k_is)
    (case z_len => k_is)
    (case z_range => k_is)
    (case z_max => k_is)
    (case z_type => k_is)
    (case z_str => k_is)
    (case z_int => k_is)
    (case z_any => k_is)
    (case z_enumerate => k_is)
    (case z_reversed => k_is)
    (case z_isinstance => k_is)
    (case z_ValueError => k_is)
    (case z_list => k_is)
    (case y_gcd => k_is)
