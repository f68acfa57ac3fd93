import PyProof.Rows.All
import Wide.All
import OpenK.AllK
import Wide.FinOn
import KE.KStateDown
import HandS.Base
import HandS.Call
import HandS.Ends
import HandS.More
import HandS.Words
import HandS.WordsExc
import HandS.Defaults
import HandS.Head0
import HandS.Head1
import HandS.Head2
import HandS.HeadEnd
import HandS.HeadHook1
import HandS.HeadHook2
import HandS.ExcInit
import HandS.ExcField
import HandS.ExcIs
import PySem.Challenge.RW_skiphall_k46_names_exchanged
import HandS.ForMost
import HandS.ForExc
import HandS.Walk
import HandS.IsInst
import HandS.TupAny
import HandS.MakeKwOnly
import HandS.DictComp
import HandS.SetKeys
import HandS.Flow
import PyProof.StrBlock2
import HandS.Wide
import PyProof.NeKinds
import PyProof.Rows.InDataRows
import HandS.TupSets
import HandS.Evl
import HandS.Style
import KE.KTupSum
import HandS.SetBool
import KE.KDictPairs
import KE.KEqDict
import HandS.ListItems
import PyProof.ZipIter
import KE.KItemsList
import HandS.Conv
import HandS.Text
section H0_part
set_option Elab.async false
set_option linter.all false
set_option maxRecDepth 100000
set_option maxHeartbeats 0
namespace K3
open PySem PySem.Spec PyProof.Rows L2
def top (i : Nat) : Stmt := PySem.Challenge.pw_skiphall_k46_names_exchanged.main.body.getD i (.Pass ⟨0, 0, 0, 0⟩)
abbrev s__wall : Stmt := top 0
abbrev s_Is_init : Stmt := inClass (top 3) 0
abbrev s_Is_eq : Stmt := inClass (top 3) 1
abbrev s_Has_init : Stmt := inClass (top 4) 0
abbrev s_Has_eq : Stmt := inClass (top 4) 1
abbrev s_Not_init : Stmt := inClass (top 5) 0
abbrev s_Not_eq : Stmt := inClass (top 5) 1
abbrev s_Both_init : Stmt := inClass (top 6) 0
abbrev s_Both_eq : Stmt := inClass (top 6) 1
abbrev s_Either_init : Stmt := inClass (top 7) 0
abbrev s_Either_eq : Stmt := inClass (top 7) 1
abbrev s_simple_ones : Stmt := top 8
abbrev s_HallError_told : Stmt := inClass (top 10) 0
abbrev s_BadCount_init : Stmt := inClass (top 11) 0
abbrev s_BadCount_told : Stmt := inClass (top 11) 1
abbrev s_NoName_init : Stmt := inClass (top 12) 0
abbrev s_NoName_told : Stmt := inClass (top 12) 1
abbrev s_Twice_init : Stmt := inClass (top 13) 0
abbrev s_Twice_told : Stmt := inClass (top 13) 1
abbrev s_NoQuestion_init : Stmt := inClass (top 14) 0
abbrev s_NoQuestion_told : Stmt := inClass (top 14) 1
abbrev s_NoFit_init : Stmt := inClass (top 15) 0
abbrev s_NoFit_told : Stmt := inClass (top 15) 1
abbrev s_is_name : Stmt := top 20
abbrev s_refuse_no_name : Stmt := top 21
abbrev s_refuse_twice : Stmt := top 22
abbrev s_One_init : Stmt := inClass (top 29) 0
abbrev s_One_eq : Stmt := inClass (top 29) 1
abbrev s_Some_init : Stmt := inClass (top 30) 0
abbrev s_Some_eq : Stmt := inClass (top 30) 1
abbrev s_Number_init : Stmt := inClass (top 31) 0
abbrev s_Number_eq : Stmt := inClass (top 31) 1
abbrev s_Check_init : Stmt := inClass (top 32) 0
abbrev s_Check_eq : Stmt := inClass (top 32) 1
abbrev s_Section_init : Stmt := inClass (top 33) 0
abbrev s_Section_eq : Stmt := inClass (top 33) 1
abbrev s_Rounds_init : Stmt := inClass (top 34) 0
abbrev s_Rounds_eq : Stmt := inClass (top 34) 1
abbrev s_Form_init : Stmt := inClass (top 35) 0
abbrev s_Form_eq : Stmt := inClass (top 35) 1
abbrev s_Form_outline : Stmt := inClass (top 35) 2
abbrev s_Form_names : Stmt := inClass (top 35) 3
abbrev s_Form_question : Stmt := inClass (top 35) 4
abbrev s_Form_in_rounds : Stmt := inClass (top 35) 5
abbrev s_is_question : Stmt := top 36
abbrev s_is_named : Stmt := top 37
abbrev s_lay_out : Stmt := top 38
abbrev s_check_rows : Stmt := top 39
abbrev s_check_row : Stmt := top 40
abbrev s_check_name : Stmt := top 41
abbrev s_check_options : Stmt := top 42
abbrev s_refuse_options : Stmt := top 43
abbrev s_check_bounds : Stmt := top 44
abbrev s_check_inner_rows : Stmt := top 45
abbrev s_check_count : Stmt := top 46
abbrev s_check_conditions : Stmt := top 47
abbrev s_conditions_of : Stmt := top 48
abbrev s_question_ahead : Stmt := top 49
abbrev s_suits : Stmt := top 50
abbrev s_is_answer : Stmt := top 52
abbrev s_chosen_in_order : Stmt := top 53
abbrev s_is_number : Stmt := top 54
abbrev s_Edition_init : Stmt := inClass (top 56) 0
abbrev s_Edition_eq : Stmt := inClass (top 56) 1
abbrev s_refuse_counts : Stmt := top 57
abbrev s_refuse_calls : Stmt := top 58
abbrev s_has_question : Stmt := top 59
abbrev s_led : Stmt := top 60
abbrev s_led_over : Stmt := top 61
abbrev s_called_anew : Stmt := top 62
abbrev s_belongs : Stmt := top 63
abbrev s__law_cell_at : Stmt := top 65
abbrev s__law_well : Stmt := top 66
abbrev s__law_draw : Stmt := top 67
abbrev s__law_pick : Stmt := top 68
abbrev s__law_name : Stmt := top 69
abbrev s__law_names : Stmt := top 70
abbrev s__law_form : Stmt := top 71
abbrev s__law_answers : Stmt := top 72
abbrev s__law_put_on : Stmt := top 73
abbrev s_law : Stmt := top 74
namespace D
def d__wall : He.DefD := ⟨("_wall", none), "_wall", "_wall", defArgs s__wall, defBody s__wall, defScope s__wall, [], []⟩
def d_Is_init : He.DefD := ⟨("Is", some "__init__"), "__init__", "Is.__init__", defArgs s_Is_init, defBody s_Is_init, defScope s_Is_init, [], []⟩
def d_Is_eq : He.DefD := ⟨("Is", some "__eq__"), "__eq__", "Is.__eq__", defArgs s_Is_eq, defBody s_Is_eq, defScope s_Is_eq, [], []⟩
def d_Has_init : He.DefD := ⟨("Has", some "__init__"), "__init__", "Has.__init__", defArgs s_Has_init, defBody s_Has_init, defScope s_Has_init, [], []⟩
def d_Has_eq : He.DefD := ⟨("Has", some "__eq__"), "__eq__", "Has.__eq__", defArgs s_Has_eq, defBody s_Has_eq, defScope s_Has_eq, [], []⟩
def d_Not_init : He.DefD := ⟨("Not", some "__init__"), "__init__", "Not.__init__", defArgs s_Not_init, defBody s_Not_init, defScope s_Not_init, [], []⟩
def d_Not_eq : He.DefD := ⟨("Not", some "__eq__"), "__eq__", "Not.__eq__", defArgs s_Not_eq, defBody s_Not_eq, defScope s_Not_eq, [], []⟩
def d_Both_init : He.DefD := ⟨("Both", some "__init__"), "__init__", "Both.__init__", defArgs s_Both_init, defBody s_Both_init, defScope s_Both_init, [], []⟩
def d_Both_eq : He.DefD := ⟨("Both", some "__eq__"), "__eq__", "Both.__eq__", defArgs s_Both_eq, defBody s_Both_eq, defScope s_Both_eq, [], []⟩
def d_Either_init : He.DefD := ⟨("Either", some "__init__"), "__init__", "Either.__init__", defArgs s_Either_init, defBody s_Either_init, defScope s_Either_init, [], []⟩
def d_Either_eq : He.DefD := ⟨("Either", some "__eq__"), "__eq__", "Either.__eq__", defArgs s_Either_eq, defBody s_Either_eq, defScope s_Either_eq, [], []⟩
def d_simple_ones : He.DefD := ⟨("simple_ones", none), "simple_ones", "simple_ones", defArgs s_simple_ones, defBody s_simple_ones, defScope s_simple_ones, [], []⟩
def d_HallError_told : He.DefD := ⟨("HallError", some "told"), "told", "HallError.told", defArgs s_HallError_told, defBody s_HallError_told, defScope s_HallError_told, [], []⟩
def d_BadCount_init : He.DefD := ⟨("BadCount", some "__init__"), "__init__", "BadCount.__init__", defArgs s_BadCount_init, defBody s_BadCount_init, defScope s_BadCount_init, [], []⟩
def d_BadCount_told : He.DefD := ⟨("BadCount", some "told"), "told", "BadCount.told", defArgs s_BadCount_told, defBody s_BadCount_told, defScope s_BadCount_told, [], []⟩
def d_NoName_init : He.DefD := ⟨("NoName", some "__init__"), "__init__", "NoName.__init__", defArgs s_NoName_init, defBody s_NoName_init, defScope s_NoName_init, [], []⟩
def d_NoName_told : He.DefD := ⟨("NoName", some "told"), "told", "NoName.told", defArgs s_NoName_told, defBody s_NoName_told, defScope s_NoName_told, [], []⟩
def d_Twice_init : He.DefD := ⟨("Twice", some "__init__"), "__init__", "Twice.__init__", defArgs s_Twice_init, defBody s_Twice_init, defScope s_Twice_init, [], []⟩
def d_Twice_told : He.DefD := ⟨("Twice", some "told"), "told", "Twice.told", defArgs s_Twice_told, defBody s_Twice_told, defScope s_Twice_told, [], []⟩
def d_NoQuestion_init : He.DefD := ⟨("NoQuestion", some "__init__"), "__init__", "NoQuestion.__init__", defArgs s_NoQuestion_init, defBody s_NoQuestion_init, defScope s_NoQuestion_init, [], []⟩
def d_NoQuestion_told : He.DefD := ⟨("NoQuestion", some "told"), "told", "NoQuestion.told", defArgs s_NoQuestion_told, defBody s_NoQuestion_told, defScope s_NoQuestion_told, [], []⟩
def d_NoFit_init : He.DefD := ⟨("NoFit", some "__init__"), "__init__", "NoFit.__init__", defArgs s_NoFit_init, defBody s_NoFit_init, defScope s_NoFit_init, [], []⟩
def d_NoFit_told : He.DefD := ⟨("NoFit", some "told"), "told", "NoFit.told", defArgs s_NoFit_told, defBody s_NoFit_told, defScope s_NoFit_told, [], []⟩
def d_is_name : He.DefD := ⟨("is_name", none), "is_name", "is_name", defArgs s_is_name, defBody s_is_name, defScope s_is_name, [], []⟩
def d_refuse_no_name : He.DefD := ⟨("refuse_no_name", none), "refuse_no_name", "refuse_no_name", defArgs s_refuse_no_name, defBody s_refuse_no_name, defScope s_refuse_no_name, [], []⟩
def d_refuse_twice : He.DefD := ⟨("refuse_twice", none), "refuse_twice", "refuse_twice", defArgs s_refuse_twice, defBody s_refuse_twice, defScope s_refuse_twice, [], []⟩
def d_One_init : He.DefD := ⟨("One", some "__init__"), "__init__", "One.__init__", defArgs s_One_init, defBody s_One_init, defScope s_One_init, [], [("where", .non)]⟩
def d_One_eq : He.DefD := ⟨("One", some "__eq__"), "__eq__", "One.__eq__", defArgs s_One_eq, defBody s_One_eq, defScope s_One_eq, [], []⟩
def d_Some_init : He.DefD := ⟨("Some", some "__init__"), "__init__", "Some.__init__", defArgs s_Some_init, defBody s_Some_init, defScope s_Some_init, [], [("where", .non)]⟩
def d_Some_eq : He.DefD := ⟨("Some", some "__eq__"), "__eq__", "Some.__eq__", defArgs s_Some_eq, defBody s_Some_eq, defScope s_Some_eq, [], []⟩
def d_Number_init : He.DefD := ⟨("Number", some "__init__"), "__init__", "Number.__init__", defArgs s_Number_init, defBody s_Number_init, defScope s_Number_init, [], [("where", .non)]⟩
def d_Number_eq : He.DefD := ⟨("Number", some "__eq__"), "__eq__", "Number.__eq__", defArgs s_Number_eq, defBody s_Number_eq, defScope s_Number_eq, [], []⟩
def d_Check_init : He.DefD := ⟨("Check", some "__init__"), "__init__", "Check.__init__", defArgs s_Check_init, defBody s_Check_init, defScope s_Check_init, [], [("where", .non)]⟩
def d_Check_eq : He.DefD := ⟨("Check", some "__eq__"), "__eq__", "Check.__eq__", defArgs s_Check_eq, defBody s_Check_eq, defScope s_Check_eq, [], []⟩
def d_Section_init : He.DefD := ⟨("Section", some "__init__"), "__init__", "Section.__init__", defArgs s_Section_init, defBody s_Section_init, defScope s_Section_init, [], [("where", .non)]⟩
def d_Section_eq : He.DefD := ⟨("Section", some "__eq__"), "__eq__", "Section.__eq__", defArgs s_Section_eq, defBody s_Section_eq, defScope s_Section_eq, [], []⟩
def d_Rounds_init : He.DefD := ⟨("Rounds", some "__init__"), "__init__", "Rounds.__init__", defArgs s_Rounds_init, defBody s_Rounds_init, defScope s_Rounds_init, [], [("where", .non)]⟩
def d_Rounds_eq : He.DefD := ⟨("Rounds", some "__eq__"), "__eq__", "Rounds.__eq__", defArgs s_Rounds_eq, defBody s_Rounds_eq, defScope s_Rounds_eq, [], []⟩
def d_Form_init : He.DefD := ⟨("Form", some "__init__"), "__init__", "Form.__init__", defArgs s_Form_init, defBody s_Form_init, defScope s_Form_init, [], []⟩
def d_Form_eq : He.DefD := ⟨("Form", some "__eq__"), "__eq__", "Form.__eq__", defArgs s_Form_eq, defBody s_Form_eq, defScope s_Form_eq, [], []⟩
def d_Form_outline : He.DefD := ⟨("Form", some "outline"), "outline", "Form.outline", defArgs s_Form_outline, defBody s_Form_outline, defScope s_Form_outline, [], []⟩
def d_Form_names : He.DefD := ⟨("Form", some "names"), "names", "Form.names", defArgs s_Form_names, defBody s_Form_names, defScope s_Form_names, [], []⟩
def d_Form_question : He.DefD := ⟨("Form", some "question"), "question", "Form.question", defArgs s_Form_question, defBody s_Form_question, defScope s_Form_question, [], []⟩
def d_Form_in_rounds : He.DefD := ⟨("Form", some "in_rounds"), "in_rounds", "Form.in_rounds", defArgs s_Form_in_rounds, defBody s_Form_in_rounds, defScope s_Form_in_rounds, [], []⟩
def d_is_question : He.DefD := ⟨("is_question", none), "is_question", "is_question", defArgs s_is_question, defBody s_is_question, defScope s_is_question, [], []⟩
def d_is_named : He.DefD := ⟨("is_named", none), "is_named", "is_named", defArgs s_is_named, defBody s_is_named, defScope s_is_named, [], []⟩
def d_lay_out : He.DefD := ⟨("lay_out", none), "lay_out", "lay_out", defArgs s_lay_out, defBody s_lay_out, defScope s_lay_out, [], []⟩
def d_check_rows : He.DefD := ⟨("check_rows", none), "check_rows", "check_rows", defArgs s_check_rows, defBody s_check_rows, defScope s_check_rows, [], []⟩
def d_check_row : He.DefD := ⟨("check_row", none), "check_row", "check_row", defArgs s_check_row, defBody s_check_row, defScope s_check_row, [], []⟩
def d_check_name : He.DefD := ⟨("check_name", none), "check_name", "check_name", defArgs s_check_name, defBody s_check_name, defScope s_check_name, [], []⟩
def d_check_options : He.DefD := ⟨("check_options", none), "check_options", "check_options", defArgs s_check_options, defBody s_check_options, defScope s_check_options, [], []⟩
def d_refuse_options : He.DefD := ⟨("refuse_options", none), "refuse_options", "refuse_options", defArgs s_refuse_options, defBody s_refuse_options, defScope s_refuse_options, [], []⟩
def d_check_bounds : He.DefD := ⟨("check_bounds", none), "check_bounds", "check_bounds", defArgs s_check_bounds, defBody s_check_bounds, defScope s_check_bounds, [], []⟩
def d_check_inner_rows : He.DefD := ⟨("check_inner_rows", none), "check_inner_rows", "check_inner_rows", defArgs s_check_inner_rows, defBody s_check_inner_rows, defScope s_check_inner_rows, [], []⟩
def d_check_count : He.DefD := ⟨("check_count", none), "check_count", "check_count", defArgs s_check_count, defBody s_check_count, defScope s_check_count, [], []⟩
def d_check_conditions : He.DefD := ⟨("check_conditions", none), "check_conditions", "check_conditions", defArgs s_check_conditions, defBody s_check_conditions, defScope s_check_conditions, [], []⟩
def d_conditions_of : He.DefD := ⟨("conditions_of", none), "conditions_of", "conditions_of", defArgs s_conditions_of, defBody s_conditions_of, defScope s_conditions_of, [], []⟩
def d_question_ahead : He.DefD := ⟨("question_ahead", none), "question_ahead", "question_ahead", defArgs s_question_ahead, defBody s_question_ahead, defScope s_question_ahead, [], []⟩
def d_suits : He.DefD := ⟨("suits", none), "suits", "suits", defArgs s_suits, defBody s_suits, defScope s_suits, [], []⟩
def d_is_answer : He.DefD := ⟨("is_answer", none), "is_answer", "is_answer", defArgs s_is_answer, defBody s_is_answer, defScope s_is_answer, [], []⟩
def d_chosen_in_order : He.DefD := ⟨("chosen_in_order", none), "chosen_in_order", "chosen_in_order", defArgs s_chosen_in_order, defBody s_chosen_in_order, defScope s_chosen_in_order, [], []⟩
def d_is_number : He.DefD := ⟨("is_number", none), "is_number", "is_number", defArgs s_is_number, defBody s_is_number, defScope s_is_number, [], []⟩
def d_Edition_init : He.DefD := ⟨("Edition", some "__init__"), "__init__", "Edition.__init__", defArgs s_Edition_init, defBody s_Edition_init, defScope s_Edition_init, [], []⟩
def d_Edition_eq : He.DefD := ⟨("Edition", some "__eq__"), "__eq__", "Edition.__eq__", defArgs s_Edition_eq, defBody s_Edition_eq, defScope s_Edition_eq, [], []⟩
def d_refuse_counts : He.DefD := ⟨("refuse_counts", none), "refuse_counts", "refuse_counts", defArgs s_refuse_counts, defBody s_refuse_counts, defScope s_refuse_counts, [], []⟩
def d_refuse_calls : He.DefD := ⟨("refuse_calls", none), "refuse_calls", "refuse_calls", defArgs s_refuse_calls, defBody s_refuse_calls, defScope s_refuse_calls, [], []⟩
def d_has_question : He.DefD := ⟨("has_question", none), "has_question", "has_question", defArgs s_has_question, defBody s_has_question, defScope s_has_question, [], []⟩
def d_led : He.DefD := ⟨("led", none), "led", "led", defArgs s_led, defBody s_led, defScope s_led, [], []⟩
def d_led_over : He.DefD := ⟨("led_over", none), "led_over", "led_over", defArgs s_led_over, defBody s_led_over, defScope s_led_over, [], []⟩
def d_called_anew : He.DefD := ⟨("called_anew", none), "called_anew", "called_anew", defArgs s_called_anew, defBody s_called_anew, defScope s_called_anew, [], []⟩
def d_belongs : He.DefD := ⟨("belongs", none), "belongs", "belongs", defArgs s_belongs, defBody s_belongs, defScope s_belongs, [], []⟩
def d__law_cell_at : He.DefD := ⟨("_law_cell_at", none), "_law_cell_at", "_law_cell_at", defArgs s__law_cell_at, defBody s__law_cell_at, defScope s__law_cell_at, [], []⟩
def d__law_well : He.DefD := ⟨("_law_well", none), "_law_well", "_law_well", defArgs s__law_well, defBody s__law_well, defScope s__law_well, [], []⟩
def d__law_draw : He.DefD := ⟨("_law_draw", none), "_law_draw", "_law_draw", defArgs s__law_draw, defBody s__law_draw, defScope s__law_draw, [], []⟩
def d__law_pick : He.DefD := ⟨("_law_pick", none), "_law_pick", "_law_pick", defArgs s__law_pick, defBody s__law_pick, defScope s__law_pick, [], []⟩
def d__law_name : He.DefD := ⟨("_law_name", none), "_law_name", "_law_name", defArgs s__law_name, defBody s__law_name, defScope s__law_name, [], []⟩
def d__law_names : He.DefD := ⟨("_law_names", none), "_law_names", "_law_names", defArgs s__law_names, defBody s__law_names, defScope s__law_names, [], []⟩
def d__law_form : He.DefD := ⟨("_law_form", none), "_law_form", "_law_form", defArgs s__law_form, defBody s__law_form, defScope s__law_form, [], []⟩
def d__law_answers : He.DefD := ⟨("_law_answers", none), "_law_answers", "_law_answers", defArgs s__law_answers, defBody s__law_answers, defScope s__law_answers, [], []⟩
def d__law_put_on : He.DefD := ⟨("_law_put_on", none), "_law_put_on", "_law_put_on", defArgs s__law_put_on, defBody s__law_put_on, defScope s__law_put_on, [], []⟩
def d_law : He.DefD := ⟨("law", none), "law", "law", defArgs s_law, defBody s_law, defScope s_law, [], []⟩
def fn : List He.DefD := [d__wall, d_Is_init, d_Is_eq, d_Has_init, d_Has_eq, d_Not_init, d_Not_eq, d_Both_init, d_Both_eq, d_Either_init, d_Either_eq, d_simple_ones, d_HallError_told, d_BadCount_init, d_BadCount_told, d_NoName_init, d_NoName_told, d_Twice_init, d_Twice_told, d_NoQuestion_init, d_NoQuestion_told, d_NoFit_init, d_NoFit_told, d_is_name, d_refuse_no_name, d_refuse_twice, d_One_init, d_One_eq, d_Some_init, d_Some_eq, d_Number_init, d_Number_eq, d_Check_init, d_Check_eq, d_Section_init, d_Section_eq, d_Rounds_init, d_Rounds_eq, d_Form_init, d_Form_eq, d_Form_outline, d_Form_names, d_Form_question, d_Form_in_rounds, d_is_question, d_is_named, d_lay_out, d_check_rows, d_check_row, d_check_name, d_check_options, d_refuse_options, d_check_bounds, d_check_inner_rows, d_check_count, d_check_conditions, d_conditions_of, d_question_ahead, d_suits, d_is_answer, d_chosen_in_order, d_is_number, d_Edition_init, d_Edition_eq, d_refuse_counts, d_refuse_calls, d_has_question, d_led, d_led_over, d_called_anew, d_belongs, d__law_cell_at, d__law_well, d__law_draw, d__law_pick, d__law_name, d__law_names, d__law_form, d__law_answers, d__law_put_on, d_law]
def fa : List He.Fa := [.glo "_wall",
  .glo "Condition",
  .keep "Condition",
  .glo "Is",
  .keep "Is",
  .glo "Has",
  .keep "Has",
  .glo "Not",
  .keep "Not",
  .glo "Both",
  .keep "Both",
  .glo "Either",
  .keep "Either",
  .glo "simple_ones",
  .glo "HallError",
  .keep "HallError",
  .glo "BadCount",
  .keep "BadCount",
  .glo "NoName",
  .keep "NoName",
  .glo "Twice",
  .keep "Twice",
  .glo "NoQuestion",
  .keep "NoQuestion",
  .glo "NoFit",
  .keep "NoFit",
  .str "FIGURES" "0123456789",
  .str "LETTERS" "abcdefghijklmnopqrstuvwxyz",
  .int "LONGEST_NAME" 8,
  .glo "is_name",
  .glo "refuse_no_name",
  .glo "refuse_twice",
  .int "MOST_ROWS" 40,
  .int "MOST_OPTIONS_OF_ONE" 6,
  .int "MOST_OPTIONS_OF_SOME" 4,
  .int "MOST_ROUNDS" 4,
  .glo "Row",
  .keep "Row",
  .glo "One",
  .keep "One",
  .glo "Some",
  .keep "Some",
  .glo "Number",
  .keep "Number",
  .glo "Check",
  .keep "Check",
  .glo "Section",
  .keep "Section",
  .glo "Rounds",
  .keep "Rounds",
  .glo "Form",
  .keep "Form",
  .glo "is_question",
  .glo "is_named",
  .glo "lay_out",
  .glo "check_rows",
  .glo "check_row",
  .glo "check_name",
  .glo "check_options",
  .glo "refuse_options",
  .glo "check_bounds",
  .glo "check_inner_rows",
  .glo "check_count",
  .glo "check_conditions",
  .glo "conditions_of",
  .glo "question_ahead",
  .glo "suits",
  .glo "is_answer",
  .glo "chosen_in_order",
  .glo "is_number",
  .glo "Edition",
  .keep "Edition",
  .glo "refuse_counts",
  .glo "refuse_calls",
  .glo "has_question",
  .glo "led",
  .glo "led_over",
  .glo "called_anew",
  .glo "belongs",
  .glo "_law_cell_at",
  .glo "_law_well",
  .glo "_law_draw",
  .glo "_law_pick",
  .glo "_law_name",
  .glo "_law_names",
  .glo "_law_form",
  .glo "_law_answers",
  .glo "_law_put_on",
  .glo "law",
  .free "all",
  .free "bool",
  .free "dict",
  .free "int",
  .free "isinstance",
  .free "len",
  .free "list",
  .free "range",
  .free "set",
  .free "str",
  .free "tuple",
  .free "zip",
  .cls "Is",
  .mkr "Is",
  .noat "Is" "name",
  .noat "Is" "option",
  .meth "Is" "__init__",
  .meth "Is" "__eq__",
  .cls "Has",
  .mkr "Has",
  .noat "Has" "name",
  .noat "Has" "option",
  .meth "Has" "__init__",
  .meth "Has" "__eq__",
  .cls "Not",
  .mkr "Not",
  .noat "Not" "inner",
  .meth "Not" "__init__",
  .meth "Not" "__eq__",
  .cls "Both",
  .mkr "Both",
  .noat "Both" "left",
  .noat "Both" "right",
  .meth "Both" "__init__",
  .meth "Both" "__eq__",
  .cls "Either",
  .mkr "Either",
  .noat "Either" "left",
  .noat "Either" "right",
  .meth "Either" "__init__",
  .meth "Either" "__eq__",
  .noat "BadCount" "what",
  .noat "BadCount" "count",
  .meth "BadCount" "__init__",
  .noat "NoName" "name",
  .meth "NoName" "__init__",
  .noat "Twice" "name",
  .meth "Twice" "__init__",
  .noat "NoQuestion" "name",
  .meth "NoQuestion" "__init__",
  .noat "NoFit" "name",
  .meth "NoFit" "__init__",
  .cls "One",
  .mkr "One",
  .noat "One" "name",
  .noat "One" "options",
  .noat "One" "where",
  .meth "One" "__init__",
  .meth "One" "__eq__",
  .cls "Some",
  .mkr "Some",
  .noat "Some" "name",
  .noat "Some" "options",
  .noat "Some" "where",
  .meth "Some" "__init__",
  .meth "Some" "__eq__",
  .cls "Number",
  .mkr "Number",
  .noat "Number" "name",
  .noat "Number" "low",
  .noat "Number" "high",
  .noat "Number" "where",
  .meth "Number" "__init__",
  .meth "Number" "__eq__",
  .cls "Check",
  .mkr "Check",
  .noat "Check" "name",
  .noat "Check" "must",
  .noat "Check" "where",
  .meth "Check" "__init__",
  .meth "Check" "__eq__",
  .cls "Section",
  .mkr "Section",
  .noat "Section" "rows",
  .noat "Section" "where",
  .meth "Section" "__init__",
  .meth "Section" "__eq__",
  .cls "Rounds",
  .mkr "Rounds",
  .noat "Rounds" "count",
  .noat "Rounds" "rows",
  .noat "Rounds" "where",
  .meth "Rounds" "__init__",
  .meth "Rounds" "__eq__",
  .cls "Form",
  .mkr "Form",
  .noat "Form" "rows",
  .noat "Form" "questions",
  .noat "Form" "repeated",
  .meth "Form" "__init__",
  .meth "Form" "__eq__",
  .meth "Form" "outline",
  .meth "Form" "names",
  .meth "Form" "question",
  .meth "Form" "in_rounds",
  .cls "Edition",
  .mkr "Edition",
  .noat "Edition" "number",
  .noat "Edition" "form",
  .noat "Edition" "calls",
  .meth "Edition" "__init__",
  .meth "Edition" "__eq__"]
end D
/-! ### what an own exception class with its __init__ says -/
def oexB (K : PySem.W.Frag) (C : Addr) : Bool := (match K.lookup C with
  | some ⟨.type "type", _, .cls cd, sl⟩ => (match cd.mro, sl.toList with
    | .ref C' :: bm, [_, _, _, _, some (.builtin n), _] => C' == C && (n == "ValueError.__new__" && (!cd.hasDel && (cd.hasDict && PySem.HandSPX.refsVE bm)))
    | _, _ => false)
  | _ => false) && (eqB (PySem.W.findIn K (.ref C) "__setattr__") (some (some (.builtin "object.__setattr__"))) && (eqB (PySem.W.subIn K (.ref C) (.type "BaseException")) (some true) && (eqB (PySem.W.typeIn K (.ref C)) (some (.type "type")) && PySem.W.keepIn K (.ref C))))
where eqB {α : Type} [DecidableEq α] (a b : α) : Bool := decide (a = b)
/-! done -/
end K3
end H0_part
section HX_part
set_option Elab.async false
set_option linter.all false
set_option maxRecDepth 100000
set_option maxHeartbeats 0
namespace K3
open PySem PySem.Spec PyProof.Rows L2
/-! ### further facts of the written part, as Bools -/
def eqB {α : Type} [DecidableEq α] (a b : α) : Bool := decide (a = b)
theorem eqB_ok {α : Type} [DecidableEq α] {a b : α} (h : eqB a b = true) : a = b := of_decide_eq_true h
def kclsB (K : PySem.W.Frag) (C : Addr) : Bool := eqB (PySem.W.findIn K (.ref C) "__class__") (some (some (.builtin "object.__class__"))) && eqB (PySem.W.mroIn K C (.type "object")) (some true)
def getsetB (K : PySem.W.Frag) : Bool := eqB (PySem.W.specialIn K (.builtin "object.__class__") "__get__") (some (some (.builtin "getset_descriptor.__get__"))) && eqB (PySem.W.takesIn K (.builtin "object.__class__")) (some true)
def oexcB (K : PySem.W.Frag) (C : Addr) : Bool := match K.lookup C with
  | some ⟨.type "type", _, .cls cd, sl⟩ => (match cd.mro, sl.toList with
    | .ref C' :: bm, [_, _, _, _, some (.builtin n), _] => C' == C && (n == "ValueError.__new__" && (!cd.hasDel && (cd.hasDict && PySem.HandSPX.refsVE bm)))
    | _, _ => false)
  | _ => false
def excB (K : PySem.W.Frag) (C : Addr) : Bool := oexcB K C && (eqB (PySem.W.findIn K (.ref C) "__setattr__") (some (some (.builtin "object.__setattr__"))) && (eqB (PySem.W.typeIn K (.ref C)) (some (.type "type")) && (PySem.W.keepIn K (.ref C) && xfB K C)))
def kitB2 (K : PySem.W.Frag) (x y : Str) : Bool := eqB (PySem.W.kitOne K (.ref (He.ga K x)) (.ref (He.ga K y))) (some (x == y))
def errN : List Str := [("BadCount" : Str), ("NoName" : Str), ("Twice" : Str), ("NoQuestion" : Str), ("NoFit" : Str)]
def cndN : List Str := [("Is" : Str), ("Has" : Str), ("Not" : Str), ("Both" : Str), ("Either" : Str)]
def cndT : List Str := [("Is" : Str), ("Has" : Str), ("Not" : Str), ("Both" : Str), ("Either" : Str)]
def rowN : List Str := [("One" : Str), ("Some" : Str), ("Number" : Str), ("Check" : Str), ("Section" : Str), ("Rounds" : Str)]
def ex (K : PySem.W.Frag) : Bool :=
  getsetB K && ((errN.all fun x => excB K (He.ga K x) && (kclsB K (He.ga K x) && (eqB (PySem.W.exmOne K (.ref (He.ga K x)) (.ref (He.ga K "HallError"))) (some true) && (eqB (PySem.W.kitOne K (.ref (He.ga K x)) (.type "ValueError")) (some true) && errN.all fun y => kitB2 K x y)))) &&
  ((cndN.all fun x => kclsB K (He.ga K x) && cndT.all fun y => kitB2 K x y) && (rowN.all fun x => kclsB K (He.ga K x) && rowN.all fun y => kitB2 K x y)))
/-! ### the Hook -/
def hookE (n : Nat) : PySem.W.Hook where
  α := He.AlD × Bool
  obs := fun s => (He.obsDG n D.fa D.fn s.heap.get?, ex (He.frG s.heap.get? (He.asD s.heap.get? n)))
  val := fun _ => (He.valD D.fn, true)
  says := fun _ h => ∃ K : PySem.W.Frag, K.In h ∧ He.SaysD D.fa D.fn K ∧ ex K = true
  of := fun _ h e => ⟨_, He.frG_in, congrArg Prod.fst e, congrArg Prod.snd e⟩
  keeps := fun _ _ _ ⟨K, hK, c⟩ k => ⟨K, PySem.W.Frag.In.keeps hK k, c⟩
def ob (n : Nat) (s : PySem.W.SharedT) : He.AlD × Bool := (He.obsDG n D.fa D.fn (HandSHeadRun.getT s), ex (He.frG (HandSHeadRun.getT s) (He.asD (HandSHeadRun.getT s) n)))
theorem ob_eq (n : Nat) (s : PySem.W.SharedT) : ob n s = (hookE n).obs s.abs := by
  have e : HandSHeadRun.getT s = s.abs.heap.get? := funext (HandSHeadRun.getT_eq s)
  unfold ob
  rw [e] <;> rfl
end K3
end HX_part
section H1_part
set_option Elab.async false
set_option linter.all false
set_option maxRecDepth 100000
set_option maxHeartbeats 0
namespace K3
open PySem PySem.Spec PyProof.Rows L2 PySem.W PySem.Calls HandSHeadRun
abbrev R : PySem.W.OpenRow := PySem.W.OpenLaw.row PySem.Challenge.rw_skiphall_k46_names_exchanged
def loose1 : List Str := [("_wall" : Str), ("Condition" : Str), ("Is" : Str), ("Has" : Str), ("Not" : Str), ("Both" : Str), ("Either" : Str), ("simple_ones" : Str), ("HallError" : Str), ("BadCount" : Str), ("NoName" : Str), ("Twice" : Str), ("NoQuestion" : Str), ("NoFit" : Str), ("FIGURES" : Str), ("LETTERS" : Str), ("LONGEST_NAME" : Str), ("is_name" : Str), ("refuse_no_name" : Str), ("refuse_twice" : Str), ("MOST_ROWS" : Str), ("MOST_OPTIONS_OF_ONE" : Str), ("MOST_OPTIONS_OF_SOME" : Str), ("MOST_ROUNDS" : Str), ("Row" : Str), ("One" : Str), ("Some" : Str), ("Number" : Str), ("Check" : Str), ("Section" : Str)]
def loose2 : List Str := [("Rounds" : Str), ("Form" : Str), ("is_question" : Str), ("is_named" : Str), ("lay_out" : Str), ("check_rows" : Str), ("check_row" : Str), ("check_name" : Str), ("check_options" : Str), ("refuse_options" : Str), ("check_bounds" : Str), ("check_inner_rows" : Str), ("check_count" : Str), ("check_conditions" : Str), ("conditions_of" : Str), ("question_ahead" : Str), ("suits" : Str), ("is_answer" : Str), ("chosen_in_order" : Str), ("is_number" : Str), ("Edition" : Str), ("refuse_counts" : Str), ("refuse_calls" : Str), ("has_question" : Str), ("led" : Str), ("led_over" : Str), ("called_anew" : Str), ("belongs" : Str), ("_law_cell_at" : Str), ("_law_well" : Str)]
def loose3 : List Str := [("_law_draw" : Str), ("_law_pick" : Str), ("_law_name" : Str), ("_law_names" : Str), ("_law_form" : Str), ("_law_answers" : Str), ("_law_put_on" : Str)]
def loose : List Str := loose1 ++ loose2 ++ loose3
abbrev qv : Program := PySem.W.view R.prog [74]
/-! the head's run, looked at three times: one run with all three looks wants more memory than there is -/
theorem run1 (w : World) (os : OsState) : (endF (stepQ (denQ tabQ) R.prog w) 8000 R.prog w os).map (fun s => looksF R.prog (boot_heap w.params) s.abs) = some true := by
  kernel_rfl
theorem run2 (w : World) (os : OsState) : (endF (stepQ (denQ tabQ) R.prog w) 8000 R.prog w os).map (fun s => seenQ qv loose (importedModules R.prog.main.body) (fun s => xlAt qv [] s && recOk R.toRowW.records s) s.abs) = some (openGood qv loose) := by
  kernel_rfl
theorem run3 (w : World) (os : OsState) : (endF (stepQ (denQ tabQ) R.prog w) 8000 R.prog w os).map (fun s => ob 4 s) = some ((hookE 4).val w) := by
  kernel_rfl
theorem join3 {α A B C : Type} {f : α → A} {g : α → B} {h : α → C} {a : A} {b : B} {c : C} : ∀ {o : Option α}, o.map f = some a → o.map g = some b → o.map h = some c → o.map (fun s => (f s, g s, h s)) = some (a, b, c)
  | none, h1, _, _ => by cases h1
  | some s, h1, h2, h3 => by
    have e1 := Option.some.inj h1
    have e2 := Option.some.inj h2
    have e3 := Option.some.inj h3
    show some (f s, g s, h s) = _
    rw [e1, e2, e3]
theorem run (w : World) : HandSHeadRun.RunEq R qv (hookE 4) (ob 4) 8000 loose w := fun os => join3 (run1 w os) (run2 w os) (run3 w os)
end K3
end H1_part
section A0_part
set_option Elab.async false
set_option linter.all false
set_option maxRecDepth 100000
set_option maxHeartbeats 0
namespace K3
open PySem PySem.Spec PyProof.Rows L2
/-- what the top has written -/
structure Tx (K : PySem.W.Frag) (mg : Str → Option Value) : Prop where
  c : He.SaysD D.fa D.fn K
  e : ex K = true
  h : ∃ h : Heap, K.In h ∧ h.Ns mainGlobals mg
section
variable {K : PySem.W.Frag} {mg : Str → Option Value}
theorem Tx.glo (T : Tx K mg) {x : Str} (c : (He.Fa.glo x).ok K = true) : mg x = some (.ref (He.ga K x)) := by
  obtain ⟨h, X, G⟩ := T.h
  exact He.glo_ok X G c
theorem Tx.free (T : Tx K mg) {x : Str} (c : (He.Fa.free x).ok K = true) : mg x = none := by
  obtain ⟨h, X, G⟩ := T.h
  exact He.free_ok X G c
theorem Tx.int (T : Tx K mg) {x : Str} {i : Int} (c : (He.Fa.int x i).ok K = true) : ∃ t, mg x = some (.int i t) := by
  obtain ⟨h, X, G⟩ := T.h
  exact He.int_ok X G c
theorem Tx.str (T : Tx K mg) {x z : Str} (c : (He.Fa.str x z).ok K = true) : ∃ t, mg x = some (.str z t) := by
  obtain ⟨h, X, G⟩ := T.h
  exact He.str_ok X G c
theorem Tx.g__wall (T : Tx K mg) : mg "_wall" = some (.ref (He.ga K "_wall")) := T.glo (T.c.fact 0 rfl)
theorem Tx.g_Condition (T : Tx K mg) : mg "Condition" = some (.ref (He.ga K "Condition")) := T.glo (T.c.fact 1 rfl)
theorem Tx.k_Condition (T : Tx K mg) : PySem.W.keepIn K (.ref (He.ga K "Condition")) = true := He.keep_ok (x := "Condition") (T.c.fact 2 rfl)
theorem Tx.g_Is (T : Tx K mg) : mg "Is" = some (.ref (He.ga K "Is")) := T.glo (T.c.fact 3 rfl)
theorem Tx.k_Is (T : Tx K mg) : PySem.W.keepIn K (.ref (He.ga K "Is")) = true := He.keep_ok (x := "Is") (T.c.fact 4 rfl)
theorem Tx.g_Has (T : Tx K mg) : mg "Has" = some (.ref (He.ga K "Has")) := T.glo (T.c.fact 5 rfl)
theorem Tx.k_Has (T : Tx K mg) : PySem.W.keepIn K (.ref (He.ga K "Has")) = true := He.keep_ok (x := "Has") (T.c.fact 6 rfl)
theorem Tx.g_Not (T : Tx K mg) : mg "Not" = some (.ref (He.ga K "Not")) := T.glo (T.c.fact 7 rfl)
theorem Tx.k_Not (T : Tx K mg) : PySem.W.keepIn K (.ref (He.ga K "Not")) = true := He.keep_ok (x := "Not") (T.c.fact 8 rfl)
theorem Tx.g_Both (T : Tx K mg) : mg "Both" = some (.ref (He.ga K "Both")) := T.glo (T.c.fact 9 rfl)
theorem Tx.k_Both (T : Tx K mg) : PySem.W.keepIn K (.ref (He.ga K "Both")) = true := He.keep_ok (x := "Both") (T.c.fact 10 rfl)
theorem Tx.g_Either (T : Tx K mg) : mg "Either" = some (.ref (He.ga K "Either")) := T.glo (T.c.fact 11 rfl)
theorem Tx.k_Either (T : Tx K mg) : PySem.W.keepIn K (.ref (He.ga K "Either")) = true := He.keep_ok (x := "Either") (T.c.fact 12 rfl)
theorem Tx.g_simple_ones (T : Tx K mg) : mg "simple_ones" = some (.ref (He.ga K "simple_ones")) := T.glo (T.c.fact 13 rfl)
theorem Tx.g_HallError (T : Tx K mg) : mg "HallError" = some (.ref (He.ga K "HallError")) := T.glo (T.c.fact 14 rfl)
theorem Tx.k_HallError (T : Tx K mg) : PySem.W.keepIn K (.ref (He.ga K "HallError")) = true := He.keep_ok (x := "HallError") (T.c.fact 15 rfl)
theorem Tx.g_BadCount (T : Tx K mg) : mg "BadCount" = some (.ref (He.ga K "BadCount")) := T.glo (T.c.fact 16 rfl)
theorem Tx.k_BadCount (T : Tx K mg) : PySem.W.keepIn K (.ref (He.ga K "BadCount")) = true := He.keep_ok (x := "BadCount") (T.c.fact 17 rfl)
theorem Tx.g_NoName (T : Tx K mg) : mg "NoName" = some (.ref (He.ga K "NoName")) := T.glo (T.c.fact 18 rfl)
theorem Tx.k_NoName (T : Tx K mg) : PySem.W.keepIn K (.ref (He.ga K "NoName")) = true := He.keep_ok (x := "NoName") (T.c.fact 19 rfl)
theorem Tx.g_Twice (T : Tx K mg) : mg "Twice" = some (.ref (He.ga K "Twice")) := T.glo (T.c.fact 20 rfl)
theorem Tx.k_Twice (T : Tx K mg) : PySem.W.keepIn K (.ref (He.ga K "Twice")) = true := He.keep_ok (x := "Twice") (T.c.fact 21 rfl)
theorem Tx.g_NoQuestion (T : Tx K mg) : mg "NoQuestion" = some (.ref (He.ga K "NoQuestion")) := T.glo (T.c.fact 22 rfl)
theorem Tx.k_NoQuestion (T : Tx K mg) : PySem.W.keepIn K (.ref (He.ga K "NoQuestion")) = true := He.keep_ok (x := "NoQuestion") (T.c.fact 23 rfl)
theorem Tx.g_NoFit (T : Tx K mg) : mg "NoFit" = some (.ref (He.ga K "NoFit")) := T.glo (T.c.fact 24 rfl)
theorem Tx.k_NoFit (T : Tx K mg) : PySem.W.keepIn K (.ref (He.ga K "NoFit")) = true := He.keep_ok (x := "NoFit") (T.c.fact 25 rfl)
theorem Tx.s_FIGURES (T : Tx K mg) : ∃ t, mg "FIGURES" = some (.str "0123456789" t) := T.str (T.c.fact 26 rfl)
theorem Tx.s_LETTERS (T : Tx K mg) : ∃ t, mg "LETTERS" = some (.str "abcdefghijklmnopqrstuvwxyz" t) := T.str (T.c.fact 27 rfl)
theorem Tx.i_LONGEST_NAME (T : Tx K mg) : ∃ t, mg "LONGEST_NAME" = some (.int 8 t) := T.int (T.c.fact 28 rfl)
theorem Tx.g_is_name (T : Tx K mg) : mg "is_name" = some (.ref (He.ga K "is_name")) := T.glo (T.c.fact 29 rfl)
theorem Tx.g_refuse_no_name (T : Tx K mg) : mg "refuse_no_name" = some (.ref (He.ga K "refuse_no_name")) := T.glo (T.c.fact 30 rfl)
theorem Tx.g_refuse_twice (T : Tx K mg) : mg "refuse_twice" = some (.ref (He.ga K "refuse_twice")) := T.glo (T.c.fact 31 rfl)
theorem Tx.i_MOST_ROWS (T : Tx K mg) : ∃ t, mg "MOST_ROWS" = some (.int 40 t) := T.int (T.c.fact 32 rfl)
theorem Tx.i_MOST_OPTIONS_OF_ONE (T : Tx K mg) : ∃ t, mg "MOST_OPTIONS_OF_ONE" = some (.int 6 t) := T.int (T.c.fact 33 rfl)
theorem Tx.i_MOST_OPTIONS_OF_SOME (T : Tx K mg) : ∃ t, mg "MOST_OPTIONS_OF_SOME" = some (.int 4 t) := T.int (T.c.fact 34 rfl)
theorem Tx.i_MOST_ROUNDS (T : Tx K mg) : ∃ t, mg "MOST_ROUNDS" = some (.int 4 t) := T.int (T.c.fact 35 rfl)
theorem Tx.g_Row (T : Tx K mg) : mg "Row" = some (.ref (He.ga K "Row")) := T.glo (T.c.fact 36 rfl)
theorem Tx.k_Row (T : Tx K mg) : PySem.W.keepIn K (.ref (He.ga K "Row")) = true := He.keep_ok (x := "Row") (T.c.fact 37 rfl)
theorem Tx.g_One (T : Tx K mg) : mg "One" = some (.ref (He.ga K "One")) := T.glo (T.c.fact 38 rfl)
theorem Tx.k_One (T : Tx K mg) : PySem.W.keepIn K (.ref (He.ga K "One")) = true := He.keep_ok (x := "One") (T.c.fact 39 rfl)
theorem Tx.g_Some (T : Tx K mg) : mg "Some" = some (.ref (He.ga K "Some")) := T.glo (T.c.fact 40 rfl)
theorem Tx.k_Some (T : Tx K mg) : PySem.W.keepIn K (.ref (He.ga K "Some")) = true := He.keep_ok (x := "Some") (T.c.fact 41 rfl)
theorem Tx.g_Number (T : Tx K mg) : mg "Number" = some (.ref (He.ga K "Number")) := T.glo (T.c.fact 42 rfl)
theorem Tx.k_Number (T : Tx K mg) : PySem.W.keepIn K (.ref (He.ga K "Number")) = true := He.keep_ok (x := "Number") (T.c.fact 43 rfl)
theorem Tx.g_Check (T : Tx K mg) : mg "Check" = some (.ref (He.ga K "Check")) := T.glo (T.c.fact 44 rfl)
theorem Tx.k_Check (T : Tx K mg) : PySem.W.keepIn K (.ref (He.ga K "Check")) = true := He.keep_ok (x := "Check") (T.c.fact 45 rfl)
theorem Tx.g_Section (T : Tx K mg) : mg "Section" = some (.ref (He.ga K "Section")) := T.glo (T.c.fact 46 rfl)
theorem Tx.k_Section (T : Tx K mg) : PySem.W.keepIn K (.ref (He.ga K "Section")) = true := He.keep_ok (x := "Section") (T.c.fact 47 rfl)
theorem Tx.g_Rounds (T : Tx K mg) : mg "Rounds" = some (.ref (He.ga K "Rounds")) := T.glo (T.c.fact 48 rfl)
theorem Tx.k_Rounds (T : Tx K mg) : PySem.W.keepIn K (.ref (He.ga K "Rounds")) = true := He.keep_ok (x := "Rounds") (T.c.fact 49 rfl)
theorem Tx.g_Form (T : Tx K mg) : mg "Form" = some (.ref (He.ga K "Form")) := T.glo (T.c.fact 50 rfl)
theorem Tx.k_Form (T : Tx K mg) : PySem.W.keepIn K (.ref (He.ga K "Form")) = true := He.keep_ok (x := "Form") (T.c.fact 51 rfl)
theorem Tx.g_is_question (T : Tx K mg) : mg "is_question" = some (.ref (He.ga K "is_question")) := T.glo (T.c.fact 52 rfl)
theorem Tx.g_is_named (T : Tx K mg) : mg "is_named" = some (.ref (He.ga K "is_named")) := T.glo (T.c.fact 53 rfl)
theorem Tx.g_lay_out (T : Tx K mg) : mg "lay_out" = some (.ref (He.ga K "lay_out")) := T.glo (T.c.fact 54 rfl)
theorem Tx.g_check_rows (T : Tx K mg) : mg "check_rows" = some (.ref (He.ga K "check_rows")) := T.glo (T.c.fact 55 rfl)
theorem Tx.g_check_row (T : Tx K mg) : mg "check_row" = some (.ref (He.ga K "check_row")) := T.glo (T.c.fact 56 rfl)
theorem Tx.g_check_name (T : Tx K mg) : mg "check_name" = some (.ref (He.ga K "check_name")) := T.glo (T.c.fact 57 rfl)
theorem Tx.g_check_options (T : Tx K mg) : mg "check_options" = some (.ref (He.ga K "check_options")) := T.glo (T.c.fact 58 rfl)
theorem Tx.g_refuse_options (T : Tx K mg) : mg "refuse_options" = some (.ref (He.ga K "refuse_options")) := T.glo (T.c.fact 59 rfl)
theorem Tx.g_check_bounds (T : Tx K mg) : mg "check_bounds" = some (.ref (He.ga K "check_bounds")) := T.glo (T.c.fact 60 rfl)
theorem Tx.g_check_inner_rows (T : Tx K mg) : mg "check_inner_rows" = some (.ref (He.ga K "check_inner_rows")) := T.glo (T.c.fact 61 rfl)
theorem Tx.g_check_count (T : Tx K mg) : mg "check_count" = some (.ref (He.ga K "check_count")) := T.glo (T.c.fact 62 rfl)
theorem Tx.g_check_conditions (T : Tx K mg) : mg "check_conditions" = some (.ref (He.ga K "check_conditions")) := T.glo (T.c.fact 63 rfl)
theorem Tx.g_conditions_of (T : Tx K mg) : mg "conditions_of" = some (.ref (He.ga K "conditions_of")) := T.glo (T.c.fact 64 rfl)
theorem Tx.g_question_ahead (T : Tx K mg) : mg "question_ahead" = some (.ref (He.ga K "question_ahead")) := T.glo (T.c.fact 65 rfl)
theorem Tx.g_suits (T : Tx K mg) : mg "suits" = some (.ref (He.ga K "suits")) := T.glo (T.c.fact 66 rfl)
theorem Tx.g_is_answer (T : Tx K mg) : mg "is_answer" = some (.ref (He.ga K "is_answer")) := T.glo (T.c.fact 67 rfl)
theorem Tx.g_chosen_in_order (T : Tx K mg) : mg "chosen_in_order" = some (.ref (He.ga K "chosen_in_order")) := T.glo (T.c.fact 68 rfl)
theorem Tx.g_is_number (T : Tx K mg) : mg "is_number" = some (.ref (He.ga K "is_number")) := T.glo (T.c.fact 69 rfl)
theorem Tx.g_Edition (T : Tx K mg) : mg "Edition" = some (.ref (He.ga K "Edition")) := T.glo (T.c.fact 70 rfl)
theorem Tx.k_Edition (T : Tx K mg) : PySem.W.keepIn K (.ref (He.ga K "Edition")) = true := He.keep_ok (x := "Edition") (T.c.fact 71 rfl)
theorem Tx.g_refuse_counts (T : Tx K mg) : mg "refuse_counts" = some (.ref (He.ga K "refuse_counts")) := T.glo (T.c.fact 72 rfl)
theorem Tx.g_refuse_calls (T : Tx K mg) : mg "refuse_calls" = some (.ref (He.ga K "refuse_calls")) := T.glo (T.c.fact 73 rfl)
theorem Tx.g_has_question (T : Tx K mg) : mg "has_question" = some (.ref (He.ga K "has_question")) := T.glo (T.c.fact 74 rfl)
theorem Tx.g_led (T : Tx K mg) : mg "led" = some (.ref (He.ga K "led")) := T.glo (T.c.fact 75 rfl)
theorem Tx.g_led_over (T : Tx K mg) : mg "led_over" = some (.ref (He.ga K "led_over")) := T.glo (T.c.fact 76 rfl)
theorem Tx.g_called_anew (T : Tx K mg) : mg "called_anew" = some (.ref (He.ga K "called_anew")) := T.glo (T.c.fact 77 rfl)
theorem Tx.g_belongs (T : Tx K mg) : mg "belongs" = some (.ref (He.ga K "belongs")) := T.glo (T.c.fact 78 rfl)
theorem Tx.g__law_cell_at (T : Tx K mg) : mg "_law_cell_at" = some (.ref (He.ga K "_law_cell_at")) := T.glo (T.c.fact 79 rfl)
theorem Tx.g__law_well (T : Tx K mg) : mg "_law_well" = some (.ref (He.ga K "_law_well")) := T.glo (T.c.fact 80 rfl)
theorem Tx.g__law_draw (T : Tx K mg) : mg "_law_draw" = some (.ref (He.ga K "_law_draw")) := T.glo (T.c.fact 81 rfl)
theorem Tx.g__law_pick (T : Tx K mg) : mg "_law_pick" = some (.ref (He.ga K "_law_pick")) := T.glo (T.c.fact 82 rfl)
theorem Tx.g__law_name (T : Tx K mg) : mg "_law_name" = some (.ref (He.ga K "_law_name")) := T.glo (T.c.fact 83 rfl)
theorem Tx.g__law_names (T : Tx K mg) : mg "_law_names" = some (.ref (He.ga K "_law_names")) := T.glo (T.c.fact 84 rfl)
theorem Tx.g__law_form (T : Tx K mg) : mg "_law_form" = some (.ref (He.ga K "_law_form")) := T.glo (T.c.fact 85 rfl)
theorem Tx.g__law_answers (T : Tx K mg) : mg "_law_answers" = some (.ref (He.ga K "_law_answers")) := T.glo (T.c.fact 86 rfl)
theorem Tx.g__law_put_on (T : Tx K mg) : mg "_law_put_on" = some (.ref (He.ga K "_law_put_on")) := T.glo (T.c.fact 87 rfl)
theorem Tx.g_law (T : Tx K mg) : mg "law" = some (.ref (He.ga K "law")) := T.glo (T.c.fact 88 rfl)
theorem Tx.z_all (T : Tx K mg) : mg "all" = none := T.free (T.c.fact 89 rfl)
theorem Tx.z_bool (T : Tx K mg) : mg "bool" = none := T.free (T.c.fact 90 rfl)
theorem Tx.z_dict (T : Tx K mg) : mg "dict" = none := T.free (T.c.fact 91 rfl)
theorem Tx.z_int (T : Tx K mg) : mg "int" = none := T.free (T.c.fact 92 rfl)
theorem Tx.z_isinstance (T : Tx K mg) : mg "isinstance" = none := T.free (T.c.fact 93 rfl)
theorem Tx.z_len (T : Tx K mg) : mg "len" = none := T.free (T.c.fact 94 rfl)
theorem Tx.z_list (T : Tx K mg) : mg "list" = none := T.free (T.c.fact 95 rfl)
theorem Tx.z_range (T : Tx K mg) : mg "range" = none := T.free (T.c.fact 96 rfl)
theorem Tx.z_set (T : Tx K mg) : mg "set" = none := T.free (T.c.fact 97 rfl)
theorem Tx.z_str (T : Tx K mg) : mg "str" = none := T.free (T.c.fact 98 rfl)
theorem Tx.z_tuple (T : Tx K mg) : mg "tuple" = none := T.free (T.c.fact 99 rfl)
theorem Tx.z_zip (T : Tx K mg) : mg "zip" = none := T.free (T.c.fact 100 rfl)
theorem Tx.cl_Is (T : Tx K mg) : Cls K (He.ga K "Is") := He.cls_ok (x := "Is") (T.c.fact 101 rfl)
theorem Tx.mk_Is (T : Tx K mg) : Mk K (He.ga K "Is") (He.ma K (He.ga K "Is") "__init__") := He.mkr_ok (x := "Is") (T.c.fact 102 rfl)
theorem Tx.n_Is_name (T : Tx K mg) : NoAttr K (He.ga K "Is") "name" := He.noat_ok (x := "Is") (f := "name") (T.c.fact 103 rfl)
theorem Tx.n_Is_option (T : Tx K mg) : NoAttr K (He.ga K "Is") "option" := He.noat_ok (x := "Is") (f := "option") (T.c.fact 104 rfl)
theorem Tx.m_Is_init (T : Tx K mg) : Meth K (He.ga K "Is") "__init__" (He.ma K (He.ga K "Is") "__init__") := He.meth_ok (x := "Is") (m := "__init__") (T.c.fact 105 rfl)
theorem Tx.m_Is_eq (T : Tx K mg) : Meth K (He.ga K "Is") "__eq__" (He.ma K (He.ga K "Is") "__eq__") := He.meth_ok (x := "Is") (m := "__eq__") (T.c.fact 106 rfl)
theorem Tx.cl_Has (T : Tx K mg) : Cls K (He.ga K "Has") := He.cls_ok (x := "Has") (T.c.fact 107 rfl)
theorem Tx.mk_Has (T : Tx K mg) : Mk K (He.ga K "Has") (He.ma K (He.ga K "Has") "__init__") := He.mkr_ok (x := "Has") (T.c.fact 108 rfl)
theorem Tx.n_Has_name (T : Tx K mg) : NoAttr K (He.ga K "Has") "name" := He.noat_ok (x := "Has") (f := "name") (T.c.fact 109 rfl)
theorem Tx.n_Has_option (T : Tx K mg) : NoAttr K (He.ga K "Has") "option" := He.noat_ok (x := "Has") (f := "option") (T.c.fact 110 rfl)
theorem Tx.m_Has_init (T : Tx K mg) : Meth K (He.ga K "Has") "__init__" (He.ma K (He.ga K "Has") "__init__") := He.meth_ok (x := "Has") (m := "__init__") (T.c.fact 111 rfl)
theorem Tx.m_Has_eq (T : Tx K mg) : Meth K (He.ga K "Has") "__eq__" (He.ma K (He.ga K "Has") "__eq__") := He.meth_ok (x := "Has") (m := "__eq__") (T.c.fact 112 rfl)
theorem Tx.cl_Not (T : Tx K mg) : Cls K (He.ga K "Not") := He.cls_ok (x := "Not") (T.c.fact 113 rfl)
theorem Tx.mk_Not (T : Tx K mg) : Mk K (He.ga K "Not") (He.ma K (He.ga K "Not") "__init__") := He.mkr_ok (x := "Not") (T.c.fact 114 rfl)
theorem Tx.n_Not_inner (T : Tx K mg) : NoAttr K (He.ga K "Not") "inner" := He.noat_ok (x := "Not") (f := "inner") (T.c.fact 115 rfl)
theorem Tx.m_Not_init (T : Tx K mg) : Meth K (He.ga K "Not") "__init__" (He.ma K (He.ga K "Not") "__init__") := He.meth_ok (x := "Not") (m := "__init__") (T.c.fact 116 rfl)
theorem Tx.m_Not_eq (T : Tx K mg) : Meth K (He.ga K "Not") "__eq__" (He.ma K (He.ga K "Not") "__eq__") := He.meth_ok (x := "Not") (m := "__eq__") (T.c.fact 117 rfl)
theorem Tx.cl_Both (T : Tx K mg) : Cls K (He.ga K "Both") := He.cls_ok (x := "Both") (T.c.fact 118 rfl)
theorem Tx.mk_Both (T : Tx K mg) : Mk K (He.ga K "Both") (He.ma K (He.ga K "Both") "__init__") := He.mkr_ok (x := "Both") (T.c.fact 119 rfl)
theorem Tx.n_Both_left (T : Tx K mg) : NoAttr K (He.ga K "Both") "left" := He.noat_ok (x := "Both") (f := "left") (T.c.fact 120 rfl)
theorem Tx.n_Both_right (T : Tx K mg) : NoAttr K (He.ga K "Both") "right" := He.noat_ok (x := "Both") (f := "right") (T.c.fact 121 rfl)
theorem Tx.m_Both_init (T : Tx K mg) : Meth K (He.ga K "Both") "__init__" (He.ma K (He.ga K "Both") "__init__") := He.meth_ok (x := "Both") (m := "__init__") (T.c.fact 122 rfl)
theorem Tx.m_Both_eq (T : Tx K mg) : Meth K (He.ga K "Both") "__eq__" (He.ma K (He.ga K "Both") "__eq__") := He.meth_ok (x := "Both") (m := "__eq__") (T.c.fact 123 rfl)
theorem Tx.cl_Either (T : Tx K mg) : Cls K (He.ga K "Either") := He.cls_ok (x := "Either") (T.c.fact 124 rfl)
theorem Tx.mk_Either (T : Tx K mg) : Mk K (He.ga K "Either") (He.ma K (He.ga K "Either") "__init__") := He.mkr_ok (x := "Either") (T.c.fact 125 rfl)
theorem Tx.n_Either_left (T : Tx K mg) : NoAttr K (He.ga K "Either") "left" := He.noat_ok (x := "Either") (f := "left") (T.c.fact 126 rfl)
theorem Tx.n_Either_right (T : Tx K mg) : NoAttr K (He.ga K "Either") "right" := He.noat_ok (x := "Either") (f := "right") (T.c.fact 127 rfl)
theorem Tx.m_Either_init (T : Tx K mg) : Meth K (He.ga K "Either") "__init__" (He.ma K (He.ga K "Either") "__init__") := He.meth_ok (x := "Either") (m := "__init__") (T.c.fact 128 rfl)
theorem Tx.m_Either_eq (T : Tx K mg) : Meth K (He.ga K "Either") "__eq__" (He.ma K (He.ga K "Either") "__eq__") := He.meth_ok (x := "Either") (m := "__eq__") (T.c.fact 129 rfl)
theorem Tx.n_BadCount_what (T : Tx K mg) : NoAttr K (He.ga K "BadCount") "what" := He.noat_ok (x := "BadCount") (f := "what") (T.c.fact 130 rfl)
theorem Tx.n_BadCount_count (T : Tx K mg) : NoAttr K (He.ga K "BadCount") "count" := He.noat_ok (x := "BadCount") (f := "count") (T.c.fact 131 rfl)
theorem Tx.m_BadCount_init (T : Tx K mg) : Meth K (He.ga K "BadCount") "__init__" (He.ma K (He.ga K "BadCount") "__init__") := He.meth_ok (x := "BadCount") (m := "__init__") (T.c.fact 132 rfl)
theorem Tx.n_NoName_name (T : Tx K mg) : NoAttr K (He.ga K "NoName") "name" := He.noat_ok (x := "NoName") (f := "name") (T.c.fact 133 rfl)
theorem Tx.m_NoName_init (T : Tx K mg) : Meth K (He.ga K "NoName") "__init__" (He.ma K (He.ga K "NoName") "__init__") := He.meth_ok (x := "NoName") (m := "__init__") (T.c.fact 134 rfl)
theorem Tx.n_Twice_name (T : Tx K mg) : NoAttr K (He.ga K "Twice") "name" := He.noat_ok (x := "Twice") (f := "name") (T.c.fact 135 rfl)
theorem Tx.m_Twice_init (T : Tx K mg) : Meth K (He.ga K "Twice") "__init__" (He.ma K (He.ga K "Twice") "__init__") := He.meth_ok (x := "Twice") (m := "__init__") (T.c.fact 136 rfl)
theorem Tx.n_NoQuestion_name (T : Tx K mg) : NoAttr K (He.ga K "NoQuestion") "name" := He.noat_ok (x := "NoQuestion") (f := "name") (T.c.fact 137 rfl)
theorem Tx.m_NoQuestion_init (T : Tx K mg) : Meth K (He.ga K "NoQuestion") "__init__" (He.ma K (He.ga K "NoQuestion") "__init__") := He.meth_ok (x := "NoQuestion") (m := "__init__") (T.c.fact 138 rfl)
theorem Tx.n_NoFit_name (T : Tx K mg) : NoAttr K (He.ga K "NoFit") "name" := He.noat_ok (x := "NoFit") (f := "name") (T.c.fact 139 rfl)
theorem Tx.m_NoFit_init (T : Tx K mg) : Meth K (He.ga K "NoFit") "__init__" (He.ma K (He.ga K "NoFit") "__init__") := He.meth_ok (x := "NoFit") (m := "__init__") (T.c.fact 140 rfl)
theorem Tx.cl_One (T : Tx K mg) : Cls K (He.ga K "One") := He.cls_ok (x := "One") (T.c.fact 141 rfl)
theorem Tx.mk_One (T : Tx K mg) : Mk K (He.ga K "One") (He.ma K (He.ga K "One") "__init__") := He.mkr_ok (x := "One") (T.c.fact 142 rfl)
theorem Tx.n_One_name (T : Tx K mg) : NoAttr K (He.ga K "One") "name" := He.noat_ok (x := "One") (f := "name") (T.c.fact 143 rfl)
theorem Tx.n_One_options (T : Tx K mg) : NoAttr K (He.ga K "One") "options" := He.noat_ok (x := "One") (f := "options") (T.c.fact 144 rfl)
theorem Tx.n_One_where (T : Tx K mg) : NoAttr K (He.ga K "One") "where" := He.noat_ok (x := "One") (f := "where") (T.c.fact 145 rfl)
theorem Tx.m_One_init (T : Tx K mg) : Meth K (He.ga K "One") "__init__" (He.ma K (He.ga K "One") "__init__") := He.meth_ok (x := "One") (m := "__init__") (T.c.fact 146 rfl)
theorem Tx.m_One_eq (T : Tx K mg) : Meth K (He.ga K "One") "__eq__" (He.ma K (He.ga K "One") "__eq__") := He.meth_ok (x := "One") (m := "__eq__") (T.c.fact 147 rfl)
theorem Tx.cl_Some (T : Tx K mg) : Cls K (He.ga K "Some") := He.cls_ok (x := "Some") (T.c.fact 148 rfl)
theorem Tx.mk_Some (T : Tx K mg) : Mk K (He.ga K "Some") (He.ma K (He.ga K "Some") "__init__") := He.mkr_ok (x := "Some") (T.c.fact 149 rfl)
theorem Tx.n_Some_name (T : Tx K mg) : NoAttr K (He.ga K "Some") "name" := He.noat_ok (x := "Some") (f := "name") (T.c.fact 150 rfl)
theorem Tx.n_Some_options (T : Tx K mg) : NoAttr K (He.ga K "Some") "options" := He.noat_ok (x := "Some") (f := "options") (T.c.fact 151 rfl)
theorem Tx.n_Some_where (T : Tx K mg) : NoAttr K (He.ga K "Some") "where" := He.noat_ok (x := "Some") (f := "where") (T.c.fact 152 rfl)
theorem Tx.m_Some_init (T : Tx K mg) : Meth K (He.ga K "Some") "__init__" (He.ma K (He.ga K "Some") "__init__") := He.meth_ok (x := "Some") (m := "__init__") (T.c.fact 153 rfl)
theorem Tx.m_Some_eq (T : Tx K mg) : Meth K (He.ga K "Some") "__eq__" (He.ma K (He.ga K "Some") "__eq__") := He.meth_ok (x := "Some") (m := "__eq__") (T.c.fact 154 rfl)
theorem Tx.cl_Number (T : Tx K mg) : Cls K (He.ga K "Number") := He.cls_ok (x := "Number") (T.c.fact 155 rfl)
theorem Tx.mk_Number (T : Tx K mg) : Mk K (He.ga K "Number") (He.ma K (He.ga K "Number") "__init__") := He.mkr_ok (x := "Number") (T.c.fact 156 rfl)
theorem Tx.n_Number_name (T : Tx K mg) : NoAttr K (He.ga K "Number") "name" := He.noat_ok (x := "Number") (f := "name") (T.c.fact 157 rfl)
theorem Tx.n_Number_low (T : Tx K mg) : NoAttr K (He.ga K "Number") "low" := He.noat_ok (x := "Number") (f := "low") (T.c.fact 158 rfl)
theorem Tx.n_Number_high (T : Tx K mg) : NoAttr K (He.ga K "Number") "high" := He.noat_ok (x := "Number") (f := "high") (T.c.fact 159 rfl)
theorem Tx.n_Number_where (T : Tx K mg) : NoAttr K (He.ga K "Number") "where" := He.noat_ok (x := "Number") (f := "where") (T.c.fact 160 rfl)
theorem Tx.m_Number_init (T : Tx K mg) : Meth K (He.ga K "Number") "__init__" (He.ma K (He.ga K "Number") "__init__") := He.meth_ok (x := "Number") (m := "__init__") (T.c.fact 161 rfl)
theorem Tx.m_Number_eq (T : Tx K mg) : Meth K (He.ga K "Number") "__eq__" (He.ma K (He.ga K "Number") "__eq__") := He.meth_ok (x := "Number") (m := "__eq__") (T.c.fact 162 rfl)
theorem Tx.cl_Check (T : Tx K mg) : Cls K (He.ga K "Check") := He.cls_ok (x := "Check") (T.c.fact 163 rfl)
theorem Tx.mk_Check (T : Tx K mg) : Mk K (He.ga K "Check") (He.ma K (He.ga K "Check") "__init__") := He.mkr_ok (x := "Check") (T.c.fact 164 rfl)
theorem Tx.n_Check_name (T : Tx K mg) : NoAttr K (He.ga K "Check") "name" := He.noat_ok (x := "Check") (f := "name") (T.c.fact 165 rfl)
theorem Tx.n_Check_must (T : Tx K mg) : NoAttr K (He.ga K "Check") "must" := He.noat_ok (x := "Check") (f := "must") (T.c.fact 166 rfl)
theorem Tx.n_Check_where (T : Tx K mg) : NoAttr K (He.ga K "Check") "where" := He.noat_ok (x := "Check") (f := "where") (T.c.fact 167 rfl)
theorem Tx.m_Check_init (T : Tx K mg) : Meth K (He.ga K "Check") "__init__" (He.ma K (He.ga K "Check") "__init__") := He.meth_ok (x := "Check") (m := "__init__") (T.c.fact 168 rfl)
theorem Tx.m_Check_eq (T : Tx K mg) : Meth K (He.ga K "Check") "__eq__" (He.ma K (He.ga K "Check") "__eq__") := He.meth_ok (x := "Check") (m := "__eq__") (T.c.fact 169 rfl)
theorem Tx.cl_Section (T : Tx K mg) : Cls K (He.ga K "Section") := He.cls_ok (x := "Section") (T.c.fact 170 rfl)
theorem Tx.mk_Section (T : Tx K mg) : Mk K (He.ga K "Section") (He.ma K (He.ga K "Section") "__init__") := He.mkr_ok (x := "Section") (T.c.fact 171 rfl)
theorem Tx.n_Section_rows (T : Tx K mg) : NoAttr K (He.ga K "Section") "rows" := He.noat_ok (x := "Section") (f := "rows") (T.c.fact 172 rfl)
theorem Tx.n_Section_where (T : Tx K mg) : NoAttr K (He.ga K "Section") "where" := He.noat_ok (x := "Section") (f := "where") (T.c.fact 173 rfl)
theorem Tx.m_Section_init (T : Tx K mg) : Meth K (He.ga K "Section") "__init__" (He.ma K (He.ga K "Section") "__init__") := He.meth_ok (x := "Section") (m := "__init__") (T.c.fact 174 rfl)
theorem Tx.m_Section_eq (T : Tx K mg) : Meth K (He.ga K "Section") "__eq__" (He.ma K (He.ga K "Section") "__eq__") := He.meth_ok (x := "Section") (m := "__eq__") (T.c.fact 175 rfl)
theorem Tx.cl_Rounds (T : Tx K mg) : Cls K (He.ga K "Rounds") := He.cls_ok (x := "Rounds") (T.c.fact 176 rfl)
theorem Tx.mk_Rounds (T : Tx K mg) : Mk K (He.ga K "Rounds") (He.ma K (He.ga K "Rounds") "__init__") := He.mkr_ok (x := "Rounds") (T.c.fact 177 rfl)
theorem Tx.n_Rounds_count (T : Tx K mg) : NoAttr K (He.ga K "Rounds") "count" := He.noat_ok (x := "Rounds") (f := "count") (T.c.fact 178 rfl)
theorem Tx.n_Rounds_rows (T : Tx K mg) : NoAttr K (He.ga K "Rounds") "rows" := He.noat_ok (x := "Rounds") (f := "rows") (T.c.fact 179 rfl)
theorem Tx.n_Rounds_where (T : Tx K mg) : NoAttr K (He.ga K "Rounds") "where" := He.noat_ok (x := "Rounds") (f := "where") (T.c.fact 180 rfl)
theorem Tx.m_Rounds_init (T : Tx K mg) : Meth K (He.ga K "Rounds") "__init__" (He.ma K (He.ga K "Rounds") "__init__") := He.meth_ok (x := "Rounds") (m := "__init__") (T.c.fact 181 rfl)
theorem Tx.m_Rounds_eq (T : Tx K mg) : Meth K (He.ga K "Rounds") "__eq__" (He.ma K (He.ga K "Rounds") "__eq__") := He.meth_ok (x := "Rounds") (m := "__eq__") (T.c.fact 182 rfl)
theorem Tx.cl_Form (T : Tx K mg) : Cls K (He.ga K "Form") := He.cls_ok (x := "Form") (T.c.fact 183 rfl)
theorem Tx.mk_Form (T : Tx K mg) : Mk K (He.ga K "Form") (He.ma K (He.ga K "Form") "__init__") := He.mkr_ok (x := "Form") (T.c.fact 184 rfl)
theorem Tx.n_Form_rows (T : Tx K mg) : NoAttr K (He.ga K "Form") "rows" := He.noat_ok (x := "Form") (f := "rows") (T.c.fact 185 rfl)
theorem Tx.n_Form_questions (T : Tx K mg) : NoAttr K (He.ga K "Form") "questions" := He.noat_ok (x := "Form") (f := "questions") (T.c.fact 186 rfl)
theorem Tx.n_Form_repeated (T : Tx K mg) : NoAttr K (He.ga K "Form") "repeated" := He.noat_ok (x := "Form") (f := "repeated") (T.c.fact 187 rfl)
theorem Tx.m_Form_init (T : Tx K mg) : Meth K (He.ga K "Form") "__init__" (He.ma K (He.ga K "Form") "__init__") := He.meth_ok (x := "Form") (m := "__init__") (T.c.fact 188 rfl)
theorem Tx.m_Form_eq (T : Tx K mg) : Meth K (He.ga K "Form") "__eq__" (He.ma K (He.ga K "Form") "__eq__") := He.meth_ok (x := "Form") (m := "__eq__") (T.c.fact 189 rfl)
theorem Tx.m_Form_outline (T : Tx K mg) : Meth K (He.ga K "Form") "outline" (He.ma K (He.ga K "Form") "outline") := He.meth_ok (x := "Form") (m := "outline") (T.c.fact 190 rfl)
theorem Tx.m_Form_names (T : Tx K mg) : Meth K (He.ga K "Form") "names" (He.ma K (He.ga K "Form") "names") := He.meth_ok (x := "Form") (m := "names") (T.c.fact 191 rfl)
theorem Tx.m_Form_question (T : Tx K mg) : Meth K (He.ga K "Form") "question" (He.ma K (He.ga K "Form") "question") := He.meth_ok (x := "Form") (m := "question") (T.c.fact 192 rfl)
theorem Tx.m_Form_in_rounds (T : Tx K mg) : Meth K (He.ga K "Form") "in_rounds" (He.ma K (He.ga K "Form") "in_rounds") := He.meth_ok (x := "Form") (m := "in_rounds") (T.c.fact 193 rfl)
theorem Tx.cl_Edition (T : Tx K mg) : Cls K (He.ga K "Edition") := He.cls_ok (x := "Edition") (T.c.fact 194 rfl)
theorem Tx.mk_Edition (T : Tx K mg) : Mk K (He.ga K "Edition") (He.ma K (He.ga K "Edition") "__init__") := He.mkr_ok (x := "Edition") (T.c.fact 195 rfl)
theorem Tx.n_Edition_number (T : Tx K mg) : NoAttr K (He.ga K "Edition") "number" := He.noat_ok (x := "Edition") (f := "number") (T.c.fact 196 rfl)
theorem Tx.n_Edition_form (T : Tx K mg) : NoAttr K (He.ga K "Edition") "form" := He.noat_ok (x := "Edition") (f := "form") (T.c.fact 197 rfl)
theorem Tx.n_Edition_calls (T : Tx K mg) : NoAttr K (He.ga K "Edition") "calls" := He.noat_ok (x := "Edition") (f := "calls") (T.c.fact 198 rfl)
theorem Tx.m_Edition_init (T : Tx K mg) : Meth K (He.ga K "Edition") "__init__" (He.ma K (He.ga K "Edition") "__init__") := He.meth_ok (x := "Edition") (m := "__init__") (T.c.fact 199 rfl)
theorem Tx.m_Edition_eq (T : Tx K mg) : Meth K (He.ga K "Edition") "__eq__" (He.ma K (He.ga K "Edition") "__eq__") := He.meth_ok (x := "Edition") (m := "__eq__") (T.c.fact 200 rfl)
theorem Tx.f__wall (T : Tx K mg) : ∃ fd, FunD K "_wall" "_wall" (defArgs s__wall) (defBody s__wall) (defScope s__wall) [] [] (He.ga K "_wall") fd := T.c.def_ 0 (d := D.d__wall) rfl
theorem Tx.f_Is_init (T : Tx K mg) : ∃ fd, FunD K "__init__" "Is.__init__" (defArgs s_Is_init) (defBody s_Is_init) (defScope s_Is_init) [] [] (He.ma K (He.ga K "Is") "__init__") fd := T.c.def_ 1 (d := D.d_Is_init) rfl
theorem Tx.f_Is_eq (T : Tx K mg) : ∃ fd, FunD K "__eq__" "Is.__eq__" (defArgs s_Is_eq) (defBody s_Is_eq) (defScope s_Is_eq) [] [] (He.ma K (He.ga K "Is") "__eq__") fd := T.c.def_ 2 (d := D.d_Is_eq) rfl
theorem Tx.f_Has_init (T : Tx K mg) : ∃ fd, FunD K "__init__" "Has.__init__" (defArgs s_Has_init) (defBody s_Has_init) (defScope s_Has_init) [] [] (He.ma K (He.ga K "Has") "__init__") fd := T.c.def_ 3 (d := D.d_Has_init) rfl
theorem Tx.f_Has_eq (T : Tx K mg) : ∃ fd, FunD K "__eq__" "Has.__eq__" (defArgs s_Has_eq) (defBody s_Has_eq) (defScope s_Has_eq) [] [] (He.ma K (He.ga K "Has") "__eq__") fd := T.c.def_ 4 (d := D.d_Has_eq) rfl
theorem Tx.f_Not_init (T : Tx K mg) : ∃ fd, FunD K "__init__" "Not.__init__" (defArgs s_Not_init) (defBody s_Not_init) (defScope s_Not_init) [] [] (He.ma K (He.ga K "Not") "__init__") fd := T.c.def_ 5 (d := D.d_Not_init) rfl
theorem Tx.f_Not_eq (T : Tx K mg) : ∃ fd, FunD K "__eq__" "Not.__eq__" (defArgs s_Not_eq) (defBody s_Not_eq) (defScope s_Not_eq) [] [] (He.ma K (He.ga K "Not") "__eq__") fd := T.c.def_ 6 (d := D.d_Not_eq) rfl
theorem Tx.f_Both_init (T : Tx K mg) : ∃ fd, FunD K "__init__" "Both.__init__" (defArgs s_Both_init) (defBody s_Both_init) (defScope s_Both_init) [] [] (He.ma K (He.ga K "Both") "__init__") fd := T.c.def_ 7 (d := D.d_Both_init) rfl
theorem Tx.f_Both_eq (T : Tx K mg) : ∃ fd, FunD K "__eq__" "Both.__eq__" (defArgs s_Both_eq) (defBody s_Both_eq) (defScope s_Both_eq) [] [] (He.ma K (He.ga K "Both") "__eq__") fd := T.c.def_ 8 (d := D.d_Both_eq) rfl
theorem Tx.f_Either_init (T : Tx K mg) : ∃ fd, FunD K "__init__" "Either.__init__" (defArgs s_Either_init) (defBody s_Either_init) (defScope s_Either_init) [] [] (He.ma K (He.ga K "Either") "__init__") fd := T.c.def_ 9 (d := D.d_Either_init) rfl
theorem Tx.f_Either_eq (T : Tx K mg) : ∃ fd, FunD K "__eq__" "Either.__eq__" (defArgs s_Either_eq) (defBody s_Either_eq) (defScope s_Either_eq) [] [] (He.ma K (He.ga K "Either") "__eq__") fd := T.c.def_ 10 (d := D.d_Either_eq) rfl
theorem Tx.f_simple_ones (T : Tx K mg) : ∃ fd, FunD K "simple_ones" "simple_ones" (defArgs s_simple_ones) (defBody s_simple_ones) (defScope s_simple_ones) [] [] (He.ga K "simple_ones") fd := T.c.def_ 11 (d := D.d_simple_ones) rfl
theorem Tx.f_HallError_told (T : Tx K mg) : ∃ fd, FunD K "told" "HallError.told" (defArgs s_HallError_told) (defBody s_HallError_told) (defScope s_HallError_told) [] [] (He.ma K (He.ga K "HallError") "told") fd := T.c.def_ 12 (d := D.d_HallError_told) rfl
theorem Tx.f_BadCount_init (T : Tx K mg) : ∃ fd, FunD K "__init__" "BadCount.__init__" (defArgs s_BadCount_init) (defBody s_BadCount_init) (defScope s_BadCount_init) [] [] (He.ma K (He.ga K "BadCount") "__init__") fd := T.c.def_ 13 (d := D.d_BadCount_init) rfl
theorem Tx.f_BadCount_told (T : Tx K mg) : ∃ fd, FunD K "told" "BadCount.told" (defArgs s_BadCount_told) (defBody s_BadCount_told) (defScope s_BadCount_told) [] [] (He.ma K (He.ga K "BadCount") "told") fd := T.c.def_ 14 (d := D.d_BadCount_told) rfl
theorem Tx.f_NoName_init (T : Tx K mg) : ∃ fd, FunD K "__init__" "NoName.__init__" (defArgs s_NoName_init) (defBody s_NoName_init) (defScope s_NoName_init) [] [] (He.ma K (He.ga K "NoName") "__init__") fd := T.c.def_ 15 (d := D.d_NoName_init) rfl
theorem Tx.f_NoName_told (T : Tx K mg) : ∃ fd, FunD K "told" "NoName.told" (defArgs s_NoName_told) (defBody s_NoName_told) (defScope s_NoName_told) [] [] (He.ma K (He.ga K "NoName") "told") fd := T.c.def_ 16 (d := D.d_NoName_told) rfl
theorem Tx.f_Twice_init (T : Tx K mg) : ∃ fd, FunD K "__init__" "Twice.__init__" (defArgs s_Twice_init) (defBody s_Twice_init) (defScope s_Twice_init) [] [] (He.ma K (He.ga K "Twice") "__init__") fd := T.c.def_ 17 (d := D.d_Twice_init) rfl
theorem Tx.f_Twice_told (T : Tx K mg) : ∃ fd, FunD K "told" "Twice.told" (defArgs s_Twice_told) (defBody s_Twice_told) (defScope s_Twice_told) [] [] (He.ma K (He.ga K "Twice") "told") fd := T.c.def_ 18 (d := D.d_Twice_told) rfl
theorem Tx.f_NoQuestion_init (T : Tx K mg) : ∃ fd, FunD K "__init__" "NoQuestion.__init__" (defArgs s_NoQuestion_init) (defBody s_NoQuestion_init) (defScope s_NoQuestion_init) [] [] (He.ma K (He.ga K "NoQuestion") "__init__") fd := T.c.def_ 19 (d := D.d_NoQuestion_init) rfl
theorem Tx.f_NoQuestion_told (T : Tx K mg) : ∃ fd, FunD K "told" "NoQuestion.told" (defArgs s_NoQuestion_told) (defBody s_NoQuestion_told) (defScope s_NoQuestion_told) [] [] (He.ma K (He.ga K "NoQuestion") "told") fd := T.c.def_ 20 (d := D.d_NoQuestion_told) rfl
theorem Tx.f_NoFit_init (T : Tx K mg) : ∃ fd, FunD K "__init__" "NoFit.__init__" (defArgs s_NoFit_init) (defBody s_NoFit_init) (defScope s_NoFit_init) [] [] (He.ma K (He.ga K "NoFit") "__init__") fd := T.c.def_ 21 (d := D.d_NoFit_init) rfl
theorem Tx.f_NoFit_told (T : Tx K mg) : ∃ fd, FunD K "told" "NoFit.told" (defArgs s_NoFit_told) (defBody s_NoFit_told) (defScope s_NoFit_told) [] [] (He.ma K (He.ga K "NoFit") "told") fd := T.c.def_ 22 (d := D.d_NoFit_told) rfl
theorem Tx.f_is_name (T : Tx K mg) : ∃ fd, FunD K "is_name" "is_name" (defArgs s_is_name) (defBody s_is_name) (defScope s_is_name) [] [] (He.ga K "is_name") fd := T.c.def_ 23 (d := D.d_is_name) rfl
theorem Tx.f_refuse_no_name (T : Tx K mg) : ∃ fd, FunD K "refuse_no_name" "refuse_no_name" (defArgs s_refuse_no_name) (defBody s_refuse_no_name) (defScope s_refuse_no_name) [] [] (He.ga K "refuse_no_name") fd := T.c.def_ 24 (d := D.d_refuse_no_name) rfl
theorem Tx.f_refuse_twice (T : Tx K mg) : ∃ fd, FunD K "refuse_twice" "refuse_twice" (defArgs s_refuse_twice) (defBody s_refuse_twice) (defScope s_refuse_twice) [] [] (He.ga K "refuse_twice") fd := T.c.def_ 25 (d := D.d_refuse_twice) rfl
theorem Tx.f_One_init (T : Tx K mg) : ∃ fd, FunD K "__init__" "One.__init__" (defArgs s_One_init) (defBody s_One_init) (defScope s_One_init) [] [("where", V.non)] (He.ma K (He.ga K "One") "__init__") fd := T.c.def_ 26 (d := D.d_One_init) rfl
theorem Tx.f_One_eq (T : Tx K mg) : ∃ fd, FunD K "__eq__" "One.__eq__" (defArgs s_One_eq) (defBody s_One_eq) (defScope s_One_eq) [] [] (He.ma K (He.ga K "One") "__eq__") fd := T.c.def_ 27 (d := D.d_One_eq) rfl
theorem Tx.f_Some_init (T : Tx K mg) : ∃ fd, FunD K "__init__" "Some.__init__" (defArgs s_Some_init) (defBody s_Some_init) (defScope s_Some_init) [] [("where", V.non)] (He.ma K (He.ga K "Some") "__init__") fd := T.c.def_ 28 (d := D.d_Some_init) rfl
theorem Tx.f_Some_eq (T : Tx K mg) : ∃ fd, FunD K "__eq__" "Some.__eq__" (defArgs s_Some_eq) (defBody s_Some_eq) (defScope s_Some_eq) [] [] (He.ma K (He.ga K "Some") "__eq__") fd := T.c.def_ 29 (d := D.d_Some_eq) rfl
theorem Tx.f_Number_init (T : Tx K mg) : ∃ fd, FunD K "__init__" "Number.__init__" (defArgs s_Number_init) (defBody s_Number_init) (defScope s_Number_init) [] [("where", V.non)] (He.ma K (He.ga K "Number") "__init__") fd := T.c.def_ 30 (d := D.d_Number_init) rfl
theorem Tx.f_Number_eq (T : Tx K mg) : ∃ fd, FunD K "__eq__" "Number.__eq__" (defArgs s_Number_eq) (defBody s_Number_eq) (defScope s_Number_eq) [] [] (He.ma K (He.ga K "Number") "__eq__") fd := T.c.def_ 31 (d := D.d_Number_eq) rfl
theorem Tx.f_Check_init (T : Tx K mg) : ∃ fd, FunD K "__init__" "Check.__init__" (defArgs s_Check_init) (defBody s_Check_init) (defScope s_Check_init) [] [("where", V.non)] (He.ma K (He.ga K "Check") "__init__") fd := T.c.def_ 32 (d := D.d_Check_init) rfl
theorem Tx.f_Check_eq (T : Tx K mg) : ∃ fd, FunD K "__eq__" "Check.__eq__" (defArgs s_Check_eq) (defBody s_Check_eq) (defScope s_Check_eq) [] [] (He.ma K (He.ga K "Check") "__eq__") fd := T.c.def_ 33 (d := D.d_Check_eq) rfl
theorem Tx.f_Section_init (T : Tx K mg) : ∃ fd, FunD K "__init__" "Section.__init__" (defArgs s_Section_init) (defBody s_Section_init) (defScope s_Section_init) [] [("where", V.non)] (He.ma K (He.ga K "Section") "__init__") fd := T.c.def_ 34 (d := D.d_Section_init) rfl
theorem Tx.f_Section_eq (T : Tx K mg) : ∃ fd, FunD K "__eq__" "Section.__eq__" (defArgs s_Section_eq) (defBody s_Section_eq) (defScope s_Section_eq) [] [] (He.ma K (He.ga K "Section") "__eq__") fd := T.c.def_ 35 (d := D.d_Section_eq) rfl
theorem Tx.f_Rounds_init (T : Tx K mg) : ∃ fd, FunD K "__init__" "Rounds.__init__" (defArgs s_Rounds_init) (defBody s_Rounds_init) (defScope s_Rounds_init) [] [("where", V.non)] (He.ma K (He.ga K "Rounds") "__init__") fd := T.c.def_ 36 (d := D.d_Rounds_init) rfl
theorem Tx.f_Rounds_eq (T : Tx K mg) : ∃ fd, FunD K "__eq__" "Rounds.__eq__" (defArgs s_Rounds_eq) (defBody s_Rounds_eq) (defScope s_Rounds_eq) [] [] (He.ma K (He.ga K "Rounds") "__eq__") fd := T.c.def_ 37 (d := D.d_Rounds_eq) rfl
theorem Tx.f_Form_init (T : Tx K mg) : ∃ fd, FunD K "__init__" "Form.__init__" (defArgs s_Form_init) (defBody s_Form_init) (defScope s_Form_init) [] [] (He.ma K (He.ga K "Form") "__init__") fd := T.c.def_ 38 (d := D.d_Form_init) rfl
theorem Tx.f_Form_eq (T : Tx K mg) : ∃ fd, FunD K "__eq__" "Form.__eq__" (defArgs s_Form_eq) (defBody s_Form_eq) (defScope s_Form_eq) [] [] (He.ma K (He.ga K "Form") "__eq__") fd := T.c.def_ 39 (d := D.d_Form_eq) rfl
theorem Tx.f_Form_outline (T : Tx K mg) : ∃ fd, FunD K "outline" "Form.outline" (defArgs s_Form_outline) (defBody s_Form_outline) (defScope s_Form_outline) [] [] (He.ma K (He.ga K "Form") "outline") fd := T.c.def_ 40 (d := D.d_Form_outline) rfl
theorem Tx.f_Form_names (T : Tx K mg) : ∃ fd, FunD K "names" "Form.names" (defArgs s_Form_names) (defBody s_Form_names) (defScope s_Form_names) [] [] (He.ma K (He.ga K "Form") "names") fd := T.c.def_ 41 (d := D.d_Form_names) rfl
theorem Tx.f_Form_question (T : Tx K mg) : ∃ fd, FunD K "question" "Form.question" (defArgs s_Form_question) (defBody s_Form_question) (defScope s_Form_question) [] [] (He.ma K (He.ga K "Form") "question") fd := T.c.def_ 42 (d := D.d_Form_question) rfl
theorem Tx.f_Form_in_rounds (T : Tx K mg) : ∃ fd, FunD K "in_rounds" "Form.in_rounds" (defArgs s_Form_in_rounds) (defBody s_Form_in_rounds) (defScope s_Form_in_rounds) [] [] (He.ma K (He.ga K "Form") "in_rounds") fd := T.c.def_ 43 (d := D.d_Form_in_rounds) rfl
theorem Tx.f_is_question (T : Tx K mg) : ∃ fd, FunD K "is_question" "is_question" (defArgs s_is_question) (defBody s_is_question) (defScope s_is_question) [] [] (He.ga K "is_question") fd := T.c.def_ 44 (d := D.d_is_question) rfl
theorem Tx.f_is_named (T : Tx K mg) : ∃ fd, FunD K "is_named" "is_named" (defArgs s_is_named) (defBody s_is_named) (defScope s_is_named) [] [] (He.ga K "is_named") fd := T.c.def_ 45 (d := D.d_is_named) rfl
theorem Tx.f_lay_out (T : Tx K mg) : ∃ fd, FunD K "lay_out" "lay_out" (defArgs s_lay_out) (defBody s_lay_out) (defScope s_lay_out) [] [] (He.ga K "lay_out") fd := T.c.def_ 46 (d := D.d_lay_out) rfl
theorem Tx.f_check_rows (T : Tx K mg) : ∃ fd, FunD K "check_rows" "check_rows" (defArgs s_check_rows) (defBody s_check_rows) (defScope s_check_rows) [] [] (He.ga K "check_rows") fd := T.c.def_ 47 (d := D.d_check_rows) rfl
theorem Tx.f_check_row (T : Tx K mg) : ∃ fd, FunD K "check_row" "check_row" (defArgs s_check_row) (defBody s_check_row) (defScope s_check_row) [] [] (He.ga K "check_row") fd := T.c.def_ 48 (d := D.d_check_row) rfl
theorem Tx.f_check_name (T : Tx K mg) : ∃ fd, FunD K "check_name" "check_name" (defArgs s_check_name) (defBody s_check_name) (defScope s_check_name) [] [] (He.ga K "check_name") fd := T.c.def_ 49 (d := D.d_check_name) rfl
theorem Tx.f_check_options (T : Tx K mg) : ∃ fd, FunD K "check_options" "check_options" (defArgs s_check_options) (defBody s_check_options) (defScope s_check_options) [] [] (He.ga K "check_options") fd := T.c.def_ 50 (d := D.d_check_options) rfl
theorem Tx.f_refuse_options (T : Tx K mg) : ∃ fd, FunD K "refuse_options" "refuse_options" (defArgs s_refuse_options) (defBody s_refuse_options) (defScope s_refuse_options) [] [] (He.ga K "refuse_options") fd := T.c.def_ 51 (d := D.d_refuse_options) rfl
theorem Tx.f_check_bounds (T : Tx K mg) : ∃ fd, FunD K "check_bounds" "check_bounds" (defArgs s_check_bounds) (defBody s_check_bounds) (defScope s_check_bounds) [] [] (He.ga K "check_bounds") fd := T.c.def_ 52 (d := D.d_check_bounds) rfl
theorem Tx.f_check_inner_rows (T : Tx K mg) : ∃ fd, FunD K "check_inner_rows" "check_inner_rows" (defArgs s_check_inner_rows) (defBody s_check_inner_rows) (defScope s_check_inner_rows) [] [] (He.ga K "check_inner_rows") fd := T.c.def_ 53 (d := D.d_check_inner_rows) rfl
theorem Tx.f_check_count (T : Tx K mg) : ∃ fd, FunD K "check_count" "check_count" (defArgs s_check_count) (defBody s_check_count) (defScope s_check_count) [] [] (He.ga K "check_count") fd := T.c.def_ 54 (d := D.d_check_count) rfl
theorem Tx.f_check_conditions (T : Tx K mg) : ∃ fd, FunD K "check_conditions" "check_conditions" (defArgs s_check_conditions) (defBody s_check_conditions) (defScope s_check_conditions) [] [] (He.ga K "check_conditions") fd := T.c.def_ 55 (d := D.d_check_conditions) rfl
theorem Tx.f_conditions_of (T : Tx K mg) : ∃ fd, FunD K "conditions_of" "conditions_of" (defArgs s_conditions_of) (defBody s_conditions_of) (defScope s_conditions_of) [] [] (He.ga K "conditions_of") fd := T.c.def_ 56 (d := D.d_conditions_of) rfl
theorem Tx.f_question_ahead (T : Tx K mg) : ∃ fd, FunD K "question_ahead" "question_ahead" (defArgs s_question_ahead) (defBody s_question_ahead) (defScope s_question_ahead) [] [] (He.ga K "question_ahead") fd := T.c.def_ 57 (d := D.d_question_ahead) rfl
theorem Tx.f_suits (T : Tx K mg) : ∃ fd, FunD K "suits" "suits" (defArgs s_suits) (defBody s_suits) (defScope s_suits) [] [] (He.ga K "suits") fd := T.c.def_ 58 (d := D.d_suits) rfl
theorem Tx.f_is_answer (T : Tx K mg) : ∃ fd, FunD K "is_answer" "is_answer" (defArgs s_is_answer) (defBody s_is_answer) (defScope s_is_answer) [] [] (He.ga K "is_answer") fd := T.c.def_ 59 (d := D.d_is_answer) rfl
theorem Tx.f_chosen_in_order (T : Tx K mg) : ∃ fd, FunD K "chosen_in_order" "chosen_in_order" (defArgs s_chosen_in_order) (defBody s_chosen_in_order) (defScope s_chosen_in_order) [] [] (He.ga K "chosen_in_order") fd := T.c.def_ 60 (d := D.d_chosen_in_order) rfl
theorem Tx.f_is_number (T : Tx K mg) : ∃ fd, FunD K "is_number" "is_number" (defArgs s_is_number) (defBody s_is_number) (defScope s_is_number) [] [] (He.ga K "is_number") fd := T.c.def_ 61 (d := D.d_is_number) rfl
theorem Tx.f_Edition_init (T : Tx K mg) : ∃ fd, FunD K "__init__" "Edition.__init__" (defArgs s_Edition_init) (defBody s_Edition_init) (defScope s_Edition_init) [] [] (He.ma K (He.ga K "Edition") "__init__") fd := T.c.def_ 62 (d := D.d_Edition_init) rfl
theorem Tx.f_Edition_eq (T : Tx K mg) : ∃ fd, FunD K "__eq__" "Edition.__eq__" (defArgs s_Edition_eq) (defBody s_Edition_eq) (defScope s_Edition_eq) [] [] (He.ma K (He.ga K "Edition") "__eq__") fd := T.c.def_ 63 (d := D.d_Edition_eq) rfl
theorem Tx.f_refuse_counts (T : Tx K mg) : ∃ fd, FunD K "refuse_counts" "refuse_counts" (defArgs s_refuse_counts) (defBody s_refuse_counts) (defScope s_refuse_counts) [] [] (He.ga K "refuse_counts") fd := T.c.def_ 64 (d := D.d_refuse_counts) rfl
theorem Tx.f_refuse_calls (T : Tx K mg) : ∃ fd, FunD K "refuse_calls" "refuse_calls" (defArgs s_refuse_calls) (defBody s_refuse_calls) (defScope s_refuse_calls) [] [] (He.ga K "refuse_calls") fd := T.c.def_ 65 (d := D.d_refuse_calls) rfl
theorem Tx.f_has_question (T : Tx K mg) : ∃ fd, FunD K "has_question" "has_question" (defArgs s_has_question) (defBody s_has_question) (defScope s_has_question) [] [] (He.ga K "has_question") fd := T.c.def_ 66 (d := D.d_has_question) rfl
theorem Tx.f_led (T : Tx K mg) : ∃ fd, FunD K "led" "led" (defArgs s_led) (defBody s_led) (defScope s_led) [] [] (He.ga K "led") fd := T.c.def_ 67 (d := D.d_led) rfl
theorem Tx.f_led_over (T : Tx K mg) : ∃ fd, FunD K "led_over" "led_over" (defArgs s_led_over) (defBody s_led_over) (defScope s_led_over) [] [] (He.ga K "led_over") fd := T.c.def_ 68 (d := D.d_led_over) rfl
theorem Tx.f_called_anew (T : Tx K mg) : ∃ fd, FunD K "called_anew" "called_anew" (defArgs s_called_anew) (defBody s_called_anew) (defScope s_called_anew) [] [] (He.ga K "called_anew") fd := T.c.def_ 69 (d := D.d_called_anew) rfl
theorem Tx.f_belongs (T : Tx K mg) : ∃ fd, FunD K "belongs" "belongs" (defArgs s_belongs) (defBody s_belongs) (defScope s_belongs) [] [] (He.ga K "belongs") fd := T.c.def_ 70 (d := D.d_belongs) rfl
theorem Tx.f__law_cell_at (T : Tx K mg) : ∃ fd, FunD K "_law_cell_at" "_law_cell_at" (defArgs s__law_cell_at) (defBody s__law_cell_at) (defScope s__law_cell_at) [] [] (He.ga K "_law_cell_at") fd := T.c.def_ 71 (d := D.d__law_cell_at) rfl
theorem Tx.f__law_well (T : Tx K mg) : ∃ fd, FunD K "_law_well" "_law_well" (defArgs s__law_well) (defBody s__law_well) (defScope s__law_well) [] [] (He.ga K "_law_well") fd := T.c.def_ 72 (d := D.d__law_well) rfl
theorem Tx.f__law_draw (T : Tx K mg) : ∃ fd, FunD K "_law_draw" "_law_draw" (defArgs s__law_draw) (defBody s__law_draw) (defScope s__law_draw) [] [] (He.ga K "_law_draw") fd := T.c.def_ 73 (d := D.d__law_draw) rfl
theorem Tx.f__law_pick (T : Tx K mg) : ∃ fd, FunD K "_law_pick" "_law_pick" (defArgs s__law_pick) (defBody s__law_pick) (defScope s__law_pick) [] [] (He.ga K "_law_pick") fd := T.c.def_ 74 (d := D.d__law_pick) rfl
theorem Tx.f__law_name (T : Tx K mg) : ∃ fd, FunD K "_law_name" "_law_name" (defArgs s__law_name) (defBody s__law_name) (defScope s__law_name) [] [] (He.ga K "_law_name") fd := T.c.def_ 75 (d := D.d__law_name) rfl
theorem Tx.f__law_names (T : Tx K mg) : ∃ fd, FunD K "_law_names" "_law_names" (defArgs s__law_names) (defBody s__law_names) (defScope s__law_names) [] [] (He.ga K "_law_names") fd := T.c.def_ 76 (d := D.d__law_names) rfl
theorem Tx.f__law_form (T : Tx K mg) : ∃ fd, FunD K "_law_form" "_law_form" (defArgs s__law_form) (defBody s__law_form) (defScope s__law_form) [] [] (He.ga K "_law_form") fd := T.c.def_ 77 (d := D.d__law_form) rfl
theorem Tx.f__law_answers (T : Tx K mg) : ∃ fd, FunD K "_law_answers" "_law_answers" (defArgs s__law_answers) (defBody s__law_answers) (defScope s__law_answers) [] [] (He.ga K "_law_answers") fd := T.c.def_ 78 (d := D.d__law_answers) rfl
theorem Tx.f__law_put_on (T : Tx K mg) : ∃ fd, FunD K "_law_put_on" "_law_put_on" (defArgs s__law_put_on) (defBody s__law_put_on) (defScope s__law_put_on) [] [] (He.ga K "_law_put_on") fd := T.c.def_ 79 (d := D.d__law_put_on) rfl
theorem Tx.f_law (T : Tx K mg) : ∃ fd, FunD K "law" "law" (defArgs s_law) (defBody s_law) (defScope s_law) [] [] (He.ga K "law") fd := T.c.def_ 80 (d := D.d_law) rfl
end
end K3
end A0_part
section V0_part
set_option Elab.async false
set_option linter.all false
set_option maxRecDepth 100000
set_option maxHeartbeats 0
namespace L2
open PySem PySem.Spec PyProof.Rows
/-! ### a def and its promise, for all callers -/
structure Ok (P : Program) (w : World) (K : PySem.W.Frag) (mg : Str → Option Value) (base : Heap) (k : Nat) (f : Addr) (ps : List Str) (sp : Sp) : Prop where
  run : ∃ fd, FnOk P w K mg base (L2.CX P w) k f fd ps sp ∧ Binds K fd ps [] ∧ PySem.W.keepIn K (.ref f) = true
section
variable {X : Cx} {k : Nat} {f : Addr} {ps : List Str} {sp : Sp} {x : Str} {e : Expr} {es : List Expr} {p pos : Pos} {t : TA}
/-- f(e, ..), nothing is raised -/
theorem pe_f (O : Ok X.prog X.w X.K X.mg X.base k f ps sp) (hr : Room k X.A) (hm : X.mg x = some (.ref f)) (ha : PA X (e :: es) t) (hg : Gl X x := by rfl) (hdb : (x == ("__debug__" : Str)) = false := by decide)
    (he : starEach (e :: es) X.env = (false, eval e X.env) :: starEach es X.env := by rfl) (hpl : (backTo pos (starEach es X.env)).any (·.1) = false := by rfl) :
    PE X (.Call (.Name x p) (e :: es) [] pos) (tCall sp [] E0 t) := by
  obtain ⟨fd, F, b, kp⟩ := O.run
  exact pe_call F hr hg hm kp b .nil passL ha hdb he hpl
/-- f(e, ..), what is raised is wished for by W at the slots -/
theorem pe_fE {W : WX} (tk : Takes X W) (O : Ok X.prog X.w X.K X.mg X.base k f ps sp) (hr : Room k X.A) (hm : X.mg x = some (.ref f)) (ha : PA X (e :: es) t) (hg : Gl X x := by rfl) (hdb : (x == ("__debug__" : Str)) = false := by decide)
    (he : starEach (e :: es) X.env = (false, eval e X.env) :: starEach es X.env := by rfl) (hpl : (backTo pos (starEach es X.env)).any (·.1) = false := by rfl) :
    PE X (.Call (.Name x p) (e :: es) [] pos) (tCallS sp (WE W) t) := by
  obtain ⟨fd, F, b, kp⟩ := O.run
  exact pe_callS F hr hg hm kp b (fun σ => passAt tk σ) ha hdb he hpl
theorem pe_gint {i : Int} (hm : ∃ t, X.mg x = some (.int i t)) (hg : Gl X x := by rfl) (hd : (x == ("__debug__" : Str)) = false := by decide) : PE X (.Name x pos) (tC (.int i)) := by
  obtain ⟨t, h⟩ := hm
  exact pe_glob hg h ⟨_, rfl⟩ hd
theorem pe_gstr {i : Str} (hm : ∃ t, X.mg x = some (.str i t)) (hg : Gl X x := by rfl) (hd : (x == ("__debug__" : Str)) = false := by decide) : PE X (.Name x pos) (tC (.str i)) := by
  obtain ⟨t, h⟩ := hm
  exact pe_glob hg h ⟨_, rfl⟩ hd
theorem pe_gref {a : Addr} (hm : X.mg x = some (.ref a)) (hg : Gl X x := by rfl) (hd : (x == ("__debug__" : Str)) = false := by decide) : PE X (.Name x pos) (tC (.ref a)) := pe_glob hg hm rfl hd
end
/-! ### readings, step by step -/
section
variable {σ : St} {H : Hp} {D : Ends} {t u : TS} {te ta tb tc : TE} {tt tt2 : TT} {tr : TA} {Q : VK} {QB : Bool → Hp → Prop} {QA : List V → Hp → Prop} {i : Nat} {v x y : V}
theorem w_seq (h : t { D with nx := u D } σ H) : tSeq t u D σ H := h
theorem w_next (h : D.nx σ H) : tNext D σ H := h
theorem w_set (h : te σ H fun x H1 => D.nx (σ.set i (some x)) H1) : tAsg te (gName i) D σ H := h
theorem w_drop (h : te σ H fun _ H1 => D.nx σ H1) : tDrop te D σ H := h
theorem w_ret (h : te σ H D.rt) : tRet te D σ H := h
theorem w_retN (h : D.rt .non H) : tRetN D σ H := h
theorem w_if (h : tt σ H fun b H1 => if b = true then t D σ H1 else u D σ H1) : tIfS tt t u D σ H := h
theorem w_var (h : σ[i]? = some (some v)) (q : Q v H) : tVar i σ H Q := ⟨v, h, q⟩
theorem w_c (q : Q v H) : tC v σ H Q := q
theorem w_nil (q : QA [] H) : tNil σ H QA := q
theorem w_cons (h : te σ H fun x H1 => tr σ H1 fun xs H2 => QA (x :: xs) H2) : tCons te tr σ H QA := h
theorem w_op {r : R2} (h : ta σ H fun x H1 => tb σ H1 fun y H2 => r x y H2 Q) : tOp r ta tb σ H Q := h
theorem w_un {r : V → Hp → VK → Prop} (h : ta σ H fun x H1 => r x H1 Q) : tUn r ta σ H Q := h
theorem w_test (h : te σ H fun x H' => ∃ k, x = .bl k ∧ QB k H') : tTest te σ H QB := h
theorem w_tB (h : te σ H fun x H' => ∃ k, x = .bl k ∧ QB k H') : tB te σ H QB := h
theorem w_not (h : tt σ H fun c H1 => QB (!c) H1) : tNot tt σ H QB := h
theorem w_and (h : tt σ H fun c H1 => if c = true then tt2 σ H1 QB else QB false H1) : tAnd tt tt2 σ H QB := h
theorem w_or (h : tt σ H fun c H1 => if c = true then QB true H1 else tt2 σ H1 QB) : tOr tt tt2 σ H QB := h
theorem w_bl {b : Bool} {P : Bool → Prop} (h : P b) : ∃ k, V.bl b = .bl k ∧ P k := ⟨b, rfl, h⟩
theorem w_nT {A B : Prop} (h : B) : if (!true) = true then A else B := iteF h
theorem w_nF {A B : Prop} (h : A) : if (!false) = true then A else B := iteT h
theorem w_nN {A B : Prop} {b : Bool} (h : if b = true then B else A) : if (!b) = true then A else B := by cases b <;> exact h
theorem w_andV (h : ta σ H fun x H1 => ∃ c, x = .bl c ∧ if c = true then tb σ H1 Q else Q (.bl false) H1) : tAndV ta tb σ H Q := h
theorem w_orV (h : ta σ H fun x H1 => ∃ c, x = .bl c ∧ if c = true then Q (.bl true) H1 else tb σ H1 Q) : tOrV ta tb σ H Q := h
theorem w_notV (h : ta σ H fun x H1 => ∃ c, x = .bl c ∧ Q (.bl (!c)) H1) : tNotV ta σ H Q := h
theorem w_ifE (h : tt σ H fun c H1 => if c = true then ta σ H1 Q else tb σ H1 Q) : tIf tt ta tb σ H Q := h
theorem w_chain {r r' : R2} (h : ta σ H fun x H1 => tb σ H1 fun y H2 => r x y H2 fun z H3 => ∃ k, z = .bl k ∧ (if k = true then tc σ H3 fun w' H4 => r' y w' H4 Q else Q (.bl false) H3)) : tChain r r' ta tb tc σ H Q := h
theorem w_i0 {g : Int → Int → V} {i j : Int} (h : Q (g i j) H) : rI0 g (.int i) (.int j) H Q := ⟨i, j, rfl, rfl, h⟩
theorem w_i {C : Int → Int → Prop} {g : Int → Int → V} {i j : Int} (c : C i j) (h : Q (g i j) H) : rI C g (.int i) (.int j) H Q := ⟨i, j, rfl, rfl, c, h⟩
theorem w_call {sp : Sp} {dvs : List V} {E : XK} (h : tr σ H fun vs H1 => sp (vs ++ dvs) H1 Q E) : tCall sp dvs E tr σ H Q := h
theorem w_callS {sp : Sp} {E : St → XK} (h : tr σ H fun vs H1 => sp vs H1 Q (E σ)) : tCallS sp E tr σ H Q := h
theorem w_cB {r : List V → Hp → VK → Prop} (h : tr σ H fun vs H1 => r vs H1 Q) : tCB r tr σ H Q := h
theorem w_tup (h : tr σ H fun xs H1 => xs.length ≤ sizeLine ∧ ∀ p, H1 p = none → Q (.ref p) (upd H1 p (.tup xs))) : tTup tr σ H Q := h
theorem w_lst (h : tr σ H fun xs H1 => xs.length ≤ sizeLine ∧ ∀ p, H1 p = none → Q (.ref p) (upd H1 p (.lst xs))) : tLst tr σ H Q := h
theorem w_fldV {K : PySem.W.Frag} {f : Str} (h : ta σ H fun x H1 => ∃ a C dx fs v, x = .ref a ∧ H1 a = some (.ins C dx fs) ∧ Cls K C ∧ NoAttr K C f ∧ fs.lookup f = some v ∧ Q v H1) : tFld K ta f σ H Q := h
theorem w_eqS {a b : Str} (h : Q (.bl (decide (V.str a = V.str b))) H) : rEq (.str a) (.str b) H Q := ⟨rfl, h⟩
theorem w_neF {A B : Prop} {a b : Bool} (h : if b = true then A else B) : if (if false = true then a else b) = true then A else B := by
  rw [if_neg Bool.false_ne_true]
  exact h
theorem w_neT {A B : Prop} {a b : Bool} (h : if a = true then A else B) : if (if true = true then a else b) = true then A else B := by
  rw [if_pos (rfl : true = true)]
  exact h
theorem w_yes (h : QB true H) : tYes σ H QB := h
theorem w_notN (h : ta σ H fun x H1 => Q (.bl (!decide (x = .non))) H1) : tNotN ta σ H Q := h
theorem w_isN (h : ta σ H fun x H1 => Q (.bl (decide (x = .non))) H1) : tIsN ta σ H Q := h
theorem w_gname {QS : L2.St → Hp → Prop} (h : QS (σ.set i (some v)) H) : gName i v σ H QS := h
theorem w_gsub {to ti : TE} {t : TSet} {QS : L2.St → Hp → Prop} (h : to σ H fun o H1 => ti σ H1 fun i H2 => t o i v H2 fun H3 => QS σ H3) : gSub to ti t v σ H QS := h
theorem w_asg {g : TG} (h : te σ H fun x H1 => g x σ H1 D.nx) : tAsg te g D σ H := h
theorem w_ixL {K : PySem.W.Frag} {p : Addr} {xs : List V} {i : Int} (hl : H p = some (.lst xs)) (ha : atI xs i = some v) (h : Q v H) : rIxL K (.ref p) (.int i) H Q := ⟨p, xs, i, v, rfl, rfl, SqL.of hl, ha, h⟩
theorem w_ixT {K : PySem.W.Frag} {p : Addr} {xs : List V} {i : Int} (hl : SqT K H p xs) (ha : atI xs i = some v) (h : Q v H) : rIxT K (.ref p) (.int i) H Q := ⟨p, xs, i, v, rfl, rfl, hl, ha, h⟩
theorem w_setL {p : Addr} {xs : List V} {i : Int} {j : Nat} {QH : Hp → Prop} (hl : H p = some (.lst xs)) (hj : ixN xs.length i = some j) (h : QH (upd H p (.lst (xs.set j v)))) : rSetL (.ref p) (.int i) v H QH := ⟨p, xs, i, j, rfl, rfl, hl, hj, h⟩
theorem w_iteT {A B : Prop} (h : A) : if true = true then A else B := iteT h
theorem w_iteF {A B : Prop} (h : B) : if false = true then A else B := iteF h
end
end L2
namespace L2
open PySem PySem.Spec PyProof.Rows
theorem Same.new {H : Hp} {p : Addr} (h : H p = none) (o : HO) : Same H (upd H p o) := fun b u q => by rw [upd_ne (ne_of_none q h)]; exact q
theorem Same.at {H H' : Hp} (s : Same H H') {a : Addr} {o : HO} (h : H a = some o) : H' a = some o := s _ _ h
/-- an object that H does not know may change -/
theorem Same.mut {H H' : Hp} {p : Addr} {o : HO} (e : Same H H') (h : H p = none) : Same H (upd H' p o) := fun a u ha => by
  rw [upd_ne (ne_of_none ha h)]
  exact e a u ha
theorem Same.sqt {K : PySem.W.Frag} {H H' : Hp} {a : Addr} {xs : List V} (e : Same H H') (h : SqT K H a xs) : SqT K H' a xs := by
  rcases h with (h | ⟨o, h⟩) | h
  · exact .inl (.inl (e _ _ h))
  · exact .inl (.inr ⟨o, e _ _ h⟩)
  · exact .inr h
/-- instances and tuples stand -/
def keepF : List (Str × V) → Bool
  | [] => false
  | [(f, _)] => decide (f = ("inner" : Str))
  | [_, (g, _)] => !decide (g = ("questions" : Str))
  | _ => true
def keepO : HO → Bool
  | .ins _ _ fs => keepF fs
  | .tup _ => true
  | .frz _ _ => true
  | _ => false
def SI (H H' : Hp) : Prop := ∀ b o, keepO o = true → H b = some o → H' b = some o
theorem Same.si {H H' : Hp} (e : Same H H') : SI H H' := fun b o _ h => e b o h
theorem SI.trans {H H1 H2 : Hp} (a : SI H H1) (b : SI H1 H2) : SI H H2 := fun c o k h => b c o k (a c o k h)
theorem SI.refl (H : Hp) : SI H H := fun _ _ _ h => h
theorem SI.upd {H : Hp} {p : Addr} {u : HO} (h : H p = some u) (hu : keepO u = false) (o : HO) : SI H (upd H p o) := fun b o' k q => by
  rw [upd_ne (fun z => by rw [z, h] at q; rw [← Option.some.inj q, hu] at k; cases k)]
  exact q
theorem SI.sqt {K : PySem.W.Frag} {H H' : Hp} {a : Addr} {xs : List V} (e : SI H H') (h : SqT K H a xs) : SqT K H' a xs := by
  rcases h with (h | ⟨o, h⟩) | h
  · exact .inl (.inl (e _ _ rfl h))
  · exact .inl (.inr ⟨o, e _ _ rfl h⟩)
  · exact .inr h
/-- [te for c in z]: each element is f c -/
theorem lc_strF {z : Str} {f : Nat → V} {σ : St} {i : Nat} {vs : List Nat} {ta te : TE} {H : Hp} {Q : VK} (ha : ∀ (Q : VK), Q (.str z) H → ta σ H Q) (hz : z.cps.size ≤ 1000) (hw : ∀ x, wipe ((wipe σ vs).set i (some x)) vs = wipe σ vs)
    (he : ∀ (c : Nat) (H' : Hp) (Q : VK), Same H H' → Q (f c) H' → te ((wipe σ vs).set i (some (.str ⟨#[c]⟩))) H' Q)
    (q : ∀ (p : Addr) (H' : Hp), H p = none → Same H H' → H' p = some (.lst (z.cps.toList.map f)) → Q (.ref p) H') : tLc (iStr ta) (gName i) tYes te vs σ H Q := by
  refine ha _ ⟨z, rfl, fun p hp => ?_⟩
  refine lc_it (n := z.cps.size) walk_str (fun n H' => Same H H' ∧ H' p = some (.lst ((z.cps.toList.take n).map f))) ⟨Same.new hp _, upd_same⟩ (fun _ _ _ _ => trivial) ?_ ?_
  · rintro n x H1 H2 hn ⟨s1, e1⟩ ⟨rfl, c, hc, rfl⟩
    refine ⟨hw _, ?_⟩
    refine w_yes ?_
    refine w_iteT ?_
    refine (he c _ _ s1 ⟨_, e1, ?_, s1.mut hp, ?_⟩)
    · rw [List.length_map, List.length_take, Array.length_toList]
      exact Nat.lt_of_lt_of_le (Nat.lt_of_le_of_lt (Nat.min_le_left _ _) (Nat.lt_of_lt_of_le hn hz)) (by decide)
    · rw [upd_same, List.take_add_one]
      have : z.cps.toList[n]? = some c := by rw [Array.getElem?_toList]; exact hc
      rw [this]
      simp
  · rintro H' ⟨s1, e1⟩
    refine q p H' hp s1 ?_
    rw [e1, List.take_of_length_le (by rw [Array.length_toList] <;> exact Nat.le_refl _)]
end L2
end V0_part
section G0_part
set_option Elab.async false
set_option linter.all false
set_option maxRecDepth 100000
set_option maxHeartbeats 1000000
set_option pp.deepTerms.threshold 5
open PySem PySem.Spec PyProof.Rows L2
/-- go on as far as nothing is open -/
local macro_rules | `(tactic| walk_at "go") => `(tactic| repeat (first
  | with_reducible refine w_seq ?_ | with_reducible refine w_next ?_ | with_reducible refine w_set ?_ | with_reducible refine w_drop ?_ | with_reducible refine w_ret ?_ | with_reducible refine w_retN ?_
  | with_reducible refine w_if ?_ | ((with_reducible refine' w_var ?hv ?_); (case hv => exact rfl)) | with_reducible refine w_c ?_ | with_reducible refine w_nil ?_ | with_reducible refine w_cons ?_ | with_reducible refine w_op ?_ | with_reducible refine w_un ?_
  | with_reducible refine w_test ?_ | with_reducible refine w_tB ?_ | with_reducible refine w_not ?_ | with_reducible refine w_and ?_ | with_reducible refine w_or ?_ | with_reducible refine w_bl ?_
  | with_reducible refine w_andV ?_ | with_reducible refine w_orV ?_ | with_reducible refine w_notV ?_ | with_reducible refine w_ifE ?_ | with_reducible refine w_chain ?_ | with_reducible refine w_i0 ?_
  | with_reducible refine w_call ?_ | with_reducible refine w_callS ?_ | with_reducible refine w_cB ?_ | with_reducible refine w_tup ?_ | with_reducible refine w_lst ?_ | with_reducible refine w_fldV ?_
  | with_reducible refine w_neF ?_ | with_reducible refine w_neT ?_ | with_reducible refine w_notN ?_ | with_reducible refine w_isN ?_ | with_reducible refine w_gname ?_ | with_reducible refine w_gsub ?_ | with_reducible refine w_asg ?_ | with_reducible refine w_yes ?_ | with_reducible refine w_nT ?_ | with_reducible refine w_nF ?_ | with_reducible refine w_iteT ?_ | with_reducible refine w_iteF ?_))
namespace L2
open PySem PySem.Spec PyProof.Rows
section
variable {σ : St} {H : Hp} {te : TE} {tl th : TO} {Q : VK} {QO : Option Int → Hp → Prop} {r : V → Option Int → Option Int → Hp → VK → Prop}
theorem w_sl (h : te σ H fun x H1 => tl σ H1 fun l H2 => th σ H2 fun u H3 => r x l u H3 Q) : tSl r te tl th σ H Q := h
theorem w_noP (h : QO none H) : tNoPart σ H QO := h
theorem w_part (h : te σ H fun x H1 => ∃ i, x = .int i ∧ QO (some i) H1) : tPart te σ H QO := h
theorem w_int1 {i : Int} {P : Int → Prop} (h : P i) : ∃ j, V.int i = .int j ∧ P j := ⟨i, rfl, h⟩
end
end L2

namespace K3
/-! ### heaps less what may change -/
def less (H : Hp) (M : List Addr) : Hp := fun b => if b ∈ M then none else H b
/-- all stands, what is in M perhaps changed -/
def BM (M : List Addr) (H H' : Hp) : Prop := ∀ b o, H b = some o → ∃ o', H' b = some o' ∧ (b ∉ M → o' = o)
theorem BM.refl (M : List Addr) (H : Hp) : BM M H H := fun _ o h => ⟨o, h, fun _ => rfl⟩
theorem BM.trans {M : List Addr} {H H1 H2 : Hp} (a : BM M H H1) (b : BM M H1 H2) : BM M H H2 := fun c o h => by
  obtain ⟨o1, h1, k1⟩ := a c o h
  obtain ⟨o2, h2, k2⟩ := b c o1 h1
  exact ⟨o2, h2, fun k => (k2 k).trans (k1 k)⟩
theorem BM.at {M : List Addr} {H H1 : Hp} (a : BM M H H1) {b : Addr} {o : HO} (h : H b = some o) (k : b ∉ M) : H1 b = some o := by
  obtain ⟨o1, h1, k1⟩ := a b o h
  rw [h1, k1 k]
theorem BM.of {M : List Addr} {H H1 : Hp} (a : Same H H1) : BM M H H1 := fun c o h => ⟨o, a c o h, fun _ => rfl⟩
theorem BM.mono {M N : List Addr} {H H1 : Hp} (a : BM M H H1) (s : ∀ b ∈ M, b ∈ N) : BM N H H1 := fun c o h => by
  obtain ⟨o1, h1, k1⟩ := a c o h
  exact ⟨o1, h1, fun k => k1 fun z => k (s c z)⟩
theorem BM.upd {M : List Addr} {H : Hp} {p : Addr} (hp : p ∈ M) (o : HO) : BM M H (upd H p o) := fun b u h => by
  by_cases c : b = p
  · exact ⟨o, by rw [c]; exact upd_same, fun k => absurd (by rw [c]; exact hp) k⟩
  · exact ⟨u, by rw [upd_ne c]; exact h, fun _ => rfl⟩
theorem BM.less {M : List Addr} {H H1 : Hp} (a : BM M H H1) : Same (less H M) (less H1 M) := fun b o h => by
  unfold K3.less at h ⊢
  by_cases c : b ∈ M
  · rw [if_pos c] at h; cases h
  · rw [if_neg c] at h ⊢
    exact a.at h c
theorem BM.free {M : List Addr} {H H1 : Hp} (h : BM M H H1) {p : Addr} (hp : H1 p = none) : H p = none := by
  cases e : H p with
  | none => rfl
  | some o =>
    obtain ⟨o1, h1, _⟩ := h p o e
    rw [hp] at h1
    cases h1
theorem less_at {H : Hp} {M : List Addr} {b : Addr} {o : HO} (h : less H M b = some o) : H b = some o ∧ b ∉ M := by
  unfold less at h
  by_cases c : b ∈ M
  · rw [if_pos c] at h; cases h
  · rw [if_neg c] at h; exact ⟨h, c⟩
theorem less_of {H : Hp} {M : List Addr} {b : Addr} {o : HO} (h : H b = some o) (c : b ∉ M) : less H M b = some o := by
  unfold less
  rw [if_neg c]
  exact h
theorem less_same {H : Hp} {M : List Addr} : Same (less H M) H := fun b o h => (less_at h).1
/-- all of M is there -/
def In (M : List Addr) (H : Hp) : Prop := ∀ m ∈ M, ∃ o, H m = some o
theorem In.new {M : List Addr} {H : Hp} {p : Addr} (h : In M H) (hp : H p = none) : p ∉ M := fun z => by obtain ⟨o, e⟩ := h p z; rw [hp] at e; cases e
theorem In.bm {M N : List Addr} {H H' : Hp} (h : In M H) (e : BM N H H') : In M H' := fun m hm => by
  obtain ⟨o, q⟩ := h m hm
  obtain ⟨o', q', _⟩ := e m o q
  exact ⟨o', q'⟩
/-- the source of draws -/
def Src (H : Hp) (s : Addr) : Prop := ∃ a b c : Int, H s = some (.lst [.int a, .int b, .int c])
theorem Src.bm {M : List Addr} {H H' : Hp} {s : Addr} (h : Src H s) (e : BM M H H') (k : s ∉ M) : Src H' s := let ⟨a, b, c, q⟩ := h; ⟨a, b, c, e.at q k⟩
theorem Src.same {H H' : Hp} {s : Addr} (h : Src H s) (e : Same H H') : Src H' s := let ⟨a, b, c, q⟩ := h; ⟨a, b, c, e _ _ q⟩
theorem Paired.app {α β : Type} {F : α → β → Prop} : ∀ {l1 l3 : List α} {l2 l4 : List β}, Paired F l1 l2 → Paired F l3 l4 → Paired F (l1 ++ l3) (l2 ++ l4)
  | _, _, _, _, .nil, h => h
  | _, _, _, _, .cons a t, h => .cons a (Paired.app t h)
theorem Paired.get {α β : Type} {F : α → β → Prop} : ∀ {l1 : List α} {l2 : List β}, Paired F l1 l2 → ∀ {i : Nat} {x : α}, l1[i]? = some x → ∃ y, l2[i]? = some y ∧ F x y
  | _, _, .nil, i, x, h => by simp at h
  | _, _, .cons (a := a) (b := b) h t, 0, x, e => by
    have e' : a = x := by simpa using e
    subst e'
    exact ⟨b, rfl, h⟩
  | _, _, .cons h t, i + 1, x, e => Paired.get t (i := i) (by simpa using e)
def rEqE (K : PySem.W.Frag) : R2 := fun x y H Q => ∃ (a b : Addr) (xs ys : List V), x = .ref a ∧ y = .ref b ∧ SqL K H a xs ∧ SqL K H b ys ∧ (xs = [] ∨ ys = [] ∨ xs.length ≠ ys.length) ∧ Q (.bl (decide (xs = [] ∧ ys = []))) H
def rNeE (K : PySem.W.Frag) : R2 := fun x y H Q => ∃ (a b : Addr) (xs ys : List V), x = .ref a ∧ y = .ref b ∧ SqL K H a xs ∧ SqL K H b ys ∧ (xs = [] ∨ ys = [] ∨ xs.length ≠ ys.length) ∧ Q (.bl (!decide (xs = [] ∧ ys = []))) H
theorem sizes {xs ys : List V} {is js : List Value} (r1 : Vals xs is) (r2 : Vals ys js) (h : xs = [] ∨ ys = [] ∨ xs.length ≠ ys.length) (c : ¬ (xs = [] ∧ ys = [])) : (is.toArray.size != js.toArray.size) = true := by
  have e1 := r1.length
  have e2 := r2.length
  simp only [List.size_toArray, bne_iff_ne, ne_eq]
  rw [← e1, ← e2]
  intro z
  rcases h with h | h | h
  · rw [h] at z
    exact c ⟨h, List.length_eq_zero_iff.mp z.symm⟩
  · rw [h] at z
    exact c ⟨List.length_eq_zero_iff.mp z, h⟩
  · exact h z
theorem op_eqE {X : Cx} (hu : X.A.units < cLine) : OpR X (compareOp .Eq) (rEqE X.K) := by
  intro pins s σ H x y v u Q I rx ry h
  obtain ⟨a, b, xs, ys, rfl, rfl, ha, hb, hs, q⟩ := h
  cases rx
  cases ry
  obtain ⟨is, r1, p1, _⟩ := I.list ha
  obtain ⟨js, r2, p2, _⟩ := I.list hb
  by_cases c : xs = [] ∧ ys = []
  · rw [decide_eq_true c] at q
    obtain ⟨rfl, rfl⟩ := c
    cases r1
    cases r2
    exact SeqAt.eq_listAt (e := fun _ => true) p1.isList p2.isList rfl hu (fun j h1 => absurd h1 (Nat.not_lt_zero _)) ⟨.bl true, H, I, rfl, q⟩
  · rw [decide_eq_false c] at q
    exact SeqAt.eq_list_lengthsAt p1.isList p2.isList (sizes r1 r2 hs c) hu ⟨.bl false, H, I, rfl, q⟩
theorem op_neE {X : Cx} (hu : X.A.units < cLine) : OpR X (compareOp .NotEq) (rNeE X.K) := by
  intro pins s σ H x y v u Q I rx ry h
  obtain ⟨a, b, xs, ys, rfl, rfl, ha, hb, hs, q⟩ := h
  cases rx
  cases ry
  obtain ⟨is, r1, p1, _⟩ := I.list ha
  obtain ⟨js, r2, p2, _⟩ := I.list hb
  by_cases c : xs = [] ∧ ys = []
  · rw [decide_eq_true c] at q
    obtain ⟨rfl, rfl⟩ := c
    cases r1
    cases r2
    exact SeqAt.RcNeAt.lists (e := fun _ => true) p1.isList p2.isList rfl hu (fun j h1 => absurd h1 (Nat.not_lt_zero _)) X.prog X.w X.xe _ ⟨.bl false, H, I, rfl, q⟩
  · rw [decide_eq_false c] at q
    exact SeqAt.RcNeAt.lists_lengths p1.isList p2.isList (sizes r1 r2 hs c) hu X.prog X.w X.xe _ ⟨.bl true, H, I, rfl, q⟩

theorem cut_to (xs : List V) (i : Nat) : cutV xs none (some (i : Int)) = xs.take i := by
  unfold cutV
  rw [HT.sIx_none, HT.sIx_nat, List.drop_zero, Nat.sub_zero]
  by_cases h : i ≤ xs.length
  · rw [Nat.min_eq_left h]
  · rw [Nat.min_eq_right (by omega), List.take_length, List.take_of_length_le (by omega)]
theorem cut_from (xs : List V) (i : Nat) : cutV xs (some (i : Int)) none = xs.drop i := by
  unfold cutV
  rw [HT.sIx_none, HT.sIx_nat]
  by_cases h : i ≤ xs.length
  · rw [Nat.min_eq_left h, List.take_of_length_le (by rw [List.length_drop]; omega)]
  · rw [Nat.min_eq_right (by omega), List.drop_length, List.take_nil, List.drop_of_length_le (by omega)]
theorem w_ifR {tt : TT} {t u : TS} {D : L2.Ends} {σ : L2.St} {H : Hp} (R : Bool → Hp → Prop) (h : ∀ QB : Bool → Hp → Prop, (∀ b H', R b H' → QB b H') → tt σ H QB) (h1 : ∀ H', R true H' → t D σ H') (h2 : ∀ H', R false H' → u D σ H') : tIfS tt t u D σ H :=
  h _ fun b H' r => by
    cases b with
    | true => exact h1 H' r
    | false => exact h2 H' r
theorem less_upd {H : Hp} {M : List Addr} {p : Addr} (h : p ∈ M) (o : HO) : less (upd H p o) M = less H M := by
  funext b
  unfold K3.less
  by_cases c : b ∈ M
  · rw [if_pos c, if_pos c]
  · rw [if_neg c, if_neg c, upd_ne (fun z => c (by rw [z]; exact h))]
theorem less_sub {H : Hp} {M N : List Addr} (h : ∀ b ∈ M, b ∈ N) : Same (less H N) (less H M) := fun b o q => less_of (less_at q).1 fun z => (less_at q).2 (h b z)
end K3
end G0_part
section C1_part
set_option Elab.async false
set_option linter.all false
set_option maxRecDepth 100000
set_option maxHeartbeats 1000000
set_option pp.deepTerms.threshold 5
open PySem PySem.Spec PyProof.Rows L2
/-- go on as far as nothing is open -/
local macro_rules | `(tactic| walk_at "go") => `(tactic| repeat (first
  | with_reducible refine w_seq ?_ | with_reducible refine w_next ?_ | with_reducible refine w_set ?_ | with_reducible refine w_drop ?_ | with_reducible refine w_ret ?_ | with_reducible refine w_retN ?_
  | with_reducible refine w_if ?_ | ((with_reducible refine' w_var ?hv ?_); (case hv => exact rfl)) | with_reducible refine w_c ?_ | with_reducible refine w_nil ?_ | with_reducible refine w_cons ?_ | with_reducible refine w_op ?_ | with_reducible refine w_un ?_
  | with_reducible refine w_test ?_ | with_reducible refine w_tB ?_ | with_reducible refine w_not ?_ | with_reducible refine w_and ?_ | with_reducible refine w_or ?_ | with_reducible refine w_bl ?_
  | with_reducible refine w_andV ?_ | with_reducible refine w_orV ?_ | with_reducible refine w_notV ?_ | with_reducible refine w_ifE ?_ | with_reducible refine w_chain ?_ | with_reducible refine w_i0 ?_
  | with_reducible refine w_call ?_ | with_reducible refine w_callS ?_ | with_reducible refine w_cB ?_ | with_reducible refine w_tup ?_ | with_reducible refine w_lst ?_ | with_reducible refine w_fldV ?_
  | with_reducible refine w_neF ?_ | with_reducible refine w_neT ?_ | with_reducible refine w_notN ?_ | with_reducible refine w_isN ?_ | with_reducible refine w_gname ?_ | with_reducible refine w_gsub ?_ | with_reducible refine w_asg ?_ | with_reducible refine w_sl ?_ | with_reducible refine w_noP ?_ | with_reducible refine w_int1 ?_ | with_reducible refine w_part ?_ | with_reducible refine w_yes ?_ | with_reducible refine w_nT ?_ | with_reducible refine w_nF ?_ | with_reducible refine w_iteT ?_ | with_reducible refine w_iteF ?_))
namespace K3
/-! ### tables -/
abbrev RowAt (H : Hp) (r : Addr) (row : List Int) : Prop := H r = some (.lst (row.map V.int))
structure Tab (H : Hp) (p : Addr) (rs : List Addr) (t : List (List Int)) : Prop where
  at_ : H p = some (.lst (rs.map V.ref))
  rows : Paired (RowAt H) rs t
theorem Tab.same {H H' : Hp} (e : Same H H') {p : Addr} {rs : List Addr} {t : List (List Int)} (h : Tab H p rs t) : Tab H' p rs t := ⟨e _ _ h.at_, L2.Paired.mapP h.rows fun _ _ z => e _ _ z⟩
/-- all of it is new -/
structure New (H : Hp) (p : Addr) (rs : List Addr) : Prop where
  p0 : H p = none
  rs0 : ∀ r ∈ rs, H r = none
  nd : rs.Nodup
  ne : p ∉ rs
def addSum (r : List Int) : List Int := r ++ [r.sum]
def colOf (u : List (List Int)) (c : Nat) : List Int := u.map fun r => r.getD c 0
def withSums (k : Nat) (t : List (List Int)) : List (List Int) := t.map addSum ++ [(List.range (k + 1)).map fun c => (colOf (t.map addSum) c).sum]
theorem lc_open {wi : TI} {g : TG} {tt : TT} {te : TE} {vs : List Nat} {σ : L2.St} {H : Hp} {Q : VK} (h : wi σ H fun J H1 => ∀ D, H1 D = none → ∃ W : Nat → Nat → Hp → Prop, (∃ m, W 0 m (upd H1 D (.lst []))) ∧ ∀ i m H, W i m H →
    (J.stop i H ∧ Q (.ref D) H) ∨ (J.go i H ∧ ∃ Nx : Hp → Prop, (∀ H', Nx H' → ∃ m', m' < m ∧ W (i + 1) m' H') ∧ ∀ x H', J.yld i H x H' → g x (wipe σ vs) H' fun σ2 H2 => wipe σ2 vs = wipe σ vs ∧ tt σ2 H2 fun b H3 =>
      if b = true then te σ2 H3 fun y H4 => ∃ acc, H4 D = some (.lst acc) ∧ acc.length < sizeLine ∧ Nx (upd H4 D (.lst (acc ++ [y]))) else Nx H3)) : tLc wi g tt te vs σ H Q := h
theorem rng_open {ta : TA} {σ : L2.St} {H : Hp} {R : It → Hp → Prop} (h : ta σ H fun vs H1 => ∃ j : Int, vs = [.int j] ∧ -(2 ^ 62) ≤ j ∧ j < 2 ^ 62 ∧ R (Itr 0 j.toNat) H1) : iRng1 ta σ H R := h
theorem list_open {K : PySem.W.Frag} {tl : TE} {σ : L2.St} {H : Hp} {R : It → Hp → Prop} (h : tl σ H fun x H1 => ∃ a, x = .ref a ∧ (∃ xs, SqL K H1 a xs) ∧ R (Itl K a) H1) : iList K tl σ H R := h
theorem nodup_snoc {α : Type} {l : List α} {z : α} (h : l.Nodup) (hz : z ∉ l) : (l ++ [z]).Nodup := by
  rw [List.nodup_append]
  exact ⟨h, by simp, fun a ha b hb => by rw [List.mem_singleton.mp hb]; exact fun q => hz (q ▸ ha)⟩
theorem map_ref {rs : List Addr} {i : Nat} {x : V} (h : (rs.map V.ref)[i]? = some x) : ∃ r, rs[i]? = some r ∧ x = .ref r := by
  rw [List.getElem?_map] at h
  cases e : rs[i]? with
  | none => rw [e] at h; cases h
  | some r => rw [e] at h; exact ⟨r, rfl, (Option.some.inj h).symm⟩
theorem paired_up {α β : Type} {F G : α → β → Prop} : ∀ {xs : List α} {ys : List β}, Paired F xs ys → (∀ x y, x ∈ xs → F x y → G x y) → Paired G xs ys
  | _, _, .nil, _ => .nil
  | _, _, .cons h t, k => .cons (k _ _ (List.mem_cons_self ..) h) (paired_up t fun x y hx => k x y (List.mem_cons_of_mem _ hx))
theorem paired_has {α β : Type} {F : α → β → Prop} : ∀ {xs : List α} {ys : List β}, Paired F xs ys → ∀ {x : α}, x ∈ xs → ∃ y, F x y
  | _, _, .cons (b := b) h t, x, hx => by
    rcases List.mem_cons.mp hx with rfl | hx
    · exact ⟨b, h⟩
    · exact paired_has t hx
theorem at_getD {r : List Int} {c : Nat} (h : c < r.length) : atI (r.map V.int) (c : Int) = some (.int (r.getD c 0)) := by
  refine atI_nat ?_
  rw [List.getElem?_map, List.getElem?_eq_getElem h, List.getD_eq_getElem?_getD, List.getElem?_eq_getElem h]
  rfl
end K3

namespace K3
def CellAt (H : Hp) (v : V) (c : Nat × Nat) : Prop := ∃ a, v = .ref a ∧ H a = some (.tup [.int (c.1 : Int), .int (c.2 : Int)])
theorem CellAt.same {H H' : Hp} (e : Same H H') {v : V} {c : Nat × Nat} (h : CellAt H v c) : CellAt H' v c := let ⟨a, h1, h2⟩ := h; ⟨a, h1, e _ _ h2⟩
def rowCells (n r : Nat) : List (Nat × Nat) := (List.range n).map fun c => (r, c)
def cellsOf (m n : Nat) : List (Nat × Nat) := (List.range m).flatMap (rowCells n)
theorem cells_len (m n : Nat) : (cellsOf m n).length = m * n := by
  unfold cellsOf
  induction m with
  | zero => simp
  | succ m ih => rw [List.range_succ, List.flatMap_append, List.length_append, ih]; simp [rowCells, Nat.succ_mul]
theorem cut_last {xs : List V} : cutV xs none (some (-1)) = xs.dropLast := by
  unfold cutV HT.sIx
  rw [List.dropLast_eq_take]
  show (xs.drop 0).take ((if (-1 : Int) < 0 then ((-1 : Int) + (xs.length : Int)).toNat else min (-1 : Int).toNat xs.length) - 0) = _
  rw [if_pos (by decide), List.drop_zero, Nat.sub_zero]
  congr 1
  omega
theorem paired_drop {α β : Type} {F : α → β → Prop} : ∀ {xs : List α} {ys : List β}, Paired F xs ys → Paired F xs.dropLast ys.dropLast
  | _, _, .nil => .nil
  | _, _, .cons h .nil => .nil
  | _, _, .cons h (.cons h2 t) => .cons h (paired_drop (.cons h2 t))
def spCells (K : PySem.W.Frag) : Sp := fun vs H Q _ => ∃ (p : Addr) (rs : List Addr) (t : List (List Int)) (n : Nat) (r0 : List Int), vs = [.ref p] ∧ Tab H p rs t ∧ t[0]? = some r0 ∧ r0.length = n ∧ t.length ≤ 100 ∧ n ≤ 100 ∧ ∀ p' H' vs, Same H H' → H p' = none → H' p' = some (.lst vs) → Paired (CellAt H') vs (cellsOf t.length n).dropLast → Q (.ref p') H'
end K3

namespace K3
theorem CellAt.bm {s : Addr} {H H' : Hp} (hs : Src H s) (e : BM [s] H H') {v : V} {c : Nat × Nat} (h : CellAt H v c) : CellAt H' v c := by
  obtain ⟨a, h1, h2⟩ := h
  refine ⟨a, h1, e.at h2 ?_⟩
  intro z
  obtain ⟨x, y, w, hs⟩ := hs
  rw [List.mem_singleton.mp z, hs] at h2
  cases h2
theorem ix_nat {n j : Nat} (h : j < n) : seqIndex? (j : Int) n = some j := by
  have e : ixN n (j : Int) = some j := by
    unfold ixN
    rw [if_pos (by omega), if_pos (by omega)]
    simp
  exact (ixN_seq e).1
theorem paired_erase {α β : Type} {F : α → β → Prop} : ∀ {xs : List α} {ys : List β}, Paired F xs ys → ∀ k, Paired F (xs.eraseIdx k) (ys.eraseIdx k)
  | _, _, .nil, _ => .nil
  | _, _, .cons h t, 0 => t
  | _, _, .cons h t, k + 1 => .cons h (paired_erase t k)
/-- the first list's elements that are drawn out of it -/
def spSample (K : PySem.W.Frag) : Sp := fun vs H Q _ => ∃ (s l : Addr) (xs : List V) (cs : List (Nat × Nat)) (n : Nat), vs = [.ref s, .ref l, .int (n : Int)] ∧ Src H s ∧ H l = some (.lst xs) ∧ Paired (CellAt H) xs cs ∧ n ≤ xs.length ∧ xs.length ≤ 100000 ∧
  ∀ p H' ws hs, H p = none → BM [s] H H' → Src H' s → H' p = some (.lst ws) → Paired (CellAt H') ws hs → (∀ h ∈ hs, h ∈ cs) → hs.length = n → Q (.ref p) H'
def spGrid (K : PySem.W.Frag) : Sp := fun vs H Q _ => ∃ (s : Addr), vs = [.ref s] ∧ Src H s ∧ ∀ p H' rs t k, BM [s] H H' → Src H' s → New H p rs → Tab H' p rs (withSums k t) → (∀ r ∈ t, r.length = k ∧ ∀ x ∈ r, 0 ≤ x) → 1 ≤ k → k ≤ 5 → 1 ≤ t.length → t.length ≤ 5 → Q (.ref p) H'
theorem BM.same {M : List Addr} {H H1 H2 : Hp} (a : BM M H H1) (b : Same H1 H2) : BM M H H2 := a.trans (BM.of b)
theorem BM.mut {M : List Addr} {H H' : Hp} {p : Addr} {o : HO} (e : BM M H H') (h : H p = none) : BM M H (L2.upd H' p o) := fun b u hb => by
  obtain ⟨o', h1, h2⟩ := e b u hb
  exact ⟨o', by rw [upd_ne (fun z => by rw [z, h] at hb; cases hb)]; exact h1, h2⟩
theorem src_ne {H : Hp} {s p : Addr} (hs : Src H s) (hp : H p = none) : p ≠ s := fun z => by
  obtain ⟨_, _, _, hs⟩ := hs
  rw [← z, hp] at hs
  cases hs
theorem Src.upd {H : Hp} {s p : Addr} (hs : Src H s) (ne : p ≠ s) (o : HO) : Src (L2.upd H p o) s := let ⟨a, b, c, h⟩ := hs; ⟨a, b, c, by rw [upd_ne ne.symm]; exact h⟩
def scGrow : Scope := { kind := .function, names := [(".0", .local), ("_law_row", .local), ("range", .globalImplicit), ("_law_count", .cell), ("_law_limit", .cell), ("_law_rng_here", .cell)], isGenerator := false, isCoroutine := false }
end K3

namespace K3
theorem w_eqI {i j : Int} {H : Hp} {Q : VK} (h : Q (.bl (decide (V.int i = V.int j))) H) : rEq (.int i) (.int j) H Q := ⟨rfl, h⟩
theorem decV {i j : Int} : decide (V.int i = V.int j) = decide (i = j) := by
  by_cases h : i = j
  · rw [h]; simp
  · rw [decide_eq_false h, decide_eq_false (fun z => h (V.int.inj z))]
theorem paired_take {α β : Type} {F : α → β → Prop} : ∀ {xs : List α} {ys : List β}, Paired F xs ys → ∀ k, Paired F (xs.take k) (ys.take k)
  | _, _, .nil, k => by rw [List.take_nil, List.take_nil]; exact .nil
  | _, _, .cons h t, 0 => .nil
  | _, _, .cons h t, k + 1 => .cons h (paired_take t k)
/-- what may be hidden cells of a grid of such a shape -/
structure Hid (H : Hp) (p : Addr) (ws : List V) (hs : List (Nat × Nat)) (m n : Nat) : Prop where
  at_ : H p = some (.lst ws)
  cells : Paired (CellAt H) ws hs
  mem : ∀ h ∈ hs, h ∈ (cellsOf m n).dropLast
  len : hs.length ≤ 60
def spHidden (K : PySem.W.Frag) : Sp := fun vs H Q _ => ∃ (s g : Addr) (rs : List Addr) (t : List (List Int)) (n : Nat) (r0 : List Int), vs = [.ref s, .ref g] ∧ Src H s ∧ Tab H g rs t ∧ t[0]? = some r0 ∧ r0.length = n ∧ t.length ≤ 6 ∧ n ≤ 6 ∧
  ∀ p H' ws hs, H p = none → BM [s] H H' → Src H' s → Hid H' p ws hs t.length n → Q (.ref p) H'
end K3

namespace K3
/-! ### a cell among cells -/
def cellD (c : Nat × Nat) : PyData := .tuple [.int (c.1 : Int), .int (c.2 : Int)]
theorem cell_dp {K : PySem.W.Frag} {H : Hp} {v : V} {c : Nat × Nat} (h : CellAt H v c) : Dp K H v (cellD c) := by
  obtain ⟨a, rfl, h⟩ := h
  exact Dp.tup (SqT.of h) (.cons (.int _) (.cons (.int _) .nil))
theorem cells_dp {K : PySem.W.Frag} {H : Hp} : ∀ {ws : List V} {hs : List (Nat × Nat)}, Paired (CellAt H) ws hs → DpAll K H ws (hs.map cellD)
  | _, _, .nil => .nil
  | _, _, .cons h t => .cons (cell_dp h) (cells_dp t)
theorem cell_same (a b : Nat × Nat) : PySem.Spec.same (cellD a) (cellD b) = decide (a = b) := by
  unfold cellD
  obtain ⟨a1, a2⟩ := a
  obtain ⟨b1, b2⟩ := b
  rw [Bool.eq_iff_iff]
  simp [PySem.Spec.same, PySem.Spec.sameAll]
  omega
theorem cell_nomix (a b : Nat × Nat) : SeqAt.noMix (cellD a) (cellD b) = true := rfl
theorem cell_count (c : Nat × Nat) : ∀ hs : List (Nat × Nat), 0 ≤ countIn (cellD c) (hs.map cellD) ∧ (countIn (cellD c) (hs.map cellD) ≠ 0 ↔ c ∈ hs)
  | [] => ⟨Int.le_refl 0, by simp [countIn]⟩
  | h :: hs => by
    obtain ⟨i0, i1⟩ := cell_count c hs
    simp only [List.map_cons, countIn, cell_same, List.mem_cons]
    by_cases e : h = c
    · rw [e]
      simp only [decide_true, if_true]
      exact ⟨by omega, ⟨fun _ => by simp, fun _ => by omega⟩⟩
    · rw [decide_eq_false e]
      simp only [Bool.false_eq_true, if_false]
      refine ⟨by omega, ⟨fun z => .inr (i1.mp (by omega)), fun z => ?_⟩⟩
      rcases z with z | z
      · exact absurd z.symm e
      · have := i1.mpr z
        omega
theorem log_small {n : Nat} (h : n < 1000) : (if (n : Int) = 0 then 0 else (n : Int).natAbs.log2 + 1) ≤ 10 := by
  split
  · exact Nat.zero_le _
  · rename_i h0
    have : n ≠ 0 := fun z => h0 (by rw [z]; rfl)
    have : n.log2 < 10 := (Nat.log2_lt this).mpr (by omega)
    simp only [Int.natAbs_natCast]
    omega
theorem cell_lay (c : Nat × Nat) (h : c.1 < 1000 ∧ c.2 < 1000) : (cellD c).canLay0 = true ∧ (cellD c).depth ≤ 5 ∧ (cellD c).weight ≤ 50 := by
  have l1 := log_small h.1
  have l2 := log_small h.2
  unfold cellD
  refine ⟨rfl, by simp [PyData.depth, PyData.depthAll], ?_⟩
  simp [PyData.weight, PyData.weightAll] at l1 l2 ⊢
  omega
theorem cells_lay : ∀ hs : List (Nat × Nat), (∀ c ∈ hs, c.1 < 1000 ∧ c.2 < 1000) → PyData.canLayAll0 (hs.map cellD) = true ∧ PyData.depthAll (hs.map cellD) ≤ 5 ∧ PyData.weightAll (hs.map cellD) ≤ 100 * hs.length
  | [], _ => by simp [PyData.canLayAll0, PyData.depthAll, PyData.weightAll]
  | h :: hs, k => by
    obtain ⟨a, b, c⟩ := cells_lay hs fun c hc => k c (List.mem_cons_of_mem _ hc)
    obtain ⟨d, e, f⟩ := cell_lay h (k h (List.mem_cons_self ..))
    simp only [List.map_cons, PyData.canLayAll0, PyData.depthAll, PyData.weightAll, List.length_cons]
    refine ⟨by rw [a, d]; rfl, by omega, by omega⟩
theorem list_lay {hs : List (Nat × Nat)} (k : ∀ c ∈ hs, c.1 < 1000 ∧ c.2 < 1000) (n : hs.length ≤ 1000) : (PyData.list (hs.map cellD)).layable0 = true ∧ (PyData.tuple (hs.map cellD)).layable0 = true := by
  obtain ⟨a, b, c⟩ := cells_lay hs k
  have e (d : PyData) (h1 : d.canLay0 = true) (h2 : d.depth ≤ 64) (h3 : d.weight ≤ 2 ^ 20) : d.layable0 = true := by
    unfold PyData.layable0
    rw [h1, decide_eq_true h2, decide_eq_true h3]
    rfl
  constructor
  · refine e _ (by simpa [PyData.canLay0] using a) (by simp only [PyData.depth]; omega) ?_
    simp only [PyData.weight]
    omega
  · refine e _ (by simpa [PyData.canLay0] using a) (by simp only [PyData.depth]; omega) ?_
    simp only [PyData.weight]
    omega
def rNotInC (K : PySem.W.Frag) : R2 := fun x y H Q => ∃ (p : Addr) (ws : List V) (hs : List (Nat × Nat)) (c : Nat × Nat), CellAt H x c ∧ y = .ref p ∧ (SqL K H p ws ∨ SqT K H p ws) ∧ Paired (CellAt H) ws hs ∧ hs.length ≤ 1000 ∧ (∀ h ∈ hs, h.1 < 1000 ∧ h.2 < 1000) ∧ (c.1 < 1000 ∧ c.2 < 1000) ∧ Q (.bl (!decide (c ∈ hs))) H
theorem op_notInC {X : Cx} (hu : X.A.units + 65 < cLine) : OpR X (compareOp .NotIn) (rNotInC X.K) := by
  intro pins s σ H x y v u Q I rx ry ⟨p, ws, hs, c, hc, ey, hp, hw, hn, hb, hcb, q⟩
  obtain ⟨as, ra⟩ := Dp.reads I _ _ _ (cell_dp (K := X.K) hc) rx
  have ll := list_lay hb hn
  have lc : (cellD c).layable0 = true := by
    obtain ⟨a, b, d⟩ := cell_lay c hcb
    unfold PyData.layable0
    rw [a, decide_eq_true (show (cellD c).depth ≤ 64 by omega), decide_eq_true (show (cellD c).weight ≤ 2 ^ 20 by omega)]
    rfl
  have e : decide (countIn (cellD c) (hs.map cellD) ≠ 0) = decide (c ∈ hs) := decide_eq_decide.mpr (cell_count c hs).2
  have nm : ∀ y ∈ hs.map cellD, SeqAt.noMix y (cellD c) = true := fun y hy => by
    obtain ⟨h, _, rfl⟩ := List.mem_map.mp hy
    exact cell_nomix _ _
  rcases hp with hp | hp
  · obtain ⟨bs, rb⟩ := Dp.reads I _ _ _ (by rw [ey]; exact Dp.lst hp (cells_dp hw)) ry
    exact notIn_list_dataS rb ra ll.1 lc hu nm ⟨.bl (!decide (c ∈ hs)), H, I, by rw [e]; exact rfl, q⟩
  · obtain ⟨bs, rb⟩ := Dp.reads I _ _ _ (by rw [ey]; exact Dp.tup hp (cells_dp hw)) ry
    exact PyProof.Rows.notIn_tuple_dataS rb ra ll.2 lc hu nm ⟨.bl (!decide (c ∈ hs)), H, I, by rw [e]; exact rfl, q⟩
theorem Room.units65 {k : Nat} {A : Around} (h : Room k A) : A.units + 65 < cLine := Nat.lt_of_le_of_lt (by omega) h.un
end K3

namespace L2
open PySem PySem.Spec PyProof.Rows
section
variable {X : Cx}
/-- either reading will do -/
theorem pi_or {tg e : Expr} {a b : TI} (ha : PI X tg e a) (hb : PI X tg e b) : PI X tg e (fun σ H R => a σ H R ∨ b σ H R) := ⟨fun pins s σ H R I h => h.elim (ha.run pins s σ H R I) (hb.run pins s σ H R I)⟩
theorem cr_or {f : Value} {a b : List V → Hp → VK → Prop} (ha : CallR X f a) (hb : CallR X f b) : CallR X f (fun xs H Q => a xs H Q ∨ b xs H Q) := fun pins s σ H xs us Q I v h => h.elim (ha pins s σ H xs us Q I v) (hb pins s σ H xs us Q I v)
/-- a statement that is never come to -/
theorem ps_dead {st : Stmt} : PS X st (fun _ _ _ => False) := ⟨fun _ _ _ _ _ _ h => h.elim⟩
end
section
variable {J : It} {n : Nat} {G : Hp → Prop} {Y : Nat → Hp → V → Hp → Prop}
/-- the second source's own loop within a comprehension of two fors -/
def In1 (D : Addr) (g1 : TG) (tt1 : TT) (te : TE) (vs1 : List Nat) (Nx : Hp → Prop) (J1 : It) (σ2 : L2.St) (H4 : Hp) : Prop :=
  ∃ W1 : Nat → Nat → Hp → Prop, (∃ m, W1 0 m H4) ∧ ∀ j k H, W1 j k H →
      (J1.stop j H ∧ Nx H) ∨ (J1.go j H ∧ ∃ Nx1 : Hp → Prop, (∀ H', Nx1 H' → ∃ k', k' < k ∧ W1 (j + 1) k' H') ∧ ∀ x H', J1.yld j H x H' → g1 x (wipe σ2 vs1) H' fun σ3 H5 => wipe σ3 vs1 = wipe σ2 vs1 ∧ tt1 σ3 H5 fun b H6 =>
        if b = true then te σ3 H6 fun y H7 => ∃ acc, H7 D = some (.lst acc) ∧ acc.length < sizeLine ∧ Nx1 (upd H7 D (.lst (acc ++ [y]))) else Nx1 H6)
theorem in1_it (w : Walk J n G Y) {D : Addr} {g1 : TG} {tt1 : TT} {te : TE} {vs1 : List Nat} {Nx : Hp → Prop} {σ2 : L2.St} {H4 : Hp} (Pv : Nat → Hp → Prop) (h0 : Pv 0 H4) (hG : ∀ i H, i ≤ n → Pv i H → G H)
    (hs : ∀ j x H H', j < n → Pv j H → Y j H x H' → g1 x (wipe σ2 vs1) H' fun σ3 H5 => wipe σ3 vs1 = wipe σ2 vs1 ∧ tt1 σ3 H5 fun b H6 =>
        if b = true then te σ3 H6 fun y H7 => ∃ acc, H7 D = some (.lst acc) ∧ acc.length < sizeLine ∧ Pv (j + 1) (upd H7 D (.lst (acc ++ [y]))) else Pv (j + 1) H6)
    (hd : ∀ H, Pv n H → Nx H) : In1 D g1 tt1 te vs1 Nx J σ2 H4 := by
  refine ⟨fun i k H => k = n - i ∧ i ≤ n ∧ Pv i H, ⟨n, rfl, Nat.zero_le _, h0⟩, ?_⟩
  rintro i k H ⟨rfl, hi, p⟩
  by_cases c : i < n
  · exact .inr ⟨w.goes i H c (hG i H hi p), Pv (i + 1), fun _ p' => ⟨n - (i + 1), by omega, rfl, c, p'⟩, fun x H' y => hs i x H H' c p (w.yields i H x H' c (hG i H hi p) y)⟩
  · obtain rfl : i = n := by omega
    exact .inl ⟨w.stops H (hG i H hi p), hd H p⟩
theorem lc2_it (w : Walk J n G Y) {g g1 : TG} {tt tt1 : TT} {wi1 : TI} {te : TE} {vs vs1 : List Nat} {σ : L2.St} {H1 : Hp} {D : Addr} {Qd : Hp → Prop} (Pv : Nat → Hp → Prop) (h0 : Pv 0 (upd H1 D (.lst []))) (hG : ∀ i H, i ≤ n → Pv i H → G H)
    (hs : ∀ i x H H', i < n → Pv i H → Y i H x H' → g x (wipe σ vs) H' fun σ2 H2 => wipe σ2 vs = wipe σ vs ∧ tt σ2 H2 fun b H3 =>
      if b = true then wi1 σ2 H3 fun J1 H4 => In1 D g1 tt1 te vs1 (Pv (i + 1)) J1 σ2 H4 else Pv (i + 1) H3)
    (hd : ∀ H, Pv n H → Qd H) :
    ∃ W : Nat → Nat → Hp → Prop, (∃ m, W 0 m (upd H1 D (.lst []))) ∧ ∀ i m H, W i m H →
  (J.stop i H ∧ Qd H) ∨ (J.go i H ∧ ∃ Nx : Hp → Prop, (∀ H', Nx H' → ∃ m', m' < m ∧ W (i + 1) m' H') ∧ ∀ x H', J.yld i H x H' → g x (wipe σ vs) H' fun σ2 H2 => wipe σ2 vs = wipe σ vs ∧ tt σ2 H2 fun b H3 =>
    if b = true then wi1 σ2 H3 fun J1 H4 => In1 D g1 tt1 te vs1 Nx J1 σ2 H4 else Nx H3) := by
  refine ⟨fun i k H => k = n - i ∧ i ≤ n ∧ Pv i H, ⟨n, rfl, Nat.zero_le _, h0⟩, ?_⟩
  rintro i k H ⟨rfl, hi, p⟩
  by_cases c : i < n
  · exact .inr ⟨w.goes i H c (hG i H hi p), Pv (i + 1), fun _ p' => ⟨n - (i + 1), by omega, rfl, c, p'⟩, fun x H' y => hs i x H H' c p (w.yields i H x H' c (hG i H hi p) y)⟩
  · obtain rfl : i = n := by omega
    exact .inl ⟨w.stops H (hG i H hi p), hd H p⟩
theorem lc2_open {wi wi1 : TI} {g g1 : TG} {tt tt1 : TT} {te : TE} {vs vs1 : List Nat} {σ : L2.St} {H : Hp} {Q : VK} (h : wi σ H fun J H1 => ∀ D, H1 D = none → ∃ W : Nat → Nat → Hp → Prop, (∃ m, W 0 m (upd H1 D (.lst []))) ∧ ∀ i m H, W i m H →
  (J.stop i H ∧ Q (.ref D) H) ∨ (J.go i H ∧ ∃ Nx : Hp → Prop, (∀ H', Nx H' → ∃ m', m' < m ∧ W (i + 1) m' H') ∧ ∀ x H', J.yld i H x H' → g x (wipe σ vs) H' fun σ2 H2 => wipe σ2 vs = wipe σ vs ∧ tt σ2 H2 fun b H3 =>
    if b = true then wi1 σ2 H3 fun J1 H4 => In1 D g1 tt1 te vs1 Nx J1 σ2 H4 else Nx H3)) : tLc2 wi g tt wi1 g1 tt1 te vs vs1 σ H Q := h
end
end L2
namespace K3
def Rect (t : List (List Int)) (m n : Nat) : Prop := t.length = m ∧ ∀ r ∈ t, r.length = n
def at2 (t : List (List Int)) (i j : Nat) : Int := (t.getD i []).getD j 0
theorem row_of {H : Hp} {g : Addr} {rs : List Addr} {t : List (List Int)} (ht : Tab H g rs t) {i : Nat} (hi : i < t.length) : ∃ a r, rs[i]? = some a ∧ t[i]? = some r ∧ H a = some (.lst (r.map V.int)) := by
  have l := ht.rows.length
  obtain ⟨r, hr, hx⟩ := K3.Paired.get ht.rows (i := i) (x := rs[i]'(by omega)) (List.getElem?_eq_getElem _)
  exact ⟨_, r, List.getElem?_eq_getElem _, hr, hx⟩
theorem at2_of {t : List (List Int)} {i j : Nat} {r : List Int} (h : t[i]? = some r) : at2 t i j = r.getD j 0 := by
  unfold at2
  have e : t.getD i [] = r := by rw [List.getD_eq_getElem?_getD, h]; rfl
  rw [e]
theorem ref_at {rs : List Addr} {i : Nat} {a : Addr} (h : rs[i]? = some a) : atI (rs.map V.ref) (i : Int) = some (.ref a) := atI_nat (by rw [List.getElem?_map, h]; rfl)
theorem w_gtup {K : PySem.W.Frag} {n : Nat} {t : TGs} {a : Addr} {xs : List V} {σ : L2.St} {H : Hp} {Q : L2.St → Hp → Prop} (h1 : SqT K H a xs) (h2 : xs.length = n) (h : t xs σ H Q) : gTup K n t (.ref a) σ H Q := ⟨a, xs, rfl, h1, h2, h⟩
end K3
end C1_part
section E1_part
set_option Elab.async false
set_option linter.all false
set_option maxRecDepth 100000
set_option maxHeartbeats 1000000
set_option pp.deepTerms.threshold 5
open PySem PySem.Spec PyProof.Rows L2
/-- go on as far as nothing is open -/
local macro_rules | `(tactic| walk_at "go") => `(tactic| repeat (first
  | with_reducible refine w_seq ?_ | with_reducible refine w_next ?_ | with_reducible refine w_set ?_ | with_reducible refine w_drop ?_ | with_reducible refine w_ret ?_ | with_reducible refine w_retN ?_
  | with_reducible refine w_if ?_ | ((with_reducible refine' w_var ?hv ?_); (case hv => exact rfl)) | with_reducible refine w_c ?_ | with_reducible refine w_nil ?_ | with_reducible refine w_cons ?_ | with_reducible refine w_op ?_ | with_reducible refine w_un ?_
  | with_reducible refine w_test ?_ | with_reducible refine w_tB ?_ | with_reducible refine w_not ?_ | with_reducible refine w_and ?_ | with_reducible refine w_or ?_ | with_reducible refine w_bl ?_
  | with_reducible refine w_andV ?_ | with_reducible refine w_orV ?_ | with_reducible refine w_notV ?_ | with_reducible refine w_ifE ?_ | with_reducible refine w_chain ?_ | with_reducible refine w_i0 ?_
  | with_reducible refine w_call ?_ | with_reducible refine w_callS ?_ | with_reducible refine w_cB ?_ | with_reducible refine w_tup ?_ | with_reducible refine w_lst ?_ | with_reducible refine w_fldV ?_
  | with_reducible refine w_neF ?_ | with_reducible refine w_neT ?_ | with_reducible refine w_notN ?_ | with_reducible refine w_isN ?_ | with_reducible refine w_gname ?_ | with_reducible refine w_gsub ?_ | with_reducible refine w_asg ?_ | with_reducible refine w_sl ?_ | with_reducible refine w_noP ?_ | with_reducible refine w_int1 ?_ | with_reducible refine w_part ?_ | with_reducible refine w_yes ?_ | with_reducible refine w_nT ?_ | with_reducible refine w_nF ?_ | with_reducible refine w_iteT ?_ | with_reducible refine w_iteF ?_))
namespace L2
open PySem PySem.Spec PyProof.Rows
/-! ### a list or a tuple -/
def SqB (K : PySem.W.Frag) (H : Hp) : Bool → Addr → List V → Prop
  | false => SqL K H
  | true => SqT K H
def SqE (K : PySem.W.Frag) (H : Hp) (a : Addr) (xs : List V) : Prop := ∃ b, SqB K H b a xs
theorem SqE.either {K : PySem.W.Frag} {H : Hp} {a : Addr} {xs : List V} : SqE K H a xs → SqL K H a xs ∨ SqT K H a xs
  | ⟨false, h⟩ => .inl h
  | ⟨true, h⟩ => .inr h
theorem SqB.same {K : PySem.W.Frag} {H H' : Hp} {a : Addr} {xs : List V} (e : Same H H') : ∀ {b : Bool}, SqB K H b a xs → SqB K H' b a xs
  | false, h => e.seq h
  | true, h => e.sqt h
theorem SqE.same {K : PySem.W.Frag} {H H' : Hp} {a : Addr} {xs : List V} (h : SqE K H a xs) (e : Same H H') : SqE K H' a xs := h.imp fun _ z => z.same e
theorem SqE.lst {K : PySem.W.Frag} {H : Hp} {a : Addr} {xs : List V} (h : H a = some (.lst xs)) : SqE K H a xs := ⟨false, SqL.of h⟩
theorem SqE.tup {K : PySem.W.Frag} {H : Hp} {a : Addr} {xs : List V} (h : H a = some (.tup xs)) : SqE K H a xs := ⟨true, SqT.of h⟩
def ItB (K : PySem.W.Frag) : Bool → Addr → It
  | false => Itl K
  | true => Itt K
theorem walk_B {K : PySem.W.Frag} {a : Addr} {xs : List V} : ∀ {b : Bool}, Walk (ItB K b a) xs.length (fun H => SqB K H b a xs) (YAt xs)
  | false => walk_list
  | true => walk_tup
def iSeq (K : PySem.W.Frag) (tl : TE) : TI := fun σ H R => tl σ H fun x H1 => ∃ a b, x = .ref a ∧ (∃ xs, SqB K H1 b a xs) ∧ R (ItB K b a) H1
theorem seqI_open {K : PySem.W.Frag} {tl : TE} {σ : L2.St} {H : Hp} {R : It → Hp → Prop} (h : tl σ H fun x H1 => ∃ a b, x = .ref a ∧ (∃ xs, SqB K H1 b a xs) ∧ R (ItB K b a) H1) : iSeq K tl σ H R := h
section
variable {X : Cx} {tg l : Expr} {tl : TE}
theorem pi_seq (hl : PE X l tl) : PI X tg l (iSeq X.K tl) := by
  constructor
  intro pins s σ H R I h
  refine thn (hl.run pins s σ H _ I h) ?_
  rintro v s1 ⟨x, H1, I1, r1, a, b, rfl, ⟨xs, hq⟩, q⟩
  cases r1
  have kept : ∀ o : Obj, Inv X pins σ H1 { s1 with heap := s1.heap.push o, toks := s1.toks } := fun o => I1.kept fun b u e => Heap.get?_push_of_some o e
  have out : ∀ b ∈ [s1.heap.objs.size], _ := fun b hb => by
    obtain rfl := List.mem_singleton.mp hb
    exact I1.fpOk (Nat.le_refl _) (I1.hok.fresh (Nat.le_refl _))
  cases b with
  | false =>
    obtain ⟨its, _, p, _⟩ := I1.list hq
    exact wpAny_pyIter_list p.isList ⟨s1.heap.objs.size, [s1.heap.objs.size], _, _, H1, rfl, kept _, turn_list a _, ⟨_, Heap.get?_push_size _ rfl, rfl, rfl⟩, out, q⟩
  | true =>
    obtain ⟨its, _, p, _⟩ := I1.tuple hq
    exact wpAny_pyIter_tuple (show s1.heap.IsTuple a its.toArray from p) ⟨s1.heap.objs.size, [s1.heap.objs.size], _, _, H1, rfl, kept _, turn_tuple a _, ⟨_, Heap.get?_push_size _ rfl, rfl, rfl⟩, out, q⟩
def rIxE (K : PySem.W.Frag) : R2 := fun x y H Q => rIxL K x y H Q ∨ rIxT K x y H Q
theorem ix_e : IxR X (rIxE X.K) := by
  intro value slice pins s σ H x y v u Q I rx ry h hs
  rcases h with h | h
  · exact ix_list value slice pins s σ H x y v u Q I rx ry h hs
  · exact ix_tup value slice pins s σ H x y v u Q I rx ry h hs
theorem w_ixE {K : PySem.W.Frag} {H : Hp} {p : Addr} {xs : List V} {i : Int} {v : V} {Q : VK} (h : SqE K H p xs) (ha : atI xs i = some v) (q : Q v H) : rIxE K (.ref p) (.int i) H Q := by
  rcases h.either with h | h
  · exact .inl ⟨p, xs, i, v, rfl, rfl, h, ha, q⟩
  · exact .inr ⟨p, xs, i, v, rfl, rfl, h, ha, q⟩
/-- sum of a list or a tuple of ints -/
def rSumE (K : PySem.W.Frag) : List V → Hp → VK → Prop := fun vs H Q => ∃ (a : Addr) (ns : List Int), vs = [V.ref a] ∧ SqE K H a (ns.map V.int) ∧ Q (.int ns.sum) H
theorem cr_sumE (hc : X.calm = true) : CallR X (.builtin "sum") (rSumE X.K) := by
  intro pins s σ H vs us Q I r ⟨a, ns, e, ⟨b, hs⟩, q⟩
  subst e
  cases b with
  | false => exact cr_sum hc pins s σ H _ us Q I r ⟨a, ns, rfl, hs, q⟩
  | true =>
    obtain ⟨its, rv, hl, _⟩ := I.tuple hs
    rw [Vals.ref1 r]
    have hi := rv.ints
    obtain ⟨xs, e⟩ := hi.allInts.items
    have hn : numsOf its.toArray.toList = ns := by rw [show its.toArray.toList = its from rfl, hi.numsOf]
    have hl : s.heap.IsTuple a its.toArray := hl
    rw [e] at hl hn
    rw [nums_intItems] at hn
    refine PySem.W.ktm_sumG (I.ok.hd hc) hl fun h' tk t' hk => ?_
    rw [preSum_eq, List.take_of_length_le (by simp), hn]
    exact ⟨.int _, H, I.kept hk, ⟨_, rfl⟩, q⟩
end
/-- a comprehension over items of which something is known: each gives a value of its own -/
theorem items_atE {K : PySem.W.Frag} {α : Type} {F : Hp → V → α → Prop} (mono : ∀ {H H' : Hp} {v : V} {y : α}, Same H H' → F H v y → F H' v y) {a D : Addr} {xs : List V} {ys : List α} {te : TE} {vs : List Nat} {σ : L2.St} {j : Nat} {H1 : Hp} {b : Bool} {Qd : Hp → Prop} (f : α → V)
    (hs : SqB K H1 b a xs) (hp : Paired (F H1) xs ys) (hD : H1 D = none) (hlen : xs.length ≤ 10000) (hw : ∀ x, wipe ((wipe σ vs).set j (some x)) vs = wipe σ vs)
    (he : ∀ (v : V) (y : α) (H' : Hp), Same H1 H' → y ∈ ys → F H' v y → ∀ Q : VK, (∀ H'', Same H' H'' → Q (f y) H'') → te ((wipe σ vs).set j (some v)) H' Q)
    (hd : ∀ H', Same H1 H' → H' D = some (.lst (ys.map f)) → Qd H') :
    ∃ W : Nat → Nat → Hp → Prop, (∃ m, W 0 m (upd H1 D (.lst []))) ∧ ∀ i m H, W i m H →
    ((ItB K b a).stop i H ∧ Qd H) ∨ ((ItB K b a).go i H ∧ ∃ Nx : Hp → Prop, (∀ H', Nx H' → ∃ m', m' < m ∧ W (i + 1) m' H') ∧ ∀ x H', (ItB K b a).yld i H x H' → gName j x (wipe σ vs) H' fun σ2 H2 =>
      wipe σ2 vs = wipe σ vs ∧ tYes σ2 H2 fun b H3 => if b = true then te σ2 H3 fun y H4 => ∃ acc, H4 D = some (.lst acc) ∧ acc.length < sizeLine ∧ Nx (upd H4 D (.lst (acc ++ [y]))) else Nx H3) := by
  refine lc_it (walk_B (K := K) (a := a) (xs := xs) (b := b)) (fun i H' => Same H1 H' ∧ H' D = some (.lst ((ys.take i).map f))) ⟨Same.new hD _, upd_same⟩ (fun i H' _ z => hs.same z.1) ?_ ?_
  · rintro i x H2 H2' hi ⟨e2, hD2⟩ ⟨rfl, hx⟩
    obtain ⟨y, hy, hF⟩ := K3.Paired.get hp hx
    refine ⟨hw x, ?_⟩
    refine w_yes ?_
    refine iteT ?_
    refine he x y H2' e2 (List.mem_of_getElem? hy) (mono e2 hF) _ fun H3 e3 => ?_
    refine ⟨_, e3 _ _ hD2, ?_, (e2.trans e3).mut hD, ?_⟩
    · refine Nat.lt_of_le_of_lt (show _ ≤ 10000 from ?_) (by decide)
      rw [List.length_map, List.length_take, ← hp.length]
      omega
    · rw [upd_same, List.take_add_one, hy, List.map_append]
      rfl
  · rintro H2 ⟨e2, hD2⟩
    refine hd H2 e2 ?_
    rw [hD2, hp.length, List.take_length]
end L2
namespace K3
/-- a grid: lists of lists, tuples of tuples, or both -/
structure GT (K : PySem.W.Frag) (H : Hp) (g : Addr) (rs : List Addr) (t : List (List Int)) : Prop where
  at_ : SqE K H g (rs.map V.ref)
  rows : Paired (fun r row => SqE K H r (row.map V.int)) rs t
theorem GT.same {K : PySem.W.Frag} {H H' : Hp} {g : Addr} {rs : List Addr} {t : List (List Int)} (h : GT K H g rs t) (e : Same H H') : GT K H' g rs t := ⟨h.at_.same e, L2.Paired.mapP h.rows fun _ _ z => z.same e⟩
theorem Tab.gt {K : PySem.W.Frag} {H : Hp} {g : Addr} {rs : List Addr} {t : List (List Int)} (h : Tab H g rs t) : GT K H g rs t := ⟨.lst h.at_, L2.Paired.mapP h.rows fun _ _ z => .lst z⟩
theorem row_ofG {K : PySem.W.Frag} {H : Hp} {g : Addr} {rs : List Addr} {t : List (List Int)} (ht : GT K H g rs t) {i : Nat} (hi : i < t.length) : ∃ a r, rs[i]? = some a ∧ t[i]? = some r ∧ SqE K H a (r.map V.int) := by
  have l := ht.rows.length
  obtain ⟨r, hr, h⟩ := K3.Paired.get ht.rows (List.getElem?_eq_getElem (show i < rs.length by omega))
  exact ⟨_, r, List.getElem?_eq_getElem (by omega), hr, h⟩
def RowE (K : PySem.W.Frag) (H : Hp) (v : V) (r : List Int) : Prop := ∃ a, v = .ref a ∧ SqE K H a (r.map V.int)
theorem RowE.same {K : PySem.W.Frag} {H H' : Hp} (e : Same H H') {v : V} {r : List Int} (h : RowE K H v r) : RowE K H' v r := let ⟨a, h1, h2⟩ := h; ⟨a, h1, h2.same e⟩
theorem rowE_of {K : PySem.W.Frag} {H : Hp} : ∀ {rs : List Addr} {t : List (List Int)}, Paired (fun r row => SqE K H r (row.map V.int)) rs t → Paired (RowE K H) (rs.map V.ref) t
  | _, _, .nil => .nil
  | _, _, .cons h t => .cons ⟨_, rfl, h⟩ (rowE_of t)
end K3
end E1_part
section P1_part
set_option Elab.async false
set_option linter.all false
set_option maxRecDepth 100000
set_option maxHeartbeats 1000000
set_option pp.deepTerms.threshold 5
open PySem PySem.Spec PyProof.Rows L2
/-- go on as far as nothing is open -/
local macro_rules | `(tactic| walk_at "go") => `(tactic| repeat (first
  | with_reducible refine w_seq ?_ | with_reducible refine w_next ?_ | with_reducible refine w_set ?_ | with_reducible refine w_drop ?_ | with_reducible refine w_ret ?_ | with_reducible refine w_retN ?_
  | with_reducible refine w_if ?_ | ((with_reducible refine' w_var ?hv ?_); (case hv => exact rfl)) | with_reducible refine w_c ?_ | with_reducible refine w_nil ?_ | with_reducible refine w_cons ?_ | with_reducible refine w_op ?_ | with_reducible refine w_un ?_
  | with_reducible refine w_test ?_ | with_reducible refine w_tB ?_ | with_reducible refine w_not ?_ | with_reducible refine w_and ?_ | with_reducible refine w_or ?_ | with_reducible refine w_bl ?_
  | with_reducible refine w_andV ?_ | with_reducible refine w_orV ?_ | with_reducible refine w_notV ?_ | with_reducible refine w_ifE ?_ | with_reducible refine w_chain ?_ | with_reducible refine w_i0 ?_
  | with_reducible refine w_call ?_ | with_reducible refine w_callS ?_ | with_reducible refine w_cB ?_ | with_reducible refine w_tup ?_ | with_reducible refine w_lst ?_ | with_reducible refine w_fldV ?_
  | with_reducible refine w_neF ?_ | with_reducible refine w_neT ?_ | with_reducible refine w_notN ?_ | with_reducible refine w_isN ?_ | with_reducible refine w_gname ?_ | with_reducible refine w_gsub ?_ | with_reducible refine w_asg ?_ | with_reducible refine w_yes ?_ | with_reducible refine w_nT ?_ | with_reducible refine w_nF ?_ | with_reducible refine w_iteT ?_ | with_reducible refine w_iteF ?_))
namespace K3
/-! ### names -/
def lets : Str := "abcdefghijklmnopqrstuvwxyz"
def figs : Str := "0123456789"
def isName (z : Str) : Bool := decide (1 ≤ z.length) && (decide (z.length ≤ 8) && (match z.cps.toList with
  | [] => false
  | c :: r => decide (c ∈ lets.cps.toList) && (c :: r).all fun c => decide (c ∈ lets.cps.toList) || decide (c ∈ figs.cps.toList)))
def spIsName : Sp := fun vs H Q _ => ∃ z : Str, vs = [.str z] ∧ z.length ≤ 1000 ∧ ∀ H', Same H H' → Q (.bl (isName z)) H'
section
variable {P : Program} {w : World} {K : PySem.W.Frag} {mg : Str → Option Value} {base : Heap}
theorem sc_is_name : FnScope ["text", "sign"] ["text"] (defScope s_is_name) := ⟨rfl, rfl, rfl, by decide +kernel, rfl, by decide +kernel, by decide +kernel⟩
theorem ok_is_name (T : Tx K mg) : Ok P w K mg base 1 (He.ga K "is_name") ["text"] spIsName := by
  obtain ⟨fd, F⟩ := T.f_is_name
  refine ⟨fd, F.ok sc_is_name (fun vs H Q E h => ?_) (fun cdv A outer s H vs Q E hr h => ?_), F.bindsN fun _ _ _ _ _ _ us hl => match us, hl with | [_], _ => rfl, F.kp⟩
  · obtain ⟨z, rfl, _⟩ := h
    rfl
  obtain ⟨z, rfl, hz, q⟩ := h
  refine ⟨_, pss_cons (ps_if (pt_not (pt_chain op_le op_le pe_int (pe_callB call_len_str (by rfl) T.z_len PySem.boot_len (pa_cons (pv 0) pa_nil)) (pe_gint T.i_LONGEST_NAME))) (pss_one (ps_ret pe_bl)) pss_nil)
    (pss_one (ps_ret (pe_and (pe_cmpR op_in_sign (pe_ix ix_str (pv 0) pe_int (fun _ _ => rfl)) (pe_gstr T.s_LETTERS) rfl)
      (pe_one (pe_callB (cr_all rfl) (by rfl) T.z_all (by decide +kernel) (pa_cons (pe_lc (own := [("sign", 1)]) (g := gName 1) (by rfl) sc_is_name.nd (pi_str (pv 0)) (blkOk_by (own := [("sign", 1)]) (N := ["text", "sign"]) (sc := defScope s_is_name) (by decide +kernel))
        (fun _ _ _ _ _ => pg_name (i := 1) sc_is_name.nd rfl (Or.inl rfl)) (fun _ _ _ _ _ => pts_nil) (fun _ _ _ _ _ => pe_or (pe_cmpR op_in_sign (pv 1) (pe_gstr T.s_LETTERS) rfl) (pe_one (pe_cmpR op_in_sign (pv 1) (pe_gstr T.s_FIGURES) rfl)))) pa_nil)))))), ?_⟩
  walk_at "go"
  refine ⟨z, rfl, Nat.le_trans hz (by decide), ?_⟩
  walk_at "go"
  have key : ∀ H', Same H H' → ∀ b, isName z = b → Q (.bl b) H' := fun H' e b h => h ▸ q H' e
  by_cases h1 : (1 : Int) ≤ (z.length : Int)
  · rw [decide_eq_true h1]
    walk_at "go"
    by_cases h2 : (z.length : Int) ≤ 8
    · rw [decide_eq_true h2]
      walk_at "go"
      obtain ⟨c, r, hc⟩ : ∃ c r, z.cps.toList = c :: r := by
        cases e : z.cps.toList with
        | nil =>
          have : z.length = 0 := by show z.cps.size = 0; rw [← Array.length_toList, e]; rfl
          omega
        | cons c r => exact ⟨c, r, rfl⟩
      refine ⟨z, 0, c, rfl, rfl, Nat.le_trans hz (by decide), by rw [hc]; exact atI_nat (j := 0) rfl, ?_⟩
      walk_at "go"
      refine ⟨c, lets, rfl, rfl, ?_⟩
      walk_at "go"
      cases h3 : decide (c ∈ lets.cps.toList) with
      | false =>
        walk_at "go"
        refine key _ (Same.refl _) _ ?_
        unfold isName
        rw [hc]
        simp only [h3, Bool.false_and, Bool.and_false]
      | true =>
        walk_at "go"
        refine lc_strF (z := z) (f := fun c => .bl (decide (c ∈ lets.cps.toList) || decide (c ∈ figs.cps.toList))) (fun Q h => w_var rfl h) hz (fun _ => rfl) (fun c H' Q e k => ?_) (fun p H' hp e h => ?_)
        · walk_at "go"
          refine ⟨c, lets, rfl, rfl, ?_⟩
          walk_at "go"
          cases h4 : decide (c ∈ lets.cps.toList) with
          | true =>
            walk_at "go"
            rw [h4] at k
            exact k
          | false =>
            walk_at "go"
            refine ⟨c, figs, rfl, rfl, ?_⟩
            rw [h4] at k
            exact k
        · walk_at "go"
          refine ⟨p, z.cps.toList.map fun c => decide (c ∈ lets.cps.toList) || decide (c ∈ figs.cps.toList), rfl, SqL.of (by rw [h, List.map_map]; rfl), ?_⟩
          refine key _ e _ ?_
          unfold isName
          rw [decide_eq_true (show 1 ≤ z.length by omega), decide_eq_true (show z.length ≤ 8 by omega), hc]
          simp only [h3, Bool.true_and, List.all_map, Function.comp_def, id]
    · rw [decide_eq_false h2]
      walk_at "go"
      refine key _ (Same.refl _) _ ?_
      unfold isName
      rw [decide_eq_false (show ¬ z.length ≤ 8 by omega)]
      simp
  · rw [decide_eq_false h1]
    walk_at "go"
    refine key _ (Same.refl _) _ ?_
    unfold isName
    rw [decide_eq_false (show ¬ 1 ≤ z.length by omega)]
    simp
end
end K3
end P1_part
section P2_part
set_option Elab.async false
set_option linter.all false
set_option maxRecDepth 100000
set_option maxHeartbeats 1000000
set_option pp.deepTerms.threshold 5
open PySem PySem.Spec PyProof.Rows L2
/-- go on as far as nothing is open -/
local macro_rules | `(tactic| walk_at "go") => `(tactic| repeat (first
  | with_reducible refine w_seq ?_ | with_reducible refine w_next ?_ | with_reducible refine w_set ?_ | with_reducible refine w_drop ?_ | with_reducible refine w_ret ?_ | with_reducible refine w_retN ?_
  | with_reducible refine w_if ?_ | ((with_reducible refine' w_var ?hv ?_); (case hv => exact rfl)) | with_reducible refine w_c ?_ | with_reducible refine w_nil ?_ | with_reducible refine w_cons ?_ | with_reducible refine w_op ?_ | with_reducible refine w_un ?_
  | with_reducible refine w_test ?_ | with_reducible refine w_tB ?_ | with_reducible refine w_not ?_ | with_reducible refine w_and ?_ | with_reducible refine w_or ?_ | with_reducible refine w_bl ?_
  | with_reducible refine w_andV ?_ | with_reducible refine w_orV ?_ | with_reducible refine w_notV ?_ | with_reducible refine w_ifE ?_ | with_reducible refine w_chain ?_ | with_reducible refine w_i0 ?_
  | with_reducible refine w_call ?_ | with_reducible refine w_callS ?_ | with_reducible refine w_cB ?_ | with_reducible refine w_tup ?_ | with_reducible refine w_lst ?_ | with_reducible refine w_fldV ?_
  | with_reducible refine w_neF ?_ | with_reducible refine w_neT ?_ | with_reducible refine w_notN ?_ | with_reducible refine w_isN ?_ | with_reducible refine w_gname ?_ | with_reducible refine w_gsub ?_ | with_reducible refine w_asg ?_ | with_reducible refine w_yes ?_ | with_reducible refine w_nT ?_ | with_reducible refine w_nF ?_ | with_reducible refine w_iteT ?_ | with_reducible refine w_iteF ?_))
namespace K3
/-! ### the refusals -/
theorem and2 {a b : Bool} (h : (a && b) = true) : a = true ∧ b = true := Bool.and_eq_true_iff.mp h
section
variable {K : PySem.W.Frag} {mg : Str → Option Value}
theorem oexcB_ok {C : Addr} (h : oexcB K C = true) : ∃ nm q N bs bm sn sub ab col dd k0 k1 k2 k3 k5, K.lookup C = some (excClassObj nm q C N bs bm true sn sub ab col dd k0 k1 k2 k3 k5 "ValueError.__new__") ∧ PySem.HandSPX.refsVE bm = true := by
  unfold oexcB at h
  split at h
  · rename_i dd cd sl ho
    split at h
    · rename_i C' bm k0 k1 k2 k3 n k5 hm hs
      simp only [Bool.and_eq_true, beq_iff_eq, Bool.not_eq_true'] at h
      obtain ⟨rfl, rfl, hdel, hhd, ht⟩ := h
      obtain ⟨nm, bs, mro, ns, qn, hd, sn, sub, ab, col, del⟩ := cd
      dsimp only at hm hdel hhd
      subst hm hdel hhd
      have hsl : sl = #[k0, k1, k2, k3, some (.builtin "ValueError.__new__"), k5] := by
        obtain ⟨l⟩ := sl
        simp only at hs
        rw [hs]
      subst hsl
      exact ⟨nm, qn, ns, bs, bm, sn, sub, ab, col, dd, k0, k1, k2, k3, k5, ho, ht⟩
    · cases h
  · cases h
/-- what K says of the error class x -/
structure ErrC (K : PySem.W.Frag) (x : Str) : Prop where
  o : OexC K (He.ga K x)
  f : XfC K (He.ga K x)
  k : kclsB K (He.ga K x) = true
  m : PySem.W.exmOne K (.ref (He.ga K x)) (.ref (He.ga K "HallError")) = some true
  v : PySem.W.kitOne K (.ref (He.ga K x)) (.type "ValueError") = some true
  i : ∀ y ∈ errN, PySem.W.kitOne K (.ref (He.ga K x)) (.ref (He.ga K y)) = some (x == y)
theorem Tx.err (T : Tx K mg) {x : Str} (hx : x ∈ errN) : ErrC K x := by
  have e := (and2 (and2 T.e).2).1
  have q := List.all_eq_true.mp e x hx
  obtain ⟨q1, q⟩ := and2 q
  obtain ⟨q2, q⟩ := and2 q
  obtain ⟨q3, q⟩ := and2 q
  obtain ⟨q4, q5⟩ := and2 q
  obtain ⟨r1, r⟩ := and2 (show (oexcB K (He.ga K x) && _) = true from q1)
  obtain ⟨r2, r⟩ := and2 r
  obtain ⟨r3, r⟩ := and2 r
  obtain ⟨r4, r5⟩ := and2 r
  have X := xfB_ok r5
  exact ⟨⟨oexcB_ok r1, eqB_ok r2, X.exC, eqB_ok r3, r4⟩, X, q2, eqB_ok q3, eqB_ok q4, fun y hy => eqB_ok (List.all_eq_true.mp q5 y hy)⟩
end
/-- an exception of the error class x, with these fields -/
def Err (K : PySem.W.Frag) (x : Str) (fs : List (Str × V)) (cls : Value) (d : Option Addr) (H : Hp) : Prop := cls = .ref (He.ga K x) ∧ ∃ dd, d = some dd ∧ H dd = some (.xd fs)
/-- __init__(self, f) of an error class -/
def spE1 (K : PySem.W.Frag) (x f : Str) : Sp := fun vs H Q _ => ∃ (a : Addr) (v : V), vs = [.ref a, v] ∧ H a = some (exo a (He.ga K x) none) ∧
  ∀ dx, H dx = none → dx ≠ a → Q .non (upd (upd H dx (exd dx [(f, v)])) a (exo a (He.ga K x) (some dx)))
def spE2 (K : PySem.W.Frag) (x f g : Str) : Sp := fun vs H Q _ => ∃ (a : Addr) (v u : V), vs = [.ref a, v, u] ∧ H a = some (exo a (He.ga K x) none) ∧
  ∀ dx, H dx = none → dx ≠ a → Q .non (upd (upd (upd H dx (exd dx [(f, v)])) a (exo a (He.ga K x) (some dx))) dx (exd dx [(g, u), (f, v)]))
/-- what the making of it asks: all that was tracked stands, its dict is new -/
def gErr1 (K : PySem.W.Frag) (x f : Str) (v : V) (H1 : Hp) (Q : XK) : Prop := [v].length ≤ 1000 ∧ ∀ a, H1 a = none → spE1 K x f (.ref a :: ([v] ++ [])) (upd H1 a (exo a (He.ga K x) none))
  (fun u H2 => u = .non ∧ ∃ (d : Addr) (fs : List (Str × V)), H2 a = some (exo a (He.ga K x) (some d)) ∧ H2 d = some (exd d fs) ∧ H1 d = none ∧ Q (.ref (He.ga K x)) (some d) (upd (del H2 a) d (.xd fs))) (fun _ _ _ => False)
def gErr2 (K : PySem.W.Frag) (x f g : Str) (v u : V) (H1 : Hp) (Q : XK) : Prop := [v, u].length ≤ 1000 ∧ ∀ a, H1 a = none → spE2 K x f g (.ref a :: ([v, u] ++ [])) (upd H1 a (exo a (He.ga K x) none))
  (fun u H2 => u = .non ∧ ∃ (d : Addr) (fs : List (Str × V)), H2 a = some (exo a (He.ga K x) (some d)) ∧ H2 d = some (exd d fs) ∧ H1 d = none ∧ Q (.ref (He.ga K x)) (some d) (upd (del H2 a) d (.xd fs))) (fun _ _ _ => False)
theorem del_none {H : Hp} {a b : Addr} (h : H a = none) (q : H b = none) : (if b = a then none else H b) = (none : Option HO) := by split <;> first | rfl | exact q
theorem gErr1_of {K : PySem.W.Frag} {x f : Str} {v : V} {H : Hp} {Q : XK} (q : ∀ (d : Addr) (H' : Hp), Same H H' → H' d = some (.xd [(f, v)]) → Q (.ref (He.ga K x)) (some d) H') : gErr1 K x f v H Q := by
  refine ⟨(by show 1 ≤ 1000; decide), fun a ha => ⟨a, v, rfl, upd_same, fun dx hd hne => ⟨rfl, dx, [(f, v)], upd_same, by rw [upd_ne hne]; exact upd_same, ?_, ?_⟩⟩⟩
  · rw [upd_ne hne] at hd
    exact hd
  · rw [upd_ne hne] at hd
    refine q dx _ (fun b o hb => ?_) upd_same
    rw [upd_ne (ne_of_none hb hd), del_ne (ne_of_none hb ha), upd_ne (ne_of_none hb ha), upd_ne (ne_of_none hb hd), upd_ne (ne_of_none hb ha)]
    exact hb
theorem gErr2_of {K : PySem.W.Frag} {x f g : Str} {v u : V} {H : Hp} {Q : XK} (q : ∀ (d : Addr) (H' : Hp), Same H H' → H' d = some (.xd [(g, u), (f, v)]) → Q (.ref (He.ga K x)) (some d) H') : gErr2 K x f g v u H Q := by
  refine ⟨(by show 2 ≤ 1000; decide), fun a ha => ⟨a, v, u, rfl, upd_same, fun dx hd hne => ⟨rfl, dx, [(g, u), (f, v)], by rw [upd_ne (Ne.symm hne)]; exact upd_same, upd_same, ?_, ?_⟩⟩⟩
  · rw [upd_ne hne] at hd
    exact hd
  · rw [upd_ne hne] at hd
    refine q dx _ (fun b o hb => ?_) upd_same
    rw [upd_ne (ne_of_none hb hd), del_ne (ne_of_none hb ha), upd_ne (ne_of_none hb hd), upd_ne (ne_of_none hb ha), upd_ne (ne_of_none hb hd), upd_ne (ne_of_none hb ha)]
    exact hb
def tErr1 (K : PySem.W.Frag) (x f : Str) (te : TE) (W : WX) : TS := fun _ σ H => te σ H fun v H1 => gErr1 K x f v H1 fun cls d H' => W cls d σ H'
def tErr2 (K : PySem.W.Frag) (x f g : Str) (te tu : TE) (W : WX) : TS := fun _ σ H => te σ H fun v H1 => tu σ H1 fun u H2 => gErr2 K x f g v u H2 fun cls d H' => W cls d σ H'
theorem w_err1 {K : PySem.W.Frag} {x f : Str} {te : TE} {W : WX} {D : Ends} {σ : L2.St} {H : Hp} (h : te σ H fun v H1 => gErr1 K x f v H1 fun cls d H' => W cls d σ H') : tErr1 K x f te W D σ H := h
theorem w_err2 {K : PySem.W.Frag} {x f g : Str} {te tu : TE} {W : WX} {D : Ends} {σ : L2.St} {H : Hp} (h : te σ H fun v H1 => tu σ H1 fun u H2 => gErr2 K x f g v u H2 fun cls d H' => W cls d σ H') : tErr2 K x f g te tu W D σ H := h
section
variable {X : Cx} {x f g : Str} {k : Nat} {fI : Addr} {p pos pos2 : Pos} {e e2 : Expr} {te te2 : TE} {ta : TA} {ps : List Str} {W : WX}
theorem ps_err1 (C : ErrC X.K x) (iC : Meth X.K (He.ga X.K x) "__init__" fI) (O : Ok X.prog X.w X.K X.mg X.base k fI ps (spE1 X.K x f)) (hr : Room (k + 1) X.A) (hm : X.mg x = some (.ref (He.ga X.K x))) (tk : Takes X W)
    (ha : PE X e te) (hc : X.calm = true := by rfl) (hg : Gl X x := by rfl) (hdb : (x == ("__debug__" : Str)) = false := by decide) (he : starEach (e :: []) X.env = (false, eval e X.env) :: starEach [] X.env := by rfl) (hpl : (backTo pos (starEach [] X.env)).any (·.1) = false := by rfl) :
    PS X (.Raise (some (.Call (.Name x p) [e] [] pos)) none pos2) (tErr1 X.K x f te W) := by
  obtain ⟨fd, F, b, kp⟩ := O.run
  exact ps_raise (pos := pos2) hc tk (pmk_oex (pos := pos) (p := p) C.o iC.at_ (beq_iff_eq.mp iC.fn) F hr b .nil passL hg hm (pa_cons ha pa_nil he) hdb he hpl)
theorem ps_err2 (C : ErrC X.K x) (iC : Meth X.K (He.ga X.K x) "__init__" fI) (O : Ok X.prog X.w X.K X.mg X.base k fI ps (spE2 X.K x f g)) (hr : Room (k + 1) X.A) (hm : X.mg x = some (.ref (He.ga X.K x))) (tk : Takes X W)
    (ha : PE X e te) (ha2 : PE X e2 te2) (hc : X.calm = true := by rfl) (hg : Gl X x := by rfl) (hdb : (x == ("__debug__" : Str)) = false := by decide) (he : starEach (e :: [e2]) X.env = (false, eval e X.env) :: starEach [e2] X.env := by rfl)
    (he2 : starEach (e2 :: []) X.env = (false, eval e2 X.env) :: starEach [] X.env := by rfl) (hpl : (backTo pos (starEach [e2] X.env)).any (·.1) = false := by rfl) :
    PS X (.Raise (some (.Call (.Name x p) [e, e2] [] pos)) none pos2) (tErr2 X.K x f g te te2 W) := by
  obtain ⟨fd, F, b, kp⟩ := O.run
  exact ps_raise (pos := pos2) hc tk (pmk_oex (pos := pos) (p := p) C.o iC.at_ (beq_iff_eq.mp iC.fn) F hr b .nil passL hg hm (pa_cons ha (pa_cons ha2 pa_nil he2) he) hdb he hpl)
end
section
variable {P : Program} {w : World} {K : PySem.W.Frag} {mg : Str → Option Value} {base : Heap}
theorem sc_NoName : FnScope ["self", "name"] ["self", "name"] (defScope s_NoName_init) := ⟨rfl, rfl, rfl, by decide +kernel, rfl, by decide +kernel, by decide +kernel⟩
theorem ok_NoName (T : Tx K mg) : Ok P w K mg base 1 (He.ma K (He.ga K "NoName") "__init__") ["self", "name"] (spE1 K "NoName" "name") := by
  obtain ⟨fd, F⟩ := T.f_NoName_init
  refine ⟨fd, F.ok sc_NoName (fun vs H Q E h => ?_) (fun cdv A outer s H vs Q E hr h => ?_), F.bindsN fun _ _ _ _ _ _ us hl => match us, hl with | [_, _], _ => rfl, F.kp⟩
  · obtain ⟨a, v, rfl, _⟩ := h
    rfl
  obtain ⟨a, v, rfl, ha, q⟩ := h
  refine ⟨_, pss_one (ps_ost (pv 0) (pv 1)), ?_⟩
  exact ⟨_, rfl, _, rfl, a, _, rfl, (T.err (x := "NoName") (by decide)).o, T.n_NoName_name, .inl ⟨ha, fun dx hd hne => q dx hd hne⟩⟩
theorem sc_Twice : FnScope ["self", "name"] ["self", "name"] (defScope s_Twice_init) := ⟨rfl, rfl, rfl, by decide +kernel, rfl, by decide +kernel, by decide +kernel⟩
theorem ok_Twice (T : Tx K mg) : Ok P w K mg base 1 (He.ma K (He.ga K "Twice") "__init__") ["self", "name"] (spE1 K "Twice" "name") := by
  obtain ⟨fd, F⟩ := T.f_Twice_init
  refine ⟨fd, F.ok sc_Twice (fun vs H Q E h => ?_) (fun cdv A outer s H vs Q E hr h => ?_), F.bindsN fun _ _ _ _ _ _ us hl => match us, hl with | [_, _], _ => rfl, F.kp⟩
  · obtain ⟨a, v, rfl, _⟩ := h
    rfl
  obtain ⟨a, v, rfl, ha, q⟩ := h
  refine ⟨_, pss_one (ps_ost (pv 0) (pv 1)), ?_⟩
  exact ⟨_, rfl, _, rfl, a, _, rfl, (T.err (x := "Twice") (by decide)).o, T.n_Twice_name, .inl ⟨ha, fun dx hd hne => q dx hd hne⟩⟩
theorem sc_NoQuestion : FnScope ["self", "name"] ["self", "name"] (defScope s_NoQuestion_init) := ⟨rfl, rfl, rfl, by decide +kernel, rfl, by decide +kernel, by decide +kernel⟩
theorem ok_NoQuestion (T : Tx K mg) : Ok P w K mg base 1 (He.ma K (He.ga K "NoQuestion") "__init__") ["self", "name"] (spE1 K "NoQuestion" "name") := by
  obtain ⟨fd, F⟩ := T.f_NoQuestion_init
  refine ⟨fd, F.ok sc_NoQuestion (fun vs H Q E h => ?_) (fun cdv A outer s H vs Q E hr h => ?_), F.bindsN fun _ _ _ _ _ _ us hl => match us, hl with | [_, _], _ => rfl, F.kp⟩
  · obtain ⟨a, v, rfl, _⟩ := h
    rfl
  obtain ⟨a, v, rfl, ha, q⟩ := h
  refine ⟨_, pss_one (ps_ost (pv 0) (pv 1)), ?_⟩
  exact ⟨_, rfl, _, rfl, a, _, rfl, (T.err (x := "NoQuestion") (by decide)).o, T.n_NoQuestion_name, .inl ⟨ha, fun dx hd hne => q dx hd hne⟩⟩
theorem sc_NoFit : FnScope ["self", "name"] ["self", "name"] (defScope s_NoFit_init) := ⟨rfl, rfl, rfl, by decide +kernel, rfl, by decide +kernel, by decide +kernel⟩
theorem ok_NoFit (T : Tx K mg) : Ok P w K mg base 1 (He.ma K (He.ga K "NoFit") "__init__") ["self", "name"] (spE1 K "NoFit" "name") := by
  obtain ⟨fd, F⟩ := T.f_NoFit_init
  refine ⟨fd, F.ok sc_NoFit (fun vs H Q E h => ?_) (fun cdv A outer s H vs Q E hr h => ?_), F.bindsN fun _ _ _ _ _ _ us hl => match us, hl with | [_, _], _ => rfl, F.kp⟩
  · obtain ⟨a, v, rfl, _⟩ := h
    rfl
  obtain ⟨a, v, rfl, ha, q⟩ := h
  refine ⟨_, pss_one (ps_ost (pv 0) (pv 1)), ?_⟩
  exact ⟨_, rfl, _, rfl, a, _, rfl, (T.err (x := "NoFit") (by decide)).o, T.n_NoFit_name, .inl ⟨ha, fun dx hd hne => q dx hd hne⟩⟩
theorem sc_BadCount : FnScope ["self", "what", "count"] ["self", "what", "count"] (defScope s_BadCount_init) := ⟨rfl, rfl, rfl, by decide +kernel, rfl, by decide +kernel, by decide +kernel⟩
theorem ok_BadCount (T : Tx K mg) : Ok P w K mg base 1 (He.ma K (He.ga K "BadCount") "__init__") ["self", "what", "count"] (spE2 K "BadCount" "what" "count") := by
  obtain ⟨fd, F⟩ := T.f_BadCount_init
  refine ⟨fd, F.ok sc_BadCount (fun vs H Q E h => ?_) (fun cdv A outer s H vs Q E hr h => ?_), F.bindsN fun _ _ _ _ _ _ us hl => match us, hl with | [_, _, _], _ => rfl, F.kp⟩
  · obtain ⟨a, v, u, rfl, _⟩ := h
    rfl
  obtain ⟨a, v, u, rfl, ha, q⟩ := h
  refine ⟨_, pss_cons (ps_ost (pv 0) (pv 1)) (pss_one (ps_ost (pv 0) (pv 2))), ?_⟩
  refine ⟨_, rfl, _, rfl, a, _, rfl, (T.err (x := "BadCount") (by decide)).o, T.n_BadCount_what, .inl ⟨ha, fun dx hd hne => ?_⟩⟩
  refine ⟨_, rfl, _, rfl, a, _, rfl, (T.err (x := "BadCount") (by decide)).o, T.n_BadCount_count, .inr ⟨dx, _, upd_same, by rw [upd_ne hne]; exact upd_same, (by show 1 ≤ 900; decide), ?_⟩⟩
  have := q dx hd hne
  exact this
end
end K3
end P2_part
section P3_part
set_option Elab.async false
set_option linter.all false
set_option maxRecDepth 100000
set_option maxHeartbeats 1000000
set_option pp.deepTerms.threshold 5
open PySem PySem.Spec PyProof.Rows L2
/-- go on as far as nothing is open -/
local macro_rules | `(tactic| walk_at "go") => `(tactic| repeat (first
  | with_reducible refine w_seq ?_ | with_reducible refine w_next ?_ | with_reducible refine w_set ?_ | with_reducible refine w_drop ?_ | with_reducible refine w_ret ?_ | with_reducible refine w_retN ?_
  | with_reducible refine w_if ?_ | ((with_reducible refine' w_var ?hv ?_); (case hv => exact rfl)) | with_reducible refine w_c ?_ | with_reducible refine w_nil ?_ | with_reducible refine w_cons ?_ | with_reducible refine w_op ?_ | with_reducible refine w_un ?_
  | with_reducible refine w_test ?_ | with_reducible refine w_tB ?_ | with_reducible refine w_not ?_ | with_reducible refine w_and ?_ | with_reducible refine w_or ?_ | with_reducible refine w_bl ?_
  | with_reducible refine w_andV ?_ | with_reducible refine w_orV ?_ | with_reducible refine w_notV ?_ | with_reducible refine w_ifE ?_ | with_reducible refine w_chain ?_ | with_reducible refine w_i0 ?_
  | with_reducible refine w_call ?_ | with_reducible refine w_callS ?_ | with_reducible refine w_cB ?_ | with_reducible refine w_tup ?_ | with_reducible refine w_lst ?_ | with_reducible refine w_fldV ?_
  | with_reducible refine w_neF ?_ | with_reducible refine w_neT ?_ | with_reducible refine w_notN ?_ | with_reducible refine w_isN ?_ | with_reducible refine w_gname ?_ | with_reducible refine w_gsub ?_ | with_reducible refine w_asg ?_ | with_reducible refine w_yes ?_ | with_reducible refine w_nT ?_ | with_reducible refine w_nF ?_ | with_reducible refine w_iteT ?_ | with_reducible refine w_iteF ?_))
namespace K3
/-! ### what a form refuses -/
inductive Flt where
  | count (what : Str) (n : Int)
  | name (z : Str)
  | twice (z : Str)
  | quest (z : Str)
  | fit (z : Str)
def IsF (K : PySem.W.Frag) : Flt → Value → Option Addr → Hp → Prop
  | .count w n => Err K "BadCount" [("count", .int n), ("what", .str w)]
  | .name z => Err K "NoName" [("name", .str z)]
  | .twice z => Err K "Twice" [("name", .str z)]
  | .quest z => Err K "NoQuestion" [("name", .str z)]
  | .fit z => Err K "NoFit" [("name", .str z)]
/-- refused by r, or told nothing; all that was tracked stands -/
def End (K : PySem.W.Frag) (r : Option Flt) (H : Hp) (Q : VK) (E : XK) : Prop := match r with
  | none => ∀ H', Same H H' → Q .non H'
  | some f => ∀ cls d H', Same H H' → IsF K f cls d H' → E cls d H'
theorem End.mono {K : PySem.W.Frag} {r : Option Flt} {H H1 : Hp} {Q : VK} {E : XK} (h : End K r H Q E) (s : Same H H1) : End K r H1 Q E := by
  cases r with
  | none => exact fun H' e => h H' (s.trans e)
  | some f => exact fun cls d H' e => h cls d H' (s.trans e)
def nameF (z : Str) : Option Flt := if isName z then none else some (.name z)
def spNoName (K : PySem.W.Frag) : Sp := fun vs H Q E => ∃ z : Str, vs = [.str z] ∧ z.length ≤ 1000 ∧ End K (nameF z) H Q E
/-- the first that stands ahead of it -/
def dupOf : List Str → List Str → Option Str
  | _, [] => none
  | seen, x :: r => if x ∈ seen then some x else dupOf (seen ++ [x]) r
def dupF (os : List Str) : Option Flt := (dupOf [] os).map .twice
def spTwice (K : PySem.W.Frag) : Sp := fun vs H Q E => ∃ (a : Addr) (os : List Str), vs = [.ref a] ∧ SqE K H a (os.map V.str) ∧ os.length ≤ 1000 ∧ End K (dupF os) H Q E
theorem dupOf_take {os : List Str} : ∀ {seen : List Str} {i : Nat} {x : Str}, os[i]? = some x → dupOf seen (os.take i) = none →
    (x ∈ seen ++ os.take i → dupOf seen os = some x) ∧ (x ∉ seen ++ os.take i → dupOf seen (os.take (i + 1)) = none) := by
  induction os with
  | nil => intro seen i x h; simp at h
  | cons a r ih =>
    intro seen i x h hn
    cases i with
    | zero =>
      have e : a = x := by simpa using h
      subst e
      refine ⟨fun m => ?_, fun m => ?_⟩
      · have m' : a ∈ seen := by simpa using m
        unfold dupOf
        rw [if_pos m']
      · have m' : a ∉ seen := by simpa using m
        show dupOf seen [a] = none
        unfold dupOf
        rw [if_neg m'] <;> rfl
    | succ i =>
      have h' : r[i]? = some x := by simpa using h
      have hn' : dupOf seen (a :: r.take i) = none := hn
      unfold dupOf at hn'
      by_cases m : a ∈ seen
      · rw [if_pos m] at hn'
        cases hn'
      · rw [if_neg m] at hn'
        have q := ih h' hn'
        refine ⟨fun mm => ?_, fun mm => ?_⟩
        · unfold dupOf
          rw [if_neg m]
          exact q.1 (by simpa using mm)
        · show dupOf seen (a :: r.take (i + 1)) = none
          unfold dupOf
          rw [if_neg m]
          exact q.2 (by simpa using mm)
/-- which keys are among these texts -/
def inK (l : List Str) : Key → Bool
  | .inl _ => false
  | .inr z => decide (z ∈ l)
theorem inK_nil : inK [] = fun _ => false := by
  funext k
  cases k <;> rfl
section
variable {P : Program} {w : World} {K : PySem.W.Frag} {mg : Str → Option Value} {base : Heap}
theorem sc_refuse_no_name : FnScope ["text"] ["text"] (defScope s_refuse_no_name) := ⟨rfl, rfl, rfl, by decide +kernel, rfl, by decide +kernel, by decide +kernel⟩
theorem ok_refuse_no_name (T : Tx K mg) : Ok P w K mg base 3 (He.ga K "refuse_no_name") ["text"] (spNoName K) := by
  obtain ⟨fd, F⟩ := T.f_refuse_no_name
  refine ⟨fd, F.ok sc_refuse_no_name (fun vs H Q E h => ?_) (fun cdv A outer s H vs Q E hr h => ?_), F.bindsN fun _ _ _ _ _ _ us hl => match us, hl with | [_], _ => rfl, F.kp⟩
  · obtain ⟨z, rfl, _⟩ := h
    rfl
  obtain ⟨z, rfl, hz, q⟩ := h
  refine ⟨_, pss_one (ps_if (pt_not (pt_val (pe_f (ok_is_name T) (hr.mono (by decide)) T.g_is_name (pa_cons (pv 0) pa_nil)))) (pss_one (ps_err1 (T.err (x := "NoName") (by decide)) T.m_NoName_init (ok_NoName T) (hr.mono (by decide)) T.g_NoName (takes_of rfl rfl rfl rfl) (pv 0))) pss_nil), ?_⟩
  walk_at "go"
  refine ⟨z, rfl, hz, fun H' e => ?_⟩
  have q' := q.mono e
  unfold nameF at q'
  cases hb : isName z with
  | true =>
    rw [hb] at q'
    walk_at "go"
    exact q' H' (Same.refl _)
  | false =>
    rw [hb] at q'
    walk_at "go"
    refine w_err1 ?_
    walk_at "go"
    exact gErr1_of fun d H2 e2 h2 => q' _ _ H2 e2 ⟨rfl, d, rfl, h2⟩
theorem sc_refuse_twice : FnScope ["names", "seen", "name"] ["names"] (defScope s_refuse_twice) := ⟨rfl, rfl, rfl, by decide +kernel, rfl, by decide +kernel, by decide +kernel⟩
theorem ok_refuse_twice (T : Tx K mg) : Ok P w K mg base 3 (He.ga K "refuse_twice") ["names"] (spTwice K) := by
  obtain ⟨fd, F⟩ := T.f_refuse_twice
  refine ⟨fd, F.ok sc_refuse_twice (fun vs H Q E h => ?_) (fun cdv A outer s H vs Q E hr h => ?_), F.bindsN fun _ _ _ _ _ _ us hl => match us, hl with | [_], _ => rfl, F.kp⟩
  · obtain ⟨a, os, rfl, _⟩ := h
    rfl
  obtain ⟨a, os, rfl, ⟨bq, ha⟩, hz, q⟩ := h
  refine ⟨_, pss_cons (ps_set (i := 1) sc_refuse_twice.nd rfl (Or.inl rfl) (pe_callTy0 cr_set0K (by rfl) T.z_set (by decide +kernel)))
    (pss_one (ps_for (passes_of rfl) rfl (pi_seq (pv 0)) (pg_name (i := 2) sc_refuse_twice.nd rfl (Or.inl rfl))
      (pss_cons (ps_if (pt_cmpR or_sinK (pv 2) (pv 1) rfl) (pss_one (ps_err1 (T.err (x := "Twice") (by decide)) T.m_Twice_init (ok_Twice T) (hr.mono (by decide)) T.g_Twice (takes_of rfl rfl rfl rfl) (pv 2))) pss_nil)
        (pss_one (ps_expr (pe_saddK (pv 1) (pa_cons (pv 2) pa_nil))))))), ?_⟩
  walk_at "go"
  refine ⟨rfl, fun p hp => ?_⟩
  walk_at "go"
  refine ⟨_, rfl, a, bq, rfl, ⟨_, ha.same (Same.new hp _)⟩, ?_⟩
  refine for_it (walk_B (K := K) (a := a) (xs := os.map V.str) (b := bq)) (fun (i : Nat) σ H' => ∃ v : Option V, σ = [some (.ref a), some (.ref p), v] ∧ Same H H' ∧ dupOf [] (os.take i) = none ∧
    ∃ n : Nat, n ≤ i ∧ H' p = some (SetK P w p (inK (os.take i)) n)) ⟨none, rfl, Same.new hp _, rfl, 0, Nat.le_refl _, by show _ = some (SetK P w p (inK []) 0); rw [inK_nil]; exact upd_same⟩ (fun i σ H' _ ⟨_, _, e, _⟩ => ha.same e) ?_ ?_
  · rintro i x σ H' _ hi0 ⟨v, rfl, e, hd, n, hn, hs⟩ ⟨rfl, hi⟩
    obtain ⟨z, hz', rfl⟩ : ∃ z, os[i]? = some z ∧ x = V.str z := by
      rw [List.getElem?_map] at hi
      cases e : os[i]? with
      | none => rw [e] at hi; cases hi
      | some z => rw [e] at hi; exact ⟨z, rfl, (Option.some.inj hi).symm⟩
    have hlt : i < os.length := (List.getElem?_eq_some_iff.mp hz').1
    have hq := dupOf_take (seen := []) hz' hd
    show tSeq _ _ _ _ _
    walk_at "go"
    refine ⟨Sum.inr z, p, _, n, rfl, rfl, hs, ?_⟩
    walk_at "go"
    by_cases c : z ∈ os.take i
    · rw [show inK (os.take i) (Sum.inr z) = true from decide_eq_true c]
      walk_at "go"
      refine w_err1 ?_
      walk_at "go"
      have q' := q.mono e
      have ed : dupF os = some (.twice z) := by
        unfold dupF
        rw [hq.1 (by simpa using c)] <;> rfl
      rw [ed] at q'
      exact gErr1_of fun d H2 e2 h2 => q' _ _ H2 e2 ⟨rfl, d, rfl, h2⟩
    · rw [show inK (os.take i) (Sum.inr z) = false from decide_eq_false c]
      walk_at "go"
      refine ⟨_, rfl, ?_⟩
      refine ⟨⟨p, _, n, rfl, hs⟩, ?_⟩
      walk_at "go"
      refine ⟨p, Sum.inr z, _, n, rfl, rfl, hs, (by unfold scanBound; omega), ?_⟩
      refine ⟨some (.str z), rfl, e.mut hp, hq.2 (by simpa using c), n + 1, by omega, ?_⟩
      rw [upd_same, show inK (os.take i) (Sum.inr z) = false from decide_eq_false c]
      have ef : (fun j : Key => inK (os.take i) j || decide (j = Sum.inr z)) = inK (os.take (i + 1)) := by
        funext j
        rw [List.take_add_one, hz']
        cases j with
        | inl k => rfl
        | inr y =>
          show (decide (y ∈ os.take i) || decide ((Sum.inr y : Key) = Sum.inr z)) = decide (y ∈ os.take i ++ [z])
          by_cases h1 : y ∈ os.take i <;> by_cases h2 : y = z <;> simp [h1, h2]
      rw [ef] <;> rfl
  · rintro σ H' ⟨v, rfl, e, hd, _⟩
    rw [List.length_map, List.take_length] at hd
    have ed : dupF os = none := by
      unfold dupF
      rw [hd] <;> rfl
    rw [ed] at q
    exact q H' e
end
end K3
end P3_part
section P4_part
set_option Elab.async false
set_option linter.all false
set_option maxRecDepth 100000
set_option maxHeartbeats 1000000
set_option pp.deepTerms.threshold 5
open PySem PySem.Spec PyProof.Rows L2
/-- go on as far as nothing is open -/
local macro_rules | `(tactic| walk_at "go") => `(tactic| repeat (first
  | with_reducible refine w_seq ?_ | with_reducible refine w_next ?_ | with_reducible refine w_set ?_ | with_reducible refine w_drop ?_ | with_reducible refine w_ret ?_ | with_reducible refine w_retN ?_
  | with_reducible refine w_if ?_ | ((with_reducible refine' w_var ?hv ?_); (case hv => exact rfl)) | with_reducible refine w_c ?_ | with_reducible refine w_nil ?_ | with_reducible refine w_cons ?_ | with_reducible refine w_op ?_ | with_reducible refine w_un ?_
  | with_reducible refine w_test ?_ | with_reducible refine w_tB ?_ | with_reducible refine w_not ?_ | with_reducible refine w_and ?_ | with_reducible refine w_or ?_ | with_reducible refine w_bl ?_
  | with_reducible refine w_andV ?_ | with_reducible refine w_orV ?_ | with_reducible refine w_notV ?_ | with_reducible refine w_ifE ?_ | with_reducible refine w_chain ?_ | with_reducible refine w_i0 ?_
  | with_reducible refine w_call ?_ | with_reducible refine w_callS ?_ | with_reducible refine w_cB ?_ | with_reducible refine w_tup ?_ | with_reducible refine w_lst ?_ | with_reducible refine w_fldV ?_
  | with_reducible refine w_neF ?_ | with_reducible refine w_neT ?_ | with_reducible refine w_notN ?_ | with_reducible refine w_isN ?_ | with_reducible refine w_gname ?_ | with_reducible refine w_gsub ?_ | with_reducible refine w_asg ?_ | with_reducible refine w_yes ?_ | with_reducible refine w_nT ?_ | with_reducible refine w_nF ?_ | with_reducible refine w_iteT ?_ | with_reducible refine w_iteF ?_))
namespace K3
/-! ### conditions, rows -/
inductive Cd where
  | is (n o : Str)
  | has (n o : Str)
  | over (n : Str) (k : Int)
  | under (n : Str) (k : Int)
  | no (c : Cd)
  | both (c d : Cd)
  | either (c d : Cd)
inductive Rw where
  | one (n : Str) (os : List Str) (w : Option Cd)
  | some (n : Str) (os : List Str) (w : Option Cd)
  | number (n : Str) (lo hi : Int) (w : Option Cd)
  | check (n : Str) (m : Cd) (w : Option Cd)
  | sect (rs : List Rw) (w : Option Cd)
  | rounds (n : Str) (rs : List Rw) (w : Option Cd)
def Cd.nm : Cd → Str
  | .is _ _ => "Is" | .has _ _ => "Has" | .over _ _ => "Above" | .under _ _ => "Below" | .no _ => "Not" | .both _ _ => "Both" | .either _ _ => "Either"
def Rw.nm : Rw → Str
  | .one _ _ _ => "One" | .some _ _ _ => "Some" | .number _ _ _ _ => "Number" | .check _ _ _ => "Check" | .sect _ _ => "Section" | .rounds _ _ _ => "Rounds"
def Ins (K : PySem.W.Frag) (H : Hp) (a : Addr) (x : Str) (fs : List (Str × V)) : Prop := ∃ dx, H a = some (.ins (He.ga K x) dx fs)
theorem Ins.si {K : PySem.W.Frag} {H H' : Hp} {a : Addr} {x : Str} {fs : List (Str × V)} (h : Ins K H a x fs) (e : SI H H') (k : keepF fs = true := by rfl) : Ins K H' a x fs := let ⟨dx, q⟩ := h; ⟨dx, e _ _ k q⟩
theorem Ins.same {K : PySem.W.Frag} {H H' : Hp} {a : Addr} {x : Str} {fs : List (Str × V)} (h : Ins K H a x fs) (e : Same H H') : Ins K H' a x fs := let ⟨dx, q⟩ := h; ⟨dx, e _ _ q⟩
inductive CO (K : PySem.W.Frag) (H : Hp) : V → Cd → Prop where
  | is {a n o} : Ins K H a "Is" [("name", .str n), ("option", .str o)] → CO K H (.ref a) (.is n o)
  | has {a n o} : Ins K H a "Has" [("name", .str n), ("option", .str o)] → CO K H (.ref a) (.has n o)
  | over {a n k} : False → CO K H (.ref a) (.over n k)
  | under {a n k} : False → CO K H (.ref a) (.under n k)
  | no {a v c} : Ins K H a "Not" [("inner", v)] → CO K H v c → CO K H (.ref a) (.no c)
  | both {a v u c d} : Ins K H a "Both" [("left", v), ("right", u)] → CO K H v c → CO K H u d → CO K H (.ref a) (.both c d)
  | either {a v u c d} : Ins K H a "Either" [("left", v), ("right", u)] → CO K H v c → CO K H u d → CO K H (.ref a) (.either c d)
theorem CO.si {K : PySem.W.Frag} {H H' : Hp} (e : SI H H') : ∀ {c : Cd} {v : V}, CO K H v c → CO K H' v c := by
  intro c v h
  induction h with
  | is h => exact .is (h.si e)
  | has h => exact .has (h.si e)
  | over h => exact h.elim
  | under h => exact h.elim
  | no h _ i => exact .no (h.si e) i
  | both h _ _ i j => exact .both (h.si e) i j
  | either h _ _ i j => exact .either (h.si e) i j
theorem CO.same {K : PySem.W.Frag} {H H' : Hp} (e : Same H H') {c : Cd} {v : V} (h : CO K H v c) : CO K H' v c := h.si e.si
inductive WO (K : PySem.W.Frag) (H : Hp) : V → Option Cd → Prop where
  | none : WO K H .non none
  | some {v c} : CO K H v c → WO K H v (some c)
theorem WO.si {K : PySem.W.Frag} {H H' : Hp} (e : SI H H') {c : Option Cd} {v : V} (h : WO K H v c) : WO K H' v c := by
  cases h with
  | none => exact .none
  | some h => exact .some (h.si e)
theorem WO.same {K : PySem.W.Frag} {H H' : Hp} (e : Same H H') {c : Option Cd} {v : V} (h : WO K H v c) : WO K H' v c := h.si e.si
mutual
inductive RO (K : PySem.W.Frag) (H : Hp) : V → Rw → Prop where
  | one {a t n os w wv} : Ins K H a "One" [("name", .str n), ("options", .ref t), ("where", wv)] → SqT K H t (os.map V.str) → WO K H wv w → RO K H (.ref a) (.one n os w)
  | some {a t n os w wv} : Ins K H a "Some" [("name", .str n), ("options", .ref t), ("where", wv)] → SqT K H t (os.map V.str) → WO K H wv w → RO K H (.ref a) (.some n os w)
  | number {a n lo hi w wv} : Ins K H a "Number" [("name", .str n), ("low", .int lo), ("high", .int hi), ("where", wv)] → WO K H wv w → RO K H (.ref a) (.number n lo hi w)
  | check {a n m mv w wv} : Ins K H a "Check" [("name", .str n), ("must", mv), ("where", wv)] → CO K H mv m → WO K H wv w → RO K H (.ref a) (.check n m w)
  | sect {a t xs rs w wv} : Ins K H a "Section" [("rows", .ref t), ("where", wv)] → SqT K H t xs → ROs K H xs rs → WO K H wv w → RO K H (.ref a) (.sect rs w)
  | rounds {a t n xs rs w wv} : Ins K H a "Rounds" [("count", .str n), ("rows", .ref t), ("where", wv)] → SqT K H t xs → ROs K H xs rs → WO K H wv w → RO K H (.ref a) (.rounds n rs w)
inductive ROs (K : PySem.W.Frag) (H : Hp) : List V → List Rw → Prop where
  | nil : ROs K H [] []
  | cons {v vs r rs} : RO K H v r → ROs K H vs rs → ROs K H (v :: vs) (r :: rs)
end
mutual
theorem RO.si {K : PySem.W.Frag} {H H' : Hp} (e : SI H H') : ∀ {r : Rw} {v : V}, RO K H v r → RO K H' v r
  | _, _, .one h t w => .one (h.si e) (e.sqt t) (w.si e)
  | _, _, .some h t w => .some (h.si e) (e.sqt t) (w.si e)
  | _, _, .number h w => .number (h.si e) (w.si e)
  | _, _, .check h m w => .check (h.si e) (m.si e) (w.si e)
  | _, _, .sect h t rs w => .sect (h.si e) (e.sqt t) (ROs.si e rs) (w.si e)
  | _, _, .rounds h t rs w => .rounds (h.si e) (e.sqt t) (ROs.si e rs) (w.si e)
theorem ROs.si {K : PySem.W.Frag} {H H' : Hp} (e : SI H H') : ∀ {rs : List Rw} {vs : List V}, ROs K H vs rs → ROs K H' vs rs
  | _, _, .nil => .nil
  | _, _, .cons h t => .cons (RO.si e h) (ROs.si e t)
end
theorem RO.same {K : PySem.W.Frag} {H H' : Hp} (e : Same H H') {r : Rw} {v : V} (h : RO K H v r) : RO K H' v r := RO.si e.si h
theorem ROs.same {K : PySem.W.Frag} {H H' : Hp} (e : Same H H') {rs : List Rw} {vs : List V} (h : ROs K H vs rs) : ROs K H' vs rs := ROs.si e.si h
/-! ### isinstance -/
section
variable {K : PySem.W.Frag} {mg : Str → Option Value} {H : Hp}
theorem Tx.gs (T : Tx K mg) : getsetB K = true := (and2 T.e).1
theorem Tx.kc (T : Tx K mg) {x : Str} (hx : x ∈ cndN) : kclsB K (He.ga K x) = true ∧ ∀ y ∈ cndT, PySem.W.kitOne K (.ref (He.ga K x)) (.ref (He.ga K y)) = some (x == y) := by
  have q := List.all_eq_true.mp (and2 (and2 (and2 T.e).2).2).1 x hx
  obtain ⟨q1, q2⟩ := and2 q
  exact ⟨q1, fun y hy => eqB_ok (List.all_eq_true.mp q2 y hy)⟩
theorem Tx.kr (T : Tx K mg) {x : Str} (hx : x ∈ rowN) : kclsB K (He.ga K x) = true ∧ ∀ y ∈ rowN, PySem.W.kitOne K (.ref (He.ga K x)) (.ref (He.ga K y)) = some (x == y) := by
  have q := List.all_eq_true.mp (and2 (and2 (and2 T.e).2).2).2 x hx
  obtain ⟨q1, q2⟩ := and2 q
  exact ⟨q1, fun y hy => eqB_ok (List.all_eq_true.mp q2 y hy)⟩
theorem Tx.ty (T : Tx K mg) {x : Str} {a : Addr} {fs : List (Str × V)} (k : kclsB K (He.ga K x) = true) (c : Cls K (He.ga K x)) (h : Ins K H a x fs) : TyX K H (.ref a) (.ref (He.ga K x)) := by
  obtain ⟨dx, h⟩ := h
  obtain ⟨k1, k2⟩ := and2 (show (eqB _ _ && eqB _ _) = true from k)
  obtain ⟨g1, g2⟩ := and2 (show (eqB _ _ && eqB _ _) = true from T.gs)
  exact .base (.ins h c (eqB_ok k1) (eqB_ok g1) (eqB_ok g2) (eqB_ok k2))
theorem Tx.tyC (T : Tx K mg) {c : Cd} {v : V} (h : CO K H v c) : c.nm ∈ cndN ∧ TyX K H v (.ref (He.ga K c.nm)) := by
  cases h with
  | is h => exact ⟨(by show ("Is" : Str) ∈ cndN; decide), T.ty (T.kc (x := "Is") (by decide)).1 T.cl_Is h⟩
  | has h => exact ⟨(by show ("Has" : Str) ∈ cndN; decide), T.ty (T.kc (x := "Has") (by decide)).1 T.cl_Has h⟩
  | no h _ => exact ⟨(by show ("Not" : Str) ∈ cndN; decide), T.ty (T.kc (x := "Not") (by decide)).1 T.cl_Not h⟩
  | both h _ _ => exact ⟨(by show ("Both" : Str) ∈ cndN; decide), T.ty (T.kc (x := "Both") (by decide)).1 T.cl_Both h⟩
  | either h _ _ => exact ⟨(by show ("Either" : Str) ∈ cndN; decide), T.ty (T.kc (x := "Either") (by decide)).1 T.cl_Either h⟩
  | over h => exact h.elim
  | under h => exact h.elim
theorem Tx.tyR (T : Tx K mg) {r : Rw} {v : V} (h : RO K H v r) : r.nm ∈ rowN ∧ TyX K H v (.ref (He.ga K r.nm)) := by
  cases h with
  | one h _ _ => exact ⟨(by show ("One" : Str) ∈ rowN; decide), T.ty (T.kr (x := "One") (by decide)).1 T.cl_One h⟩
  | some h _ _ => exact ⟨(by show ("Some" : Str) ∈ rowN; decide), T.ty (T.kr (x := "Some") (by decide)).1 T.cl_Some h⟩
  | number h _ => exact ⟨(by show ("Number" : Str) ∈ rowN; decide), T.ty (T.kr (x := "Number") (by decide)).1 T.cl_Number h⟩
  | check h _ _ => exact ⟨(by show ("Check" : Str) ∈ rowN; decide), T.ty (T.kr (x := "Check") (by decide)).1 T.cl_Check h⟩
  | sect h _ _ _ => exact ⟨(by show ("Section" : Str) ∈ rowN; decide), T.ty (T.kr (x := "Section") (by decide)).1 T.cl_Section h⟩
  | rounds h _ _ _ => exact ⟨(by show ("Rounds" : Str) ∈ rowN; decide), T.ty (T.kr (x := "Rounds") (by decide)).1 T.cl_Rounds h⟩
theorem isiC (T : Tx K mg) {c : Cd} {v : V} {y : Str} {Q : VK} (h : CO K H v c) (hy : y ∈ cndT) (q : Q (.bl (c.nm == y)) H) : rIsi K [v, .ref (He.ga K y)] H Q :=
  ⟨_, _, _, _, _, rfl, .own _, (T.tyC h).2, (T.kc (T.tyC h).1).2 y hy, q⟩
theorem isiR (T : Tx K mg) {r : Rw} {v : V} {y : Str} {Q : VK} (h : RO K H v r) (hy : y ∈ rowN) (q : Q (.bl (r.nm == y)) H) : rIsi K [v, .ref (He.ga K y)] H Q :=
  ⟨_, _, _, _, _, rfl, .own _, (T.tyR h).2, (T.kr (T.tyR h).1).2 y hy, q⟩
theorem kitAny2 {t c d : Value} {a b : Bool} (h1 : PySem.W.kitOne K t c = some a) (h2 : PySem.W.kitOne K t d = some b) : PySem.W.kitAny K t [c, d] = some (a || b) := by
  unfold PySem.W.kitAny
  rw [h1]
  cases a with
  | true => rfl
  | false =>
    show PySem.W.kitAny K t [d] = _
    unfold PySem.W.kitAny
    rw [h2]
    cases b <;> rfl
theorem kitAny3 {t c d e : Value} {a b f : Bool} (h1 : PySem.W.kitOne K t c = some a) (h2 : PySem.W.kitOne K t d = some b) (h3 : PySem.W.kitOne K t e = some f) : PySem.W.kitAny K t [c, d, e] = some (a || (b || f)) := by
  have q := kitAny2 h2 h3
  unfold PySem.W.kitAny
  rw [h1]
  cases a with
  | true => rfl
  | false => exact q
theorem isiC2 (T : Tx K mg) {c : Cd} {v : V} {y z : Str} {p : Addr} {Q : VK} (h : CO K H v c) (hp : H p = some (.tup [.ref (He.ga K y), .ref (He.ga K z)])) (hy : y ∈ cndT) (hz : z ∈ cndT) (q : Q (.bl (c.nm == y || c.nm == z)) H) : rIsiT K [v, .ref p] H Q :=
  ⟨_, _, _, _, _, _, rfl, hp, .cons (.own _) (.cons (.own _) .nil), (T.tyC h).2, kitAny2 ((T.kc (T.tyC h).1).2 y hy) ((T.kc (T.tyC h).1).2 z hz), q⟩
theorem isiR2 (T : Tx K mg) {r : Rw} {v : V} {y z : Str} {p : Addr} {Q : VK} (h : RO K H v r) (hp : H p = some (.tup [.ref (He.ga K y), .ref (He.ga K z)])) (hy : y ∈ rowN) (hz : z ∈ rowN) (q : Q (.bl (r.nm == y || r.nm == z)) H) : rIsiT K [v, .ref p] H Q :=
  ⟨_, _, _, _, _, _, rfl, hp, .cons (.own _) (.cons (.own _) .nil), (T.tyR h).2, kitAny2 ((T.kr (T.tyR h).1).2 y hy) ((T.kr (T.tyR h).1).2 z hz), q⟩
theorem isiR3 (T : Tx K mg) {r : Rw} {v : V} {y z x : Str} {p : Addr} {Q : VK} (h : RO K H v r) (hp : H p = some (.tup [.ref (He.ga K y), .ref (He.ga K z), .ref (He.ga K x)])) (hy : y ∈ rowN) (hz : z ∈ rowN) (hx : x ∈ rowN) (q : Q (.bl (r.nm == y || (r.nm == z || r.nm == x))) H) : rIsiT K [v, .ref p] H Q :=
  ⟨_, _, _, _, _, _, rfl, hp, .cons (.own _) (.cons (.own _) (.cons (.own _) .nil)), (T.tyR h).2, kitAny3 ((T.kr (T.tyR h).1).2 y hy) ((T.kr (T.tyR h).1).2 z hz) ((T.kr (T.tyR h).1).2 x hx), q⟩
end
/-! ### the making of conditions and rows -/
/-- what __init__ leaves: the instance with these fields, all else as it was -/
def Left (K : PySem.W.Frag) (H : Hp) (a : Addr) (x : Str) (dx : Addr) (fs : List (Str × V)) (Q : VK) : Prop := ∀ H', H' a = some (.ins (He.ga K x) dx fs) → (∀ b o, b ≠ a → H b = some o → H' b = some o) → Q .non H'
def spI (K : PySem.W.Frag) (x : Str) (fs : List Str) : Sp := fun vs H Q _ => ∃ (a dx : Addr) (ws : List V), vs = .ref a :: ws ∧ ws.length = fs.length ∧ H a = some (.ins (He.ga K x) dx []) ∧ Left K H a x dx (fs.zip ws) Q
/-- with a row at the second place -/
def spIT (K : PySem.W.Frag) (x : Str) (f1 f2 f3 : Str) : Sp := fun vs H Q _ => ∃ (a dx l : Addr) (v1 v3 : V) (xs : List V), vs = [.ref a, v1, .ref l, v3] ∧ (SqL K H l xs ∨ SqT K H l xs) ∧ H a = some (.ins (He.ga K x) dx []) ∧
  ∀ t H', H' a = some (.ins (He.ga K x) dx [(f1, v1), (f2, .ref t), (f3, v3)]) → SqT K H' t xs → (∀ b o, b ≠ a → H b = some o → H' b = some o) → Q .non H'
def spIS (K : PySem.W.Frag) : Sp := fun vs H Q _ => ∃ (a dx l : Addr) (v3 : V) (xs : List V), vs = [.ref a, .ref l, v3] ∧ (SqL K H l xs ∨ SqT K H l xs) ∧ H a = some (.ins (He.ga K "Section") dx []) ∧
  ∀ t H', H' a = some (.ins (He.ga K "Section") dx [("rows", .ref t), ("where", v3)]) → SqT K H' t xs → (∀ b o, b ≠ a → H b = some o → H' b = some o) → Q .non H'
theorem SqL.far {K : PySem.W.Frag} {H : Hp} {l a C dx : Addr} {fs : List (Str × V)} {xs : List V} {o : HO} (ha : H a = some (.ins C dx fs)) (h : SqL K H l xs) : SqL K (upd H a o) l xs := by
  have q : ∀ u, H l = some u → (∀ C dx fs, u ≠ .ins C dx fs) → upd H a o l = some u := fun u hu hn => by
    rw [upd_ne (fun z => hn C dx fs (by rw [z, ha] at hu; exact (Option.some.inj hu).symm))]
    exact hu
  rcases h with (h | ⟨o', h⟩) | h
  · exact .inl (.inl (q _ h (by intro _ _ _ z; cases z)))
  · exact .inl (.inr ⟨o', q _ h (by intro _ _ _ z; cases z)⟩)
  · exact .inr h
theorem SqT.far {K : PySem.W.Frag} {H : Hp} {l a C dx : Addr} {fs : List (Str × V)} {xs : List V} {o : HO} (ha : H a = some (.ins C dx fs)) (h : SqT K H l xs) : SqT K (upd H a o) l xs := by
  have q : ∀ u, H l = some u → (∀ C dx fs, u ≠ .ins C dx fs) → upd H a o l = some u := fun u hu hn => by
    rw [upd_ne (fun z => hn C dx fs (by rw [z, ha] at hu; exact (Option.some.inj hu).symm))]
    exact hu
  rcases h with (h | ⟨o', h⟩) | h
  · exact .inl (.inl (q _ h (by intro _ _ _ z; cases z)))
  · exact .inl (.inr ⟨o', q _ h (by intro _ _ _ z; cases z)⟩)
  · exact .inr h
section
variable {P : Program} {w : World} {K : PySem.W.Frag} {mg : Str → Option Value} {base : Heap}
theorem sc_Is : FnScope ["self", "name", "option"] ["self", "name", "option"] (defScope s_Is_init) := ⟨rfl, rfl, rfl, by decide +kernel, rfl, by decide +kernel, by decide +kernel⟩
theorem ok_Is (T : Tx K mg) : Ok P w K mg base 1 (He.ma K (He.ga K "Is") "__init__") ["self", "name", "option"] (spI K "Is" ["name", "option"]) := by
  obtain ⟨fd, F⟩ := T.f_Is_init
  refine ⟨fd, F.ok sc_Is (fun vs H Q E h => ?_) (fun cdv A outer s H vs Q E hr h => ?_), F.bindsN fun _ _ _ _ _ _ us hl => match us, hl with | [_, _, _], _ => rfl, F.kp⟩
  · obtain ⟨a, dx, ws, rfl, hl, _⟩ := h
    exact congrArg Nat.succ hl
  obtain ⟨a, dx, ws, rfl, hl, ha, q⟩ := h
  obtain ⟨v1, v2, rfl⟩ : ∃ v1 v2, ws = [v1, v2] := match ws, hl with | [v1, v2], _ => ⟨v1, v2, rfl⟩
  refine ⟨_, pss_cons (ps_fld (pv 0) (pv 1) rfl) (pss_one (ps_fld (pv 0) (pv 2) rfl)), ?_⟩
  refine ⟨_, rfl, _, rfl, a, _, dx, _, rfl, ha, T.cl_Is, T.n_Is_name, (by show 0 < 1000; decide), ?_⟩
  refine ⟨_, rfl, _, rfl, a, _, dx, _, rfl, upd_same, T.cl_Is, T.n_Is_option, (by show 1 < 1000; decide), ?_⟩
  refine q _ upd_same fun b o hb ho => ?_
  rw [upd_ne hb, upd_ne hb]
  exact ho
theorem sc_Has : FnScope ["self", "name", "option"] ["self", "name", "option"] (defScope s_Has_init) := ⟨rfl, rfl, rfl, by decide +kernel, rfl, by decide +kernel, by decide +kernel⟩
theorem ok_Has (T : Tx K mg) : Ok P w K mg base 1 (He.ma K (He.ga K "Has") "__init__") ["self", "name", "option"] (spI K "Has" ["name", "option"]) := by
  obtain ⟨fd, F⟩ := T.f_Has_init
  refine ⟨fd, F.ok sc_Has (fun vs H Q E h => ?_) (fun cdv A outer s H vs Q E hr h => ?_), F.bindsN fun _ _ _ _ _ _ us hl => match us, hl with | [_, _, _], _ => rfl, F.kp⟩
  · obtain ⟨a, dx, ws, rfl, hl, _⟩ := h
    exact congrArg Nat.succ hl
  obtain ⟨a, dx, ws, rfl, hl, ha, q⟩ := h
  obtain ⟨v1, v2, rfl⟩ : ∃ v1 v2, ws = [v1, v2] := match ws, hl with | [v1, v2], _ => ⟨v1, v2, rfl⟩
  refine ⟨_, pss_cons (ps_fld (pv 0) (pv 1) rfl) (pss_one (ps_fld (pv 0) (pv 2) rfl)), ?_⟩
  refine ⟨_, rfl, _, rfl, a, _, dx, _, rfl, ha, T.cl_Has, T.n_Has_name, (by show 0 < 1000; decide), ?_⟩
  refine ⟨_, rfl, _, rfl, a, _, dx, _, rfl, upd_same, T.cl_Has, T.n_Has_option, (by show 1 < 1000; decide), ?_⟩
  refine q _ upd_same fun b o hb ho => ?_
  rw [upd_ne hb, upd_ne hb]
  exact ho
theorem sc_Not : FnScope ["self", "inner"] ["self", "inner"] (defScope s_Not_init) := ⟨rfl, rfl, rfl, by decide +kernel, rfl, by decide +kernel, by decide +kernel⟩
theorem ok_Not (T : Tx K mg) : Ok P w K mg base 1 (He.ma K (He.ga K "Not") "__init__") ["self", "inner"] (spI K "Not" ["inner"]) := by
  obtain ⟨fd, F⟩ := T.f_Not_init
  refine ⟨fd, F.ok sc_Not (fun vs H Q E h => ?_) (fun cdv A outer s H vs Q E hr h => ?_), F.bindsN fun _ _ _ _ _ _ us hl => match us, hl with | [_, _], _ => rfl, F.kp⟩
  · obtain ⟨a, dx, ws, rfl, hl, _⟩ := h
    exact congrArg Nat.succ hl
  obtain ⟨a, dx, ws, rfl, hl, ha, q⟩ := h
  obtain ⟨v1, rfl⟩ : ∃ v1, ws = [v1] := match ws, hl with | [v1], _ => ⟨v1, rfl⟩
  refine ⟨_, pss_one (ps_fld (pv 0) (pv 1) rfl), ?_⟩
  refine ⟨_, rfl, _, rfl, a, _, dx, _, rfl, ha, T.cl_Not, T.n_Not_inner, (by show 0 < 1000; decide), ?_⟩
  refine q _ upd_same fun b o hb ho => ?_
  rw [upd_ne hb]
  exact ho
theorem sc_Both : FnScope ["self", "left", "right"] ["self", "left", "right"] (defScope s_Both_init) := ⟨rfl, rfl, rfl, by decide +kernel, rfl, by decide +kernel, by decide +kernel⟩
theorem ok_Both (T : Tx K mg) : Ok P w K mg base 1 (He.ma K (He.ga K "Both") "__init__") ["self", "left", "right"] (spI K "Both" ["left", "right"]) := by
  obtain ⟨fd, F⟩ := T.f_Both_init
  refine ⟨fd, F.ok sc_Both (fun vs H Q E h => ?_) (fun cdv A outer s H vs Q E hr h => ?_), F.bindsN fun _ _ _ _ _ _ us hl => match us, hl with | [_, _, _], _ => rfl, F.kp⟩
  · obtain ⟨a, dx, ws, rfl, hl, _⟩ := h
    exact congrArg Nat.succ hl
  obtain ⟨a, dx, ws, rfl, hl, ha, q⟩ := h
  obtain ⟨v1, v2, rfl⟩ : ∃ v1 v2, ws = [v1, v2] := match ws, hl with | [v1, v2], _ => ⟨v1, v2, rfl⟩
  refine ⟨_, pss_cons (ps_fld (pv 0) (pv 1) rfl) (pss_one (ps_fld (pv 0) (pv 2) rfl)), ?_⟩
  refine ⟨_, rfl, _, rfl, a, _, dx, _, rfl, ha, T.cl_Both, T.n_Both_left, (by show 0 < 1000; decide), ?_⟩
  refine ⟨_, rfl, _, rfl, a, _, dx, _, rfl, upd_same, T.cl_Both, T.n_Both_right, (by show 1 < 1000; decide), ?_⟩
  refine q _ upd_same fun b o hb ho => ?_
  rw [upd_ne hb, upd_ne hb]
  exact ho
theorem sc_Either : FnScope ["self", "left", "right"] ["self", "left", "right"] (defScope s_Either_init) := ⟨rfl, rfl, rfl, by decide +kernel, rfl, by decide +kernel, by decide +kernel⟩
theorem ok_Either (T : Tx K mg) : Ok P w K mg base 1 (He.ma K (He.ga K "Either") "__init__") ["self", "left", "right"] (spI K "Either" ["left", "right"]) := by
  obtain ⟨fd, F⟩ := T.f_Either_init
  refine ⟨fd, F.ok sc_Either (fun vs H Q E h => ?_) (fun cdv A outer s H vs Q E hr h => ?_), F.bindsN fun _ _ _ _ _ _ us hl => match us, hl with | [_, _, _], _ => rfl, F.kp⟩
  · obtain ⟨a, dx, ws, rfl, hl, _⟩ := h
    exact congrArg Nat.succ hl
  obtain ⟨a, dx, ws, rfl, hl, ha, q⟩ := h
  obtain ⟨v1, v2, rfl⟩ : ∃ v1 v2, ws = [v1, v2] := match ws, hl with | [v1, v2], _ => ⟨v1, v2, rfl⟩
  refine ⟨_, pss_cons (ps_fld (pv 0) (pv 1) rfl) (pss_one (ps_fld (pv 0) (pv 2) rfl)), ?_⟩
  refine ⟨_, rfl, _, rfl, a, _, dx, _, rfl, ha, T.cl_Either, T.n_Either_left, (by show 0 < 1000; decide), ?_⟩
  refine ⟨_, rfl, _, rfl, a, _, dx, _, rfl, upd_same, T.cl_Either, T.n_Either_right, (by show 1 < 1000; decide), ?_⟩
  refine q _ upd_same fun b o hb ho => ?_
  rw [upd_ne hb, upd_ne hb]
  exact ho
theorem sc_Number : FnScope ["self", "name", "low", "high", "where"] ["self", "name", "low", "high", "where"] (defScope s_Number_init) := ⟨rfl, rfl, rfl, by decide +kernel, rfl, by decide +kernel, by decide +kernel⟩
theorem ok_Number (T : Tx K mg) {fd : FuncData} (F : FunD K "__init__" "Number.__init__" (defArgs s_Number_init) (defBody s_Number_init) (defScope s_Number_init) [] [("where", V.non)] (He.ma K (He.ga K "Number") "__init__") fd) : FnOk P w K mg base (L2.CX P w) 1 (He.ma K (He.ga K "Number") "__init__") fd ["self", "name", "low", "high", "where"] (spI K "Number" ["name", "low", "high", "where"]) := by
  refine F.ok sc_Number (fun vs H Q E h => ?_) (fun cdv A outer s H vs Q E hr h => ?_)
  · obtain ⟨a, dx, ws, rfl, hl, _⟩ := h
    exact congrArg Nat.succ hl
  obtain ⟨a, dx, ws, rfl, hl, ha, q⟩ := h
  obtain ⟨v1, v2, v3, v4, rfl⟩ : ∃ v1 v2 v3 v4, ws = [v1, v2, v3, v4] := match ws, hl with | [v1, v2, v3, v4], _ => ⟨v1, v2, v3, v4, rfl⟩
  refine ⟨_, pss_cons (ps_fld (pv 0) (pv 1) rfl) (pss_cons (ps_fld (pv 0) (pv 2) rfl) (pss_cons (ps_fld (pv 0) (pv 3) rfl) (pss_one (ps_fld (pv 0) (pv 4) rfl)))), ?_⟩
  refine ⟨_, rfl, _, rfl, a, _, dx, _, rfl, ha, T.cl_Number, T.n_Number_name, (by show 0 < 1000; decide), ?_⟩
  refine ⟨_, rfl, _, rfl, a, _, dx, _, rfl, upd_same, T.cl_Number, T.n_Number_low, (by show 1 < 1000; decide), ?_⟩
  refine ⟨_, rfl, _, rfl, a, _, dx, _, rfl, upd_same, T.cl_Number, T.n_Number_high, (by show 2 < 1000; decide), ?_⟩
  refine ⟨_, rfl, _, rfl, a, _, dx, _, rfl, upd_same, T.cl_Number, T.n_Number_where, (by show 3 < 1000; decide), ?_⟩
  refine q _ upd_same fun b o hb ho => ?_
  rw [upd_ne hb, upd_ne hb, upd_ne hb, upd_ne hb]
  exact ho
theorem sc_Check : FnScope ["self", "name", "must", "where"] ["self", "name", "must", "where"] (defScope s_Check_init) := ⟨rfl, rfl, rfl, by decide +kernel, rfl, by decide +kernel, by decide +kernel⟩
theorem ok_Check (T : Tx K mg) {fd : FuncData} (F : FunD K "__init__" "Check.__init__" (defArgs s_Check_init) (defBody s_Check_init) (defScope s_Check_init) [] [("where", V.non)] (He.ma K (He.ga K "Check") "__init__") fd) : FnOk P w K mg base (L2.CX P w) 1 (He.ma K (He.ga K "Check") "__init__") fd ["self", "name", "must", "where"] (spI K "Check" ["name", "must", "where"]) := by
  refine F.ok sc_Check (fun vs H Q E h => ?_) (fun cdv A outer s H vs Q E hr h => ?_)
  · obtain ⟨a, dx, ws, rfl, hl, _⟩ := h
    exact congrArg Nat.succ hl
  obtain ⟨a, dx, ws, rfl, hl, ha, q⟩ := h
  obtain ⟨v1, v2, v3, rfl⟩ : ∃ v1 v2 v3, ws = [v1, v2, v3] := match ws, hl with | [v1, v2, v3], _ => ⟨v1, v2, v3, rfl⟩
  refine ⟨_, pss_cons (ps_fld (pv 0) (pv 1) rfl) (pss_cons (ps_fld (pv 0) (pv 2) rfl) (pss_one (ps_fld (pv 0) (pv 3) rfl))), ?_⟩
  refine ⟨_, rfl, _, rfl, a, _, dx, _, rfl, ha, T.cl_Check, T.n_Check_name, (by show 0 < 1000; decide), ?_⟩
  refine ⟨_, rfl, _, rfl, a, _, dx, _, rfl, upd_same, T.cl_Check, T.n_Check_must, (by show 1 < 1000; decide), ?_⟩
  refine ⟨_, rfl, _, rfl, a, _, dx, _, rfl, upd_same, T.cl_Check, T.n_Check_where, (by show 2 < 1000; decide), ?_⟩
  refine q _ upd_same fun b o hb ho => ?_
  rw [upd_ne hb, upd_ne hb, upd_ne hb]
  exact ho
theorem sc_One : FnScope ["self", "name", "options", "where"] ["self", "name", "options", "where"] (defScope s_One_init) := ⟨rfl, rfl, rfl, by decide +kernel, rfl, by decide +kernel, by decide +kernel⟩
theorem ok_One (T : Tx K mg) {fd : FuncData} (F : FunD K "__init__" "One.__init__" (defArgs s_One_init) (defBody s_One_init) (defScope s_One_init) [] [("where", V.non)] (He.ma K (He.ga K "One") "__init__") fd) : FnOk P w K mg base (L2.CX P w) 1 (He.ma K (He.ga K "One") "__init__") fd ["self", "name", "options", "where"] (spIT K "One" "name" "options" "where") := by
  refine F.ok sc_One (fun vs H Q E h => ?_) (fun cdv A outer s H vs Q E hr h => ?_)
  · obtain ⟨a, dx, l, v1, v3, xs, rfl, _⟩ := h
    rfl
  obtain ⟨a, dx, l, v1, v3, xs, rfl, hl, ha, q⟩ := h
  refine ⟨_, pss_cons (ps_fld (pv 0) (pv 1) rfl) (pss_cons (ps_fld (pv 0) (pe_callTy call_tuple_of (by rfl) T.z_tuple (by decide +kernel) (pa_cons (pv 2) pa_nil)) rfl) (pss_one (ps_fld (pv 0) (pv 3) rfl))), ?_⟩
  refine ⟨_, rfl, _, rfl, a, _, dx, _, rfl, ha, T.cl_One, T.n_One_name, (by show 0 < 1000; decide), ?_⟩
  have fin : ∀ t H1, H1 a = some (.ins (He.ga K "One") dx [("name", v1)]) → SqT K H1 t xs → (∀ b o, b ≠ a → H b = some o → H1 b = some o) → (tSeq (sFld K (tVar 0) (tC (.ref t)) "options") (sFld K (tVar 0) (tVar 3) "where")) { nx := fun _ H' => Q .non H', rt := Q } (L2.start ["self", "name", "options", "where"] [.ref a, v1, .ref l, v3]) H1 := fun t H1 h1 ht hk => by
    refine ⟨_, rfl, a, _, dx, _, rfl, h1, T.cl_One, T.n_One_options, (by show 1 < 1000; decide), ?_⟩
    refine ⟨_, rfl, _, rfl, a, _, dx, _, rfl, upd_same, T.cl_One, T.n_One_where, (by show 2 < 1000; decide), ?_⟩
    refine q t _ upd_same (SqT.far upd_same (SqT.far h1 ht)) fun b o hb ho => ?_
    rw [upd_ne hb, upd_ne hb]
    exact hk b o hb ho
  rcases hl with hl | hl
  · refine ⟨_, rfl, l, xs, rfl, .inl ⟨SqL.far ha hl, fun t ht => ?_⟩⟩
    refine fin t _ (by rw [upd_ne (ne_of_none upd_same ht)]; exact upd_same) (SqT.of upd_same) fun b o hb ho => ?_
    rw [upd_ne (fun z => by rw [← z, upd_ne hb, ho] at ht; cases ht), upd_ne hb]
    exact ho
  · refine ⟨_, rfl, l, xs, rfl, .inr ⟨SqT.far ha hl, ?_⟩⟩
    refine fin l _ upd_same (SqT.far ha hl) fun b o hb ho => ?_
    rw [upd_ne hb]
    exact ho
theorem sc_Some : FnScope ["self", "name", "options", "where"] ["self", "name", "options", "where"] (defScope s_Some_init) := ⟨rfl, rfl, rfl, by decide +kernel, rfl, by decide +kernel, by decide +kernel⟩
theorem ok_Some (T : Tx K mg) {fd : FuncData} (F : FunD K "__init__" "Some.__init__" (defArgs s_Some_init) (defBody s_Some_init) (defScope s_Some_init) [] [("where", V.non)] (He.ma K (He.ga K "Some") "__init__") fd) : FnOk P w K mg base (L2.CX P w) 1 (He.ma K (He.ga K "Some") "__init__") fd ["self", "name", "options", "where"] (spIT K "Some" "name" "options" "where") := by
  refine F.ok sc_Some (fun vs H Q E h => ?_) (fun cdv A outer s H vs Q E hr h => ?_)
  · obtain ⟨a, dx, l, v1, v3, xs, rfl, _⟩ := h
    rfl
  obtain ⟨a, dx, l, v1, v3, xs, rfl, hl, ha, q⟩ := h
  refine ⟨_, pss_cons (ps_fld (pv 0) (pv 1) rfl) (pss_cons (ps_fld (pv 0) (pe_callTy call_tuple_of (by rfl) T.z_tuple (by decide +kernel) (pa_cons (pv 2) pa_nil)) rfl) (pss_one (ps_fld (pv 0) (pv 3) rfl))), ?_⟩
  refine ⟨_, rfl, _, rfl, a, _, dx, _, rfl, ha, T.cl_Some, T.n_Some_name, (by show 0 < 1000; decide), ?_⟩
  have fin : ∀ t H1, H1 a = some (.ins (He.ga K "Some") dx [("name", v1)]) → SqT K H1 t xs → (∀ b o, b ≠ a → H b = some o → H1 b = some o) → (tSeq (sFld K (tVar 0) (tC (.ref t)) "options") (sFld K (tVar 0) (tVar 3) "where")) { nx := fun _ H' => Q .non H', rt := Q } (L2.start ["self", "name", "options", "where"] [.ref a, v1, .ref l, v3]) H1 := fun t H1 h1 ht hk => by
    refine ⟨_, rfl, a, _, dx, _, rfl, h1, T.cl_Some, T.n_Some_options, (by show 1 < 1000; decide), ?_⟩
    refine ⟨_, rfl, _, rfl, a, _, dx, _, rfl, upd_same, T.cl_Some, T.n_Some_where, (by show 2 < 1000; decide), ?_⟩
    refine q t _ upd_same (SqT.far upd_same (SqT.far h1 ht)) fun b o hb ho => ?_
    rw [upd_ne hb, upd_ne hb]
    exact hk b o hb ho
  rcases hl with hl | hl
  · refine ⟨_, rfl, l, xs, rfl, .inl ⟨SqL.far ha hl, fun t ht => ?_⟩⟩
    refine fin t _ (by rw [upd_ne (ne_of_none upd_same ht)]; exact upd_same) (SqT.of upd_same) fun b o hb ho => ?_
    rw [upd_ne (fun z => by rw [← z, upd_ne hb, ho] at ht; cases ht), upd_ne hb]
    exact ho
  · refine ⟨_, rfl, l, xs, rfl, .inr ⟨SqT.far ha hl, ?_⟩⟩
    refine fin l _ upd_same (SqT.far ha hl) fun b o hb ho => ?_
    rw [upd_ne hb]
    exact ho
theorem sc_Rounds : FnScope ["self", "count", "rows", "where"] ["self", "count", "rows", "where"] (defScope s_Rounds_init) := ⟨rfl, rfl, rfl, by decide +kernel, rfl, by decide +kernel, by decide +kernel⟩
theorem ok_Rounds (T : Tx K mg) {fd : FuncData} (F : FunD K "__init__" "Rounds.__init__" (defArgs s_Rounds_init) (defBody s_Rounds_init) (defScope s_Rounds_init) [] [("where", V.non)] (He.ma K (He.ga K "Rounds") "__init__") fd) : FnOk P w K mg base (L2.CX P w) 1 (He.ma K (He.ga K "Rounds") "__init__") fd ["self", "count", "rows", "where"] (spIT K "Rounds" "count" "rows" "where") := by
  refine F.ok sc_Rounds (fun vs H Q E h => ?_) (fun cdv A outer s H vs Q E hr h => ?_)
  · obtain ⟨a, dx, l, v1, v3, xs, rfl, _⟩ := h
    rfl
  obtain ⟨a, dx, l, v1, v3, xs, rfl, hl, ha, q⟩ := h
  refine ⟨_, pss_cons (ps_fld (pv 0) (pv 1) rfl) (pss_cons (ps_fld (pv 0) (pe_callTy call_tuple_of (by rfl) T.z_tuple (by decide +kernel) (pa_cons (pv 2) pa_nil)) rfl) (pss_one (ps_fld (pv 0) (pv 3) rfl))), ?_⟩
  refine ⟨_, rfl, _, rfl, a, _, dx, _, rfl, ha, T.cl_Rounds, T.n_Rounds_count, (by show 0 < 1000; decide), ?_⟩
  have fin : ∀ t H1, H1 a = some (.ins (He.ga K "Rounds") dx [("count", v1)]) → SqT K H1 t xs → (∀ b o, b ≠ a → H b = some o → H1 b = some o) → (tSeq (sFld K (tVar 0) (tC (.ref t)) "rows") (sFld K (tVar 0) (tVar 3) "where")) { nx := fun _ H' => Q .non H', rt := Q } (L2.start ["self", "count", "rows", "where"] [.ref a, v1, .ref l, v3]) H1 := fun t H1 h1 ht hk => by
    refine ⟨_, rfl, a, _, dx, _, rfl, h1, T.cl_Rounds, T.n_Rounds_rows, (by show 1 < 1000; decide), ?_⟩
    refine ⟨_, rfl, _, rfl, a, _, dx, _, rfl, upd_same, T.cl_Rounds, T.n_Rounds_where, (by show 2 < 1000; decide), ?_⟩
    refine q t _ upd_same (SqT.far upd_same (SqT.far h1 ht)) fun b o hb ho => ?_
    rw [upd_ne hb, upd_ne hb]
    exact hk b o hb ho
  rcases hl with hl | hl
  · refine ⟨_, rfl, l, xs, rfl, .inl ⟨SqL.far ha hl, fun t ht => ?_⟩⟩
    refine fin t _ (by rw [upd_ne (ne_of_none upd_same ht)]; exact upd_same) (SqT.of upd_same) fun b o hb ho => ?_
    rw [upd_ne (fun z => by rw [← z, upd_ne hb, ho] at ht; cases ht), upd_ne hb]
    exact ho
  · refine ⟨_, rfl, l, xs, rfl, .inr ⟨SqT.far ha hl, ?_⟩⟩
    refine fin l _ upd_same (SqT.far ha hl) fun b o hb ho => ?_
    rw [upd_ne hb]
    exact ho
theorem sc_Section : FnScope ["self", "rows", "where"] ["self", "rows", "where"] (defScope s_Section_init) := ⟨rfl, rfl, rfl, by decide +kernel, rfl, by decide +kernel, by decide +kernel⟩
theorem ok_Section (T : Tx K mg) {fd : FuncData} (F : FunD K "__init__" "Section.__init__" (defArgs s_Section_init) (defBody s_Section_init) (defScope s_Section_init) [] [("where", V.non)] (He.ma K (He.ga K "Section") "__init__") fd) : FnOk P w K mg base (L2.CX P w) 1 (He.ma K (He.ga K "Section") "__init__") fd ["self", "rows", "where"] (spIS K) := by
  refine F.ok sc_Section (fun vs H Q E h => ?_) (fun cdv A outer s H vs Q E hr h => ?_)
  · obtain ⟨a, dx, l, v3, xs, rfl, _⟩ := h
    rfl
  obtain ⟨a, dx, l, v3, xs, rfl, hl, ha, q⟩ := h
  refine ⟨_, pss_cons (ps_fld (pv 0) (pe_callTy call_tuple_of (by rfl) T.z_tuple (by decide +kernel) (pa_cons (pv 1) pa_nil)) rfl) (pss_one (ps_fld (pv 0) (pv 2) rfl)), ?_⟩
  have fin : ∀ t H1, H1 a = some (.ins (He.ga K "Section") dx []) → SqT K H1 t xs → (∀ b o, b ≠ a → H b = some o → H1 b = some o) → (tSeq (sFld K (tVar 0) (tC (.ref t)) "rows") (sFld K (tVar 0) (tVar 2) "where")) { nx := fun _ H' => Q .non H', rt := Q } (L2.start ["self", "rows", "where"] [.ref a, .ref l, v3]) H1 := fun t H1 h1 ht hk => by
    refine ⟨_, rfl, a, _, dx, _, rfl, h1, T.cl_Section, T.n_Section_rows, (by show 0 < 1000; decide), ?_⟩
    refine ⟨_, rfl, _, rfl, a, _, dx, _, rfl, upd_same, T.cl_Section, T.n_Section_where, (by show 1 < 1000; decide), ?_⟩
    refine q t _ upd_same (SqT.far upd_same (SqT.far h1 ht)) fun b o hb ho => ?_
    rw [upd_ne hb, upd_ne hb]
    exact hk b o hb ho
  rcases hl with hl | hl
  · refine ⟨_, rfl, l, xs, rfl, .inl ⟨hl, fun t ht => ?_⟩⟩
    refine fin t _ (by rw [upd_ne (ne_of_none ha ht)]; exact ha) (SqT.of upd_same) fun b o hb ho => ?_
    rw [upd_ne (ne_of_none ho ht)]
    exact ho
  · refine ⟨_, rfl, l, xs, rfl, .inr ⟨hl, ?_⟩⟩
    exact fin l _ ha hl fun b o hb ho => ho
end
end K3
end P4_part
section P5_part
set_option Elab.async false
set_option linter.all false
set_option maxRecDepth 100000
set_option maxHeartbeats 1000000
set_option pp.deepTerms.threshold 5
open PySem PySem.Spec PyProof.Rows L2
/-- go on as far as nothing is open -/
local macro_rules | `(tactic| walk_at "go") => `(tactic| repeat (first
  | with_reducible refine w_seq ?_ | with_reducible refine w_next ?_ | with_reducible refine w_set ?_ | with_reducible refine w_drop ?_ | with_reducible refine w_ret ?_ | with_reducible refine w_retN ?_
  | with_reducible refine w_if ?_ | ((with_reducible refine' w_var ?hv ?_); (case hv => exact rfl)) | with_reducible refine w_c ?_ | with_reducible refine w_nil ?_ | with_reducible refine w_cons ?_ | with_reducible refine w_op ?_ | with_reducible refine w_un ?_
  | with_reducible refine w_test ?_ | with_reducible refine w_tB ?_ | with_reducible refine w_not ?_ | with_reducible refine w_and ?_ | with_reducible refine w_or ?_ | with_reducible refine w_bl ?_
  | with_reducible refine w_andV ?_ | with_reducible refine w_orV ?_ | with_reducible refine w_notV ?_ | with_reducible refine w_ifE ?_ | with_reducible refine w_chain ?_ | with_reducible refine w_i0 ?_
  | with_reducible refine w_call ?_ | with_reducible refine w_callS ?_ | with_reducible refine w_cB ?_ | with_reducible refine w_tup ?_ | with_reducible refine w_lst ?_ | with_reducible refine w_fldV ?_
  | with_reducible refine w_neF ?_ | with_reducible refine w_neT ?_ | with_reducible refine w_notN ?_ | with_reducible refine w_isN ?_ | with_reducible refine w_gname ?_ | with_reducible refine w_gsub ?_ | with_reducible refine w_asg ?_ | with_reducible refine w_yes ?_ | with_reducible refine w_nT ?_ | with_reducible refine w_nF ?_ | with_reducible refine w_iteT ?_ | with_reducible refine w_iteF ?_))
namespace K3
/-! ### conditions laid out -/
def Cd.simp : Cd → List Cd
  | .no c => c.simp
  | .both c d => c.simp ++ d.simp
  | .either c d => c.simp ++ d.simp
  | c => [c]
def Cd.dep : Cd → Nat
  | .no c => c.dep + 1
  | .both c d => max c.dep d.dep + 1
  | .either c d => max c.dep d.dep + 1
  | _ => 0
/-- a new list of objects of these conditions -/
def RetC (K : PySem.W.Frag) (cs : List Cd) (H : Hp) (Q : VK) : Prop := ∀ p H' xs, H p = none → Same H H' → H' p = some (.lst xs) → Paired (CO K H') xs cs → Q (.ref p) H'
def spSimp (K : PySem.W.Frag) (n : Nat) : Sp := fun vs H Q _ => ∃ (v : V) (c : Cd), vs = [v] ∧ CO K H v c ∧ c.dep < n ∧ c.simp.length ≤ 1000 ∧ RetC K c.simp H Q
theorem Paired.same {K : PySem.W.Frag} {H H' : Hp} (e : Same H H') {xs : List V} {cs : List Cd} (h : Paired (CO K H) xs cs) : Paired (CO K H') xs cs := L2.Paired.mapP h fun _ _ q => q.same e
section
variable {P : Program} {w : World} {K : PySem.W.Frag} {mg : Str → Option Value} {base : Heap}
theorem ok_none {f : Addr} {fd : FuncData} {ps : List Str} {sp : Sp} (no : ∀ vs H Q E, ¬ sp vs H Q E) : FnOk P w K mg base (L2.CX P w) 0 f fd ps sp :=
  ⟨fun vs H Q E h => absurd h (no vs H Q E), fun A outer s H args us vs Q E _ _ _ _ h => absurd h (no vs H Q E)⟩
theorem sc_simple_ones : FnScope ["condition"] ["condition"] (defScope s_simple_ones) := ⟨rfl, rfl, rfl, by decide +kernel, rfl, by decide +kernel, by decide +kernel⟩
theorem ok_simple_ones (T : Tx K mg) : ∀ n, Ok P w K mg base n (He.ga K "simple_ones") ["condition"] (spSimp K n) := by
  obtain ⟨fd, F⟩ := T.f_simple_ones
  have b : Binds K fd ["condition"] [] := F.bindsN fun _ _ _ _ _ _ us hl => match us, hl with | [_], _ => rfl
  intro n
  induction n with
  | zero =>
    refine ⟨fd, ok_none fun vs H Q E h => ?_, b, F.kp⟩
    obtain ⟨v, c, _, _, h, _⟩ := h
    omega
  | succ n ih =>
    refine ⟨fd, F.ok sc_simple_ones (fun vs H Q E h => ?_) (fun cdv A outer s H vs Q E hr h => ?_), b, F.kp⟩
    · obtain ⟨v, c, rfl, _⟩ := h
      rfl
    obtain ⟨v, c, rfl, hc, hd, hl, q⟩ := h
    refine ⟨_, pss_cons (ps_if (pt_val (pe_callB call_isi (by rfl) T.z_isinstance (by decide +kernel) (pa_cons (pv 0) (pa_cons (pe_gref T.g_Not) pa_nil)))) (pss_one (ps_ret (pe_f ih hr T.g_simple_ones (pa_cons (pe_fld (pv 0) rfl) pa_nil)))) pss_nil)
      (pss_cons (ps_if (pt_val (pe_callB call_isiT (by rfl) T.z_isinstance (by decide +kernel) (pa_cons (pv 0) (pa_cons (pe_tup (pa_cons (pe_gref T.g_Both) (pa_cons (pe_gref T.g_Either) pa_nil))) pa_nil))))
          (pss_one (ps_ret (pe_op op_cat (pe_f ih hr T.g_simple_ones (pa_cons (pe_fld (pv 0) rfl) pa_nil)) (pe_f ih hr T.g_simple_ones (pa_cons (pe_fld (pv 0) rfl) pa_nil))))) pss_nil)
        (pss_one (ps_ret (pe_lst (pa_cons (pv 0) pa_nil))))), ?_⟩
    walk_at "go"
    refine isiC T hc (y := "Not") (by decide) ?_
    walk_at "go"
    have two : ∀ (x : Str) (a : Addr) (l r : V) (c1 c2 : Cd), c.simp = c1.simp ++ c2.simp → c.dep = max c1.dep c2.dep + 1 → v = .ref a → Ins K H a x [("left", l), ("right", r)] → Cls K (He.ga K x) → NoAttr K (He.ga K x) "left" → NoAttr K (He.ga K x) "right" → CO K H l c1 → CO K H r c2 →
        ∀ (p : Addr) (H1 : Hp), Same H H1 → tRet (tOp rCat (tCall (spSimp K n) [] E0 (tCons (tFld K (tVar 0) "left") tNil)) (tCall (spSimp K n) [] E0 (tCons (tFld K (tVar 0) "right") tNil))) { nx := fun _ H' => Q .non H', rt := Q } (L2.start ["condition"] [v]) H1 := by
      intro x a l r c1 c2 es ed ev hi hcl hn1 hn2 h1 h2 p H1 e1
      subst ev
      have hi1 := hi.same e1
      obtain ⟨dx, hi1⟩ := hi1
      have hl1 : c1.simp.length + c2.simp.length ≤ 1000 := by rw [es, List.length_append] at hl; exact hl
      walk_at "go"
      refine ⟨a, _, dx, _, l, rfl, hi1, hcl, hn1, rfl, ?_⟩
      walk_at "go"
      refine ⟨l, c1, rfl, h1.same e1, by omega, by omega, fun p1 H2 xs1 _ e2 hp1 q1 => ?_⟩
      walk_at "go"
      refine ⟨a, _, dx, _, r, rfl, e2 _ _ hi1, hcl, hn2, rfl, ?_⟩
      walk_at "go"
      refine ⟨r, c2, rfl, (h2.same e1).same e2, by omega, by omega, fun p2 H3 xs2 _ e3 hp2 q2 => ?_⟩
      have g1 := q1.length
      have g2 := q2.length
      refine ⟨p1, p2, xs1, xs2, rfl, rfl, e3 _ _ hp1, hp2, Nat.le_trans (show xs1.length + xs2.length ≤ 1000 by omega) (by decide), fun p3 hp3 => ?_⟩
      have e4 : Same H1 (upd H3 p3 (.lst (xs1 ++ xs2))) := (e2.trans e3).trans (Same.new hp3 _)
      refine q p3 _ _ ((e1.trans (e2.trans e3)).free hp3) (e1.trans e4) upd_same ?_
      rw [es]
      exact K3.Paired.app (K3.Paired.same (e3.trans (Same.new hp3 _)) q1) (K3.Paired.same (Same.new hp3 _) q2)
    have one : c.simp = [c] → tRet (tLst (tCons (tVar 0) tNil)) { nx := fun _ H' => Q .non H', rt := Q } (L2.start ["condition"] [v]) = tRet (tLst (tCons (tVar 0) tNil)) { nx := fun _ H' => Q .non H', rt := Q } (L2.start ["condition"] [v]) ∧
        ∀ H1, Same H H1 → tRet (tLst (tCons (tVar 0) tNil)) { nx := fun _ H' => Q .non H', rt := Q } (L2.start ["condition"] [v]) H1 := fun es => ⟨rfl, fun H1 e1 => by
      walk_at "go"
      refine ⟨(by show 1 ≤ sizeLine; decide), fun p hp => ?_⟩
      refine q p _ [v] (e1.free hp) (e1.trans (Same.new hp _)) upd_same ?_
      rw [es]
      exact .cons (hc.same (e1.trans (Same.new hp _))) .nil⟩
    cases hc with
    | @no a u c' h1 h2 =>
      show if true = true then _ else _
      walk_at "go"
      obtain ⟨dx, h1⟩ := h1
      refine ⟨a, _, dx, _, u, rfl, h1, T.cl_Not, T.n_Not_inner, rfl, ?_⟩
      walk_at "go"
      exact ⟨u, c', rfl, h2, (by have : c'.dep + 1 < n + 1 := hd; omega), hl, q⟩
    | @both a l r c1 c2 h1 h2 h3 =>
      show if false = true then _ else _
      walk_at "go"
      refine ⟨(by show 2 ≤ sizeLine; decide), fun p hp => ?_⟩
      walk_at "go"
      refine isiC2 T (y := "Both") (z := "Either") (c := .both c1 c2) (CO.same (Same.new hp _) (.both h1 h2 h3)) upd_same (by decide) (by decide) ?_
      walk_at "go"
      show if true = true then _ else _
      refine w_iteT ?_
      exact two "Both" a l r c1 c2 rfl rfl rfl h1 T.cl_Both T.n_Both_left T.n_Both_right h2 h3 p _ (Same.new hp _)
    | @either a l r c1 c2 h1 h2 h3 =>
      show if false = true then _ else _
      walk_at "go"
      refine ⟨(by show 2 ≤ sizeLine; decide), fun p hp => ?_⟩
      walk_at "go"
      refine isiC2 T (y := "Both") (z := "Either") (c := .either c1 c2) (CO.same (Same.new hp _) (.either h1 h2 h3)) upd_same (by decide) (by decide) ?_
      walk_at "go"
      show if true = true then _ else _
      refine w_iteT ?_
      exact two "Either" a l r c1 c2 rfl rfl rfl h1 T.cl_Either T.n_Either_left T.n_Either_right h2 h3 p _ (Same.new hp _)
    | @is a x y h1 =>
      show if false = true then _ else _
      walk_at "go"
      refine ⟨(by show 2 ≤ sizeLine; decide), fun p hp => ?_⟩
      walk_at "go"
      refine isiC2 T (y := "Both") (z := "Either") (CO.same (Same.new hp _) (.is h1)) upd_same (by decide) (by decide) ?_
      walk_at "go"
      show if false = true then _ else _
      refine w_iteF ?_
      exact (one rfl).2 _ (Same.new hp _)
    | @has a x y h1 =>
      show if false = true then _ else _
      walk_at "go"
      refine ⟨(by show 2 ≤ sizeLine; decide), fun p hp => ?_⟩
      walk_at "go"
      refine isiC2 T (y := "Both") (z := "Either") (CO.same (Same.new hp _) (.has h1)) upd_same (by decide) (by decide) ?_
      walk_at "go"
      show if false = true then _ else _
      refine w_iteF ?_
      exact (one rfl).2 _ (Same.new hp _)
    | @over a x y h1 => exact h1.elim
    | @under a x y h1 => exact h1.elim
end
end K3
end P5_part
section P6_part
set_option Elab.async false
set_option linter.all false
set_option maxRecDepth 100000
set_option maxHeartbeats 1000000
set_option pp.deepTerms.threshold 5
open PySem PySem.Spec PyProof.Rows L2
/-- go on as far as nothing is open -/
local macro_rules | `(tactic| walk_at "go") => `(tactic| repeat (first
  | with_reducible refine w_seq ?_ | with_reducible refine w_next ?_ | with_reducible refine w_set ?_ | with_reducible refine w_drop ?_ | with_reducible refine w_ret ?_ | with_reducible refine w_retN ?_
  | with_reducible refine w_if ?_ | ((with_reducible refine' w_var ?hv ?_); (case hv => exact rfl)) | with_reducible refine w_c ?_ | with_reducible refine w_nil ?_ | with_reducible refine w_cons ?_ | with_reducible refine w_op ?_ | with_reducible refine w_un ?_
  | with_reducible refine w_test ?_ | with_reducible refine w_tB ?_ | with_reducible refine w_not ?_ | with_reducible refine w_and ?_ | with_reducible refine w_or ?_ | with_reducible refine w_bl ?_
  | with_reducible refine w_andV ?_ | with_reducible refine w_orV ?_ | with_reducible refine w_notV ?_ | with_reducible refine w_ifE ?_ | with_reducible refine w_chain ?_ | with_reducible refine w_i0 ?_
  | with_reducible refine w_call ?_ | with_reducible refine w_callS ?_ | with_reducible refine w_cB ?_ | with_reducible refine w_tup ?_ | with_reducible refine w_lst ?_ | with_reducible refine w_fldV ?_
  | with_reducible refine w_neF ?_ | with_reducible refine w_neT ?_ | with_reducible refine w_notN ?_ | with_reducible refine w_isN ?_ | with_reducible refine w_gname ?_ | with_reducible refine w_gsub ?_ | with_reducible refine w_asg ?_ | with_reducible refine w_yes ?_ | with_reducible refine w_nT ?_ | with_reducible refine w_nF ?_ | with_reducible refine w_iteT ?_ | with_reducible refine w_iteF ?_))
namespace K3
def Rw.isQ : Rw → Bool
  | .one _ _ _ => true | .some _ _ _ => true | .number _ _ _ _ => true | _ => false
def Rw.isN : Rw → Bool
  | .sect _ _ => false | .rounds _ _ _ => false | _ => true
def Rw.wh : Rw → Option Cd
  | .one _ _ w => w | .some _ _ w => w | .number _ _ _ w => w | .check _ _ w => w | .sect _ w => w | .rounds _ _ w => w
def owh : Option Cd → List Cd
  | none => []
  | some c => c.simp
def Rw.mu : Rw → List Cd
  | .check _ m _ => m.simp
  | _ => []
def Rw.conds (r : Rw) : List Cd := owh r.wh ++ r.mu
def odep : Option Cd → Nat
  | none => 0
  | some c => c.dep
def Rw.cdep : Rw → Nat
  | .check _ m w => max m.dep (odep w)
  | r => odep r.wh
theorem CO.ref {K : PySem.W.Frag} {H : Hp} {v : V} {c : Cd} (h : CO K H v c) : ∃ a, v = .ref a := by cases h <;> exact ⟨_, rfl⟩
theorem RO.ref {K : PySem.W.Frag} {H : Hp} {v : V} {r : Rw} (h : RO K H v r) : ∃ a, v = .ref a := by cases h <;> exact ⟨_, rfl⟩
def spRB (K : PySem.W.Frag) (f : Rw → Bool) : Sp := fun vs H Q _ => ∃ (v : V) (r : Rw), vs = [v] ∧ RO K H v r ∧ ∀ H', Same H H' → Q (.bl (f r)) H'
def spConds (K : PySem.W.Frag) (n : Nat) : Sp := fun vs H Q _ => ∃ (v : V) (r : Rw), vs = [v] ∧ RO K H v r ∧ r.cdep < n ∧ (owh r.wh).length ≤ 1000 ∧ r.mu.length ≤ 1000 ∧ RetC K r.conds H Q
section
variable {P : Program} {w : World} {K : PySem.W.Frag} {mg : Str → Option Value} {base : Heap}
/-- the field where of a row -/
theorem ro_where (T : Tx K mg) {H : Hp} {v : V} {r : Rw} (h : RO K H v r) : ∃ a dx fs wv, v = .ref a ∧ H a = some (.ins (He.ga K r.nm) dx fs) ∧ Cls K (He.ga K r.nm) ∧ NoAttr K (He.ga K r.nm) "where" ∧ fs.lookup ("where" : Str) = some wv ∧ WO K H wv r.wh := by
  cases h with
  | one h _ w => obtain ⟨dx, h⟩ := h; exact ⟨_, dx, _, _, rfl, h, T.cl_One, T.n_One_where, rfl, w⟩
  | some h _ w => obtain ⟨dx, h⟩ := h; exact ⟨_, dx, _, _, rfl, h, T.cl_Some, T.n_Some_where, rfl, w⟩
  | number h w => obtain ⟨dx, h⟩ := h; exact ⟨_, dx, _, _, rfl, h, T.cl_Number, T.n_Number_where, rfl, w⟩
  | check h _ w => obtain ⟨dx, h⟩ := h; exact ⟨_, dx, _, _, rfl, h, T.cl_Check, T.n_Check_where, rfl, w⟩
  | sect h _ _ w => obtain ⟨dx, h⟩ := h; exact ⟨_, dx, _, _, rfl, h, T.cl_Section, T.n_Section_where, rfl, w⟩
  | rounds h _ _ w => obtain ⟨dx, h⟩ := h; exact ⟨_, dx, _, _, rfl, h, T.cl_Rounds, T.n_Rounds_where, rfl, w⟩
theorem sc_is_question : FnScope ["row"] ["row"] (defScope s_is_question) := ⟨rfl, rfl, rfl, by decide +kernel, rfl, by decide +kernel, by decide +kernel⟩
theorem ok_is_question (T : Tx K mg) : Ok P w K mg base 1 (He.ga K "is_question") ["row"] (spRB K Rw.isQ) := by
  obtain ⟨fd, F⟩ := T.f_is_question
  refine ⟨fd, F.ok sc_is_question (fun vs H Q E h => ?_) (fun cdv A outer s H vs Q E hr h => ?_), F.bindsN fun _ _ _ _ _ _ us hl => match us, hl with | [_], _ => rfl, F.kp⟩
  · obtain ⟨v, r, rfl, _⟩ := h
    rfl
  obtain ⟨v, r, rfl, hv, q⟩ := h
  refine ⟨_, pss_one (ps_ret (pe_callB call_isiT (by rfl) T.z_isinstance (by decide +kernel) (pa_cons (pv 0) (pa_cons (pe_tup (pa_cons (pe_gref T.g_One) (pa_cons (pe_gref T.g_Some) (pa_cons (pe_gref T.g_Number) pa_nil)))) pa_nil)))), ?_⟩
  walk_at "go"
  refine ⟨(by show 3 ≤ sizeLine; decide), fun p hp => ?_⟩
  walk_at "go"
  refine isiR3 T (y := "One") (z := "Some") (x := "Number") (hv.same (Same.new hp _)) upd_same (by decide) (by decide) (by decide) ?_
  have := q _ (Same.new hp (.tup [.ref (He.ga K "One"), .ref (He.ga K "Some"), .ref (He.ga K "Number")]))
  cases r <;> exact this
theorem sc_is_named : FnScope ["row"] ["row"] (defScope s_is_named) := ⟨rfl, rfl, rfl, by decide +kernel, rfl, by decide +kernel, by decide +kernel⟩
theorem ok_is_named (T : Tx K mg) : Ok P w K mg base 2 (He.ga K "is_named") ["row"] (spRB K Rw.isN) := by
  obtain ⟨fd, F⟩ := T.f_is_named
  refine ⟨fd, F.ok sc_is_named (fun vs H Q E h => ?_) (fun cdv A outer s H vs Q E hr h => ?_), F.bindsN fun _ _ _ _ _ _ us hl => match us, hl with | [_], _ => rfl, F.kp⟩
  · obtain ⟨v, r, rfl, _⟩ := h
    rfl
  obtain ⟨v, r, rfl, hv, q⟩ := h
  refine ⟨_, pss_one (ps_ret (pe_or (pe_f (ok_is_question T) (hr.mono (by decide)) T.g_is_question (pa_cons (pv 0) pa_nil)) (pe_one (pe_callB call_isi (by rfl) T.z_isinstance (by decide +kernel) (pa_cons (pv 0) (pa_cons (pe_gref T.g_Check) pa_nil)))))), ?_⟩
  walk_at "go"
  refine ⟨v, r, rfl, hv, fun H1 e1 => ?_⟩
  have hv1 := hv.same e1
  have q1 := q H1 e1
  cases hq : r.isQ with
  | true =>
    walk_at "go"
    cases r <;> first | exact q1 | cases hq
  | false =>
    walk_at "go"
    refine isiR T (y := "Check") hv1 (by decide) ?_
    cases r <;> first | exact q1 | cases hq
theorem sc_conditions_of : FnScope ["row", "conditions"] ["row"] (defScope s_conditions_of) := ⟨rfl, rfl, rfl, by decide +kernel, rfl, by decide +kernel, by decide +kernel⟩
theorem ok_conditions_of (T : Tx K mg) (n : Nat) : Ok P w K mg base (n + 1) (He.ga K "conditions_of") ["row"] (spConds K n) := by
  obtain ⟨fd, F⟩ := T.f_conditions_of
  refine ⟨fd, F.ok sc_conditions_of (fun vs H Q E h => ?_) (fun cdv A outer s H vs Q E hr h => ?_), F.bindsN fun _ _ _ _ _ _ us hl => match us, hl with | [_], _ => rfl, F.kp⟩
  · obtain ⟨v, r, rfl, _⟩ := h
    rfl
  obtain ⟨v, r, rfl, hv, hd, l1, l2, q⟩ := h
  refine ⟨_, pss_cons (ps_set (i := 1) sc_conditions_of.nd rfl (Or.inl rfl) (pe_lst pa_nil))
    (pss_cons (ps_if (pt_cmp (pc_notN (pe_fld (pv 0) rfl))) (pss_one (ps_expr (pe_bm PySem.F.plainAttrs_list PySem.F.slot_list_extend PySem.F.type_list_extend mt_extend (pv 1) (pa_cons (pe_f (ok_simple_ones T n) hr T.g_simple_ones (pa_cons (pe_fld (pv 0) rfl) pa_nil)) pa_nil)))) pss_nil)
    (pss_cons (ps_if (pt_val (pe_callB call_isi (by rfl) T.z_isinstance (by decide +kernel) (pa_cons (pv 0) (pa_cons (pe_gref T.g_Check) pa_nil)))) (pss_one (ps_expr (pe_bm PySem.F.plainAttrs_list PySem.F.slot_list_extend PySem.F.type_list_extend mt_extend (pv 1) (pa_cons (pe_f (ok_simple_ones T n) hr T.g_simple_ones (pa_cons (pe_fld (pv 0) rfl) pa_nil)) pa_nil)))) pss_nil)
    (pss_one (ps_ret (pv 1))))), ?_⟩
  walk_at "go"
  refine ⟨Nat.zero_le _, fun p hp => ?_⟩
  walk_at "go"
  obtain ⟨a, dx, fs, wv, rfl, hi, hcl, hn, hlk, hw⟩ := ro_where T hv
  have stp : ∀ (H1 : Hp) (xs : List V) (cs : List Cd) (u : V) (c : Cd), Same H H1 → H1 p = some (.lst xs) → Paired (CO K H1) xs cs → xs.length ≤ 1000 → CO K H1 u c → c.dep < n → c.simp.length ≤ 1000 → ∀ (G : VK), (∀ H2 ys, Same H H2 → H2 p = some (.lst (xs ++ ys)) → Paired (CO K H2) (xs ++ ys) (cs ++ c.simp) → (xs ++ ys).length ≤ 2000 → G .non H2) →
      spSimp K n ([u] ++ []) H1 (fun x H2 => tNil (L2.start ["row"] []) H2 fun ys H3 => rExtend (.ref p) (x :: ys) H3 G) E0 := by
    intro H1 xs cs u c e1 h1 hx hxl hu hdc hlc G k
    refine ⟨u, c, rfl, hu, hdc, hlc, fun p2 H2 ys hp2n e2 hp2 hys => ?_⟩
    have ly := hys.length
    have lx := hx.length
    refine ⟨p, p2, xs, ys, rfl, rfl, e2 _ _ h1, hp2, Nat.le_trans (show xs.length + ys.length ≤ 2000 by omega) (by decide), ?_⟩
    have si : SI H2 (upd H2 p (.lst (xs ++ ys))) := SI.upd (e2 _ _ h1) rfl _
    refine k _ ys ((e1.trans e2).mut hp) upd_same ?_ (by rw [List.length_append]; omega)
    exact K3.Paired.app (L2.Paired.mapP hx fun _ _ q => (q.same e2).si si) (L2.Paired.mapP hys fun _ _ q => q.si si)
  have tail : ∀ (H1 : Hp) (xs : List V), Same H H1 → H1 p = some (.lst xs) → Paired (CO K H1) xs (owh r.wh) →
      (tSeq (tIfS (tB (tCB (rIsi K) (tCons (tVar 0) (tCons (tC (.ref (He.ga K "Check"))) tNil)))) (tDrop (tBM K "list" rExtend (tVar 1) (tCons (tCall (spSimp K n) [] E0 (tCons (tFld K (tVar 0) "must") tNil)) tNil))) tNext) (tRet (tVar 1)))
        { nx := fun _ H' => Q .non H', rt := Q } [some (.ref a), some (.ref p)] H1 := by
    intro H1 xs e1 h1 hx
    have lx := hx.length
    have hv1 := hv.same e1
    walk_at "go"
    refine isiR T hv1 (y := "Check") (by decide) ?_
    walk_at "go"
    have fin : r.mu = [] → Q (.ref p) H1 := fun hm => q p H1 xs hp e1 h1 (by unfold Rw.conds; rw [hm, List.append_nil]; exact hx)
    cases hv1 with
    | check h hm hw =>
      obtain ⟨dx2, h⟩ := h
      show if true = true then _ else _
      refine w_iteT ?_
      walk_at "go"
      refine ⟨_, rfl, .inl ⟨rfl, _, SqL.of h1⟩, ?_⟩
      walk_at "go"
      refine ⟨a, _, dx2, _, _, rfl, h, T.cl_Check, T.n_Check_must, rfl, ?_⟩
      walk_at "go"
      refine stp H1 xs _ _ _ e1 h1 hx (by rw [lx]; exact l1) hm ?_ l2 _ fun H2 ys e2 h2 hp2 _ => ?_
      · exact Nat.lt_of_le_of_lt (Nat.le_max_left _ _) hd
      · walk_at "go"
        exact q p H2 _ hp e2 h2 hp2
    | _ =>
      show if false = true then _ else _
      refine w_iteF ?_
      exact ⟨_, rfl, fin rfl⟩
  refine ⟨a, _, dx, fs, wv, rfl, Same.new hp _ _ _ hi, hcl, hn, hlk, ?_⟩
  walk_at "go"
  have hdw : odep r.wh < n := by
    cases r <;> first | exact hd | exact Nat.lt_of_le_of_lt (Nat.le_max_right _ _) hd
  generalize hr' : r.wh = o at hw tail l1 hdw
  cases hw with
  | none =>
    walk_at "go"
    exact tail _ [] (Same.new hp _) upd_same .nil
  | @some _ c hc =>
    obtain ⟨a', rfl⟩ := hc.ref
    walk_at "go"
    refine ⟨_, rfl, .inl ⟨rfl, _, SqL.of upd_same⟩, ?_⟩
    walk_at "go"
    refine ⟨a, _, dx, fs, _, rfl, Same.new hp _ _ _ hi, hcl, hn, hlk, ?_⟩
    walk_at "go"
    refine stp _ [] [] _ c (Same.new hp _) upd_same .nil (Nat.zero_le _) (hc.same (Same.new hp _)) hdw l1 _ fun H2 ys e2 h2 hp2 _ => ?_
    exact tail H2 _ e2 h2 hp2
end
end K3
end P6_part
section P7_part
set_option Elab.async false
set_option linter.all false
set_option maxRecDepth 100000
set_option maxHeartbeats 1000000
set_option pp.deepTerms.threshold 5
open PySem PySem.Spec PyProof.Rows L2
/-- go on as far as nothing is open -/
local macro_rules | `(tactic| walk_at "go") => `(tactic| repeat (first
  | with_reducible refine w_seq ?_ | with_reducible refine w_next ?_ | with_reducible refine w_set ?_ | with_reducible refine w_drop ?_ | with_reducible refine w_ret ?_ | with_reducible refine w_retN ?_
  | with_reducible refine w_if ?_ | ((with_reducible refine' w_var ?hv ?_); (case hv => exact rfl)) | with_reducible refine w_c ?_ | with_reducible refine w_nil ?_ | with_reducible refine w_cons ?_ | with_reducible refine w_op ?_ | with_reducible refine w_un ?_
  | with_reducible refine w_test ?_ | with_reducible refine w_tB ?_ | with_reducible refine w_not ?_ | with_reducible refine w_and ?_ | with_reducible refine w_or ?_ | with_reducible refine w_bl ?_
  | with_reducible refine w_andV ?_ | with_reducible refine w_orV ?_ | with_reducible refine w_notV ?_ | with_reducible refine w_ifE ?_ | with_reducible refine w_chain ?_ | with_reducible refine w_i0 ?_
  | with_reducible refine w_call ?_ | with_reducible refine w_callS ?_ | with_reducible refine w_cB ?_ | with_reducible refine w_tup ?_ | with_reducible refine w_lst ?_ | with_reducible refine w_fldV ?_
  | with_reducible refine w_neF ?_ | with_reducible refine w_neT ?_ | with_reducible refine w_notN ?_ | with_reducible refine w_isN ?_ | with_reducible refine w_gname ?_ | with_reducible refine w_gsub ?_ | with_reducible refine w_asg ?_ | with_reducible refine w_yes ?_ | with_reducible refine w_nT ?_ | with_reducible refine w_nF ?_ | with_reducible refine w_iteT ?_ | with_reducible refine w_iteF ?_))
namespace K3
def oV : Option Nat → V
  | none => .non
  | some n => .int (n : Int)
mutual
def Rw.cnt : Rw → Nat
  | .sect rs _ => 1 + Rws.cnt rs
  | .rounds _ rs _ => 1 + Rws.cnt rs
  | _ => 1
def Rws.cnt : List Rw → Nat
  | [] => 0
  | r :: rs => r.cnt + Rws.cnt rs
end
mutual
def Rw.dep : Rw → Nat
  | .sect rs _ => 1 + Rws.dep rs
  | .rounds _ rs _ => 1 + Rws.dep rs
  | _ => 0
def Rws.dep : List Rw → Nat
  | [] => 0
  | r :: rs => max r.dep (Rws.dep rs)
end
mutual
def Rw.flat : Rw → Option Nat → Nat → List (Rw × Option Nat)
  | .sect rs w, ar, n => (.sect rs w, ar) :: Rws.flat rs ar (n + 1)
  | .rounds c rs w, ar, n => (.rounds c rs w, ar) :: Rws.flat rs (some n) (n + 1)
  | .one n os w, ar, _ => [(.one n os w, ar)]
  | .some n os w, ar, _ => [(.some n os w, ar)]
  | .number n l h w, ar, _ => [(.number n l h w, ar)]
  | .check n m w, ar, _ => [(.check n m w, ar)]
def Rws.flat : List Rw → Option Nat → Nat → List (Rw × Option Nat)
  | [], _, _ => []
  | r :: rs, ar, n => r.flat ar n ++ Rws.flat rs ar (n + r.cnt)
end
mutual
theorem Rw.flat_len : ∀ (r : Rw) (ar : Option Nat) (n : Nat), (r.flat ar n).length = r.cnt
  | .sect rs w, ar, n => by unfold Rw.flat Rw.cnt; rw [List.length_cons, Rws.flat_len rs]; omega
  | .rounds c rs w, ar, n => by unfold Rw.flat Rw.cnt; rw [List.length_cons, Rws.flat_len rs]; omega
  | .one _ _ _, _, _ => by unfold Rw.flat Rw.cnt; rfl
  | .some _ _ _, _, _ => by unfold Rw.flat Rw.cnt; rfl
  | .number _ _ _ _, _, _ => by unfold Rw.flat Rw.cnt; rfl
  | .check _ _ _, _, _ => by unfold Rw.flat Rw.cnt; rfl
theorem Rws.flat_len : ∀ (rs : List Rw) (ar : Option Nat) (n : Nat), (Rws.flat rs ar n).length = Rws.cnt rs
  | [], _, _ => by unfold Rws.flat Rws.cnt; rfl
  | r :: rs, ar, n => by unfold Rws.flat Rws.cnt; rw [List.length_append, Rw.flat_len r, Rws.flat_len rs]
end
theorem Rws.flat_app (r : Rw) (ar : Option Nat) : ∀ (rs : List Rw) (n : Nat), Rws.flat (rs ++ [r]) ar n = Rws.flat rs ar n ++ r.flat ar (n + Rws.cnt rs)
  | [], n => by
    show Rws.flat [r] ar n = _
    unfold Rws.flat Rws.flat Rws.cnt
    simp
  | q :: rs, n => by
    show Rws.flat (q :: (rs ++ [r])) ar n = _
    have ih := Rws.flat_app r ar rs (n + q.cnt)
    rw [Rws.flat, ih, Rws.flat, Rws.cnt, List.append_assoc, Nat.add_assoc]
theorem Rws.cnt_app (r : Rw) : ∀ rs : List Rw, Rws.cnt (rs ++ [r]) = Rws.cnt rs + r.cnt
  | [] => by show Rws.cnt [r] = _; unfold Rws.cnt Rws.cnt; omega
  | q :: rs => by
    show Rws.cnt (q :: (rs ++ [r])) = _
    rw [Rws.cnt, Rws.cnt_app r rs, Rws.cnt]
    omega
theorem Rws.cnt_take : ∀ (rs : List Rw) (i : Nat), Rws.cnt (rs.take i) ≤ Rws.cnt rs
  | [], i => by simp
  | r :: rs, 0 => by simp [Rws.cnt]
  | r :: rs, i + 1 => by
    have := Rws.cnt_take rs i
    show Rws.cnt (r :: rs.take i) ≤ _
    rw [Rws.cnt, Rws.cnt]
    omega
theorem Rws.dep_get : ∀ {rs : List Rw} {i : Nat} {r : Rw}, rs[i]? = some r → r.dep ≤ Rws.dep rs
  | [], i, r, h => by simp at h
  | q :: rs, 0, r, h => by
    have e : q = r := by simpa using h
    rw [Rws.dep, e]
    omega
  | q :: rs, i + 1, r, h => by
    have := Rws.dep_get (rs := rs) (i := i) (r := r) (by simpa using h)
    rw [Rws.dep]
    omega
theorem ROs.get {K : PySem.W.Frag} {H : Hp} : ∀ {vs : List V} {rs : List Rw}, ROs K H vs rs → ∀ {i : Nat} {v : V}, vs[i]? = some v → ∃ r, rs[i]? = some r ∧ RO K H v r
  | _, _, .nil, i, v, h => by simp at h
  | _, _, .cons a t, 0, v, h => ⟨_, rfl, by have e := Option.some.inj (show some _ = some v from h); rw [← e]; exact a⟩
  | _, _, .cons a t, i + 1, v, h => ROs.get t (i := i) (by simpa using h)
theorem ROs.length {K : PySem.W.Frag} {H : Hp} : ∀ {vs : List V} {rs : List Rw}, ROs K H vs rs → vs.length = rs.length
  | _, _, .nil => rfl
  | _, _, .cons _ t => congrArg Nat.succ (ROs.length t)
/-- an entry of laid: a tuple of the row and its place of rounds -/
def LE (K : PySem.W.Frag) (H : Hp) (v : V) (e : Rw × Option Nat) : Prop := ∃ t u, v = .ref t ∧ H t = some (.tup [u, oV e.2]) ∧ RO K H u e.1
theorem LE.si {K : PySem.W.Frag} {H H' : Hp} {v : V} {e : Rw × Option Nat} (s : SI H H') (h : LE K H v e) : LE K H' v e := let ⟨t, u, e1, e2, e3⟩ := h; ⟨t, u, e1, s _ _ rfl e2, RO.si s e3⟩
abbrev LA (K : PySem.W.Frag) (H : Hp) : List V → List (Rw × Option Nat) → Prop := Paired (LE K H)
theorem LA.si {K : PySem.W.Frag} {H H' : Hp} (s : SI H H') {vs : List V} {l : List (Rw × Option Nat)} (h : LA K H vs l) : LA K H' vs l := L2.Paired.mapP h fun _ _ q => q.si s
/-- all but l stands -/
def But (l : Addr) (H H' : Hp) : Prop := ∀ b o, b ≠ l → H b = some o → H' b = some o
theorem But.si {l : Addr} {H H' : Hp} (h : But l H H') {xs : List V} (hl : H l = some (.lst xs)) : SI H H' := fun b o k q => h b o (fun z => by rw [z, hl] at q; cases q; cases k) q
theorem But.trans {l : Addr} {H H1 H2 : Hp} (a : But l H H1) (b : But l H1 H2) : But l H H2 := fun c o k q => b c o k (a c o k q)
theorem Same.but {l : Addr} {H H1 : Hp} (a : Same H H1) : But l H H1 := fun c o _ q => a c o q
theorem But.upd {l : Addr} {H : Hp} (o : HO) : But l H (upd H l o) := fun b u k q => by rw [upd_ne k]; exact q
def spLay (K : PySem.W.Frag) (n : Nat) : Sp := fun vs H Q _ => ∃ (a l : Addr) (ar : Option Nat) (xs ys : List V) (rs : List Rw), vs = [.ref a, oV ar, .ref l] ∧ SqT K H a xs ∧ ROs K H xs rs ∧ Rws.dep rs < n ∧ H l = some (.lst ys) ∧ ys.length + Rws.cnt rs ≤ 1000 ∧
  ∀ H' zs, But l H H' → H' l = some (.lst (ys ++ zs)) → LA K H' zs (Rws.flat rs ar ys.length) → Q .non H'
section
variable {P : Program} {w : World} {K : PySem.W.Frag} {mg : Str → Option Value} {base : Heap}
theorem sc_lay_out : FnScope ["rows", "around", "laid", "row", "place"] ["rows", "around", "laid"] (defScope s_lay_out) := ⟨rfl, rfl, rfl, by decide +kernel, rfl, by decide +kernel, by decide +kernel⟩
theorem ok_lay_out (T : Tx K mg) : ∀ n, Ok P w K mg base n (He.ga K "lay_out") ["rows", "around", "laid"] (spLay K n) := by
  obtain ⟨fd, F⟩ := T.f_lay_out
  have b : Binds K fd ["rows", "around", "laid"] [] := F.bindsN fun _ _ _ _ _ _ us hl => match us, hl with | [_, _, _], _ => rfl
  intro n
  induction n with
  | zero =>
    refine ⟨fd, ok_none fun vs H Q E h => ?_, b, F.kp⟩
    obtain ⟨_, _, _, _, _, _, _, _, _, h, _⟩ := h
    omega
  | succ n ih =>
    refine ⟨fd, F.ok sc_lay_out (fun vs H Q E h => ?_) (fun cdv A outer s H vs Q E hr h => ?_), b, F.kp⟩
    · obtain ⟨a, l, ar, xs, ys, rs, rfl, _⟩ := h
      rfl
    obtain ⟨a, l, ar, xs, ys, rs, rfl, ha, hx, hd, hl, hz, q⟩ := h
    refine ⟨_, pss_one (ps_for (passes_of rfl) rfl (pi_tup (pv 0)) (pg_name (i := 3) sc_lay_out.nd rfl (Or.inl rfl))
      (pss_cons (ps_set (i := 4) sc_lay_out.nd rfl (Or.inl rfl) (pe_callB call_len_seq (by rfl) T.z_len PySem.boot_len (pa_cons (pv 2) pa_nil)))
      (pss_cons (ps_expr (pe_bm PySem.F.plainAttrs_list PySem.F.slot_list_append PySem.F.type_list_append mt_append (pv 2) (pa_cons (pe_tup (pa_cons (pv 3) (pa_cons (pv 1) pa_nil))) pa_nil)))
      (pss_cons (ps_if (pt_val (pe_callB call_isi (by rfl) T.z_isinstance (by decide +kernel) (pa_cons (pv 3) (pa_cons (pe_gref T.g_Section) pa_nil)))) (pss_one (ps_expr (pe_f ih hr T.g_lay_out (pa_cons (pe_fld (pv 3) rfl) (pa_cons (pv 1) (pa_cons (pv 2) pa_nil)))))) pss_nil)
      (pss_one (ps_if (pt_val (pe_callB call_isi (by rfl) T.z_isinstance (by decide +kernel) (pa_cons (pv 3) (pa_cons (pe_gref T.g_Rounds) pa_nil)))) (pss_one (ps_expr (pe_f ih hr T.g_lay_out (pa_cons (pe_fld (pv 3) rfl) (pa_cons (pv 4) (pa_cons (pv 2) pa_nil)))))) pss_nil)))))), ?_⟩
    walk_at "go"
    refine ⟨_, rfl, a, rfl, ⟨_, ha⟩, ?_⟩
    refine for_tup (K := K) (a := a) (xs := xs) (fun (i : Nat) σ H' => ∃ v v' : Option V, σ = [some (.ref a), some (oV ar), some (.ref l), v, v'] ∧ But l H H' ∧
      ∃ zs, H' l = some (.lst (ys ++ zs)) ∧ LA K H' zs (Rws.flat (rs.take i) ar ys.length)) ⟨none, none, rfl, fun _ _ _ h => h, [], by rw [List.append_nil]; exact hl, by show LA K H [] (Rws.flat [] ar ys.length); rw [Rws.flat]; exact .nil⟩
      (fun i σ H' _ ⟨_, _, _, e, _⟩ => (e.si hl).sqt ha) ?_ ?_
    · rintro i x σ H1 hi ⟨v, v', rfl, e1, zs, h1, hzs⟩
      obtain ⟨r, hr1, hxr⟩ := hx.get hi
      have hlt : i < rs.length := (List.getElem?_eq_some_iff.mp hr1).1
      have hxr1 := RO.si (e1.si hl) hxr
      have hdr := Rws.dep_get hr1
      have lz := hzs.length
      rw [Rws.flat_len] at lz
      have tk : rs.take (i + 1) = rs.take i ++ [r] := by rw [List.take_add_one, hr1] <;> rfl
      have hc1 : Rws.cnt (rs.take i) + r.cnt ≤ Rws.cnt rs := by
        have := Rws.cnt_take rs (i + 1)
        rw [tk, Rws.cnt_app] at this
        exact this
      walk_at "go"
      refine ⟨l, _, rfl, .inl (SqL.of h1), ?_⟩
      walk_at "go"
      refine ⟨_, rfl, .inl ⟨rfl, _, SqL.of h1⟩, ?_⟩
      walk_at "go"
      refine ⟨(by show 2 ≤ sizeLine; decide), fun t ht => ?_⟩
      have h1t : upd H1 t (.tup [x, oV ar]) l = some (.lst (ys ++ zs)) := Same.new ht _ _ _ h1
      have lyz : (ys ++ zs).length = ys.length + Rws.cnt (rs.take i) := by rw [List.length_append, lz]
      walk_at "go"
      refine ⟨l, _, _, rfl, rfl, h1t, Nat.lt_of_le_of_lt (show (ys ++ zs).length ≤ 1000 by omega) (by decide), ?_⟩
      have elen : (ys ++ zs ++ [V.ref t]).length = ys.length + Rws.cnt (rs.take i) + 1 := by rw [List.length_append, lyz]; rfl
      have s2 : SI H1 (upd (upd H1 t (.tup [x, oV ar])) l (.lst (ys ++ zs ++ [.ref t]))) := (Same.new ht _).si.trans (SI.upd h1t rfl _)
      have e2 : But l H1 (upd (upd H1 t (.tup [x, oV ar])) l (.lst (ys ++ zs ++ [.ref t]))) := (K3.Same.but (Same.new ht _)).trans (But.upd _)
      have h2 : (upd (upd H1 t (.tup [x, oV ar])) l (.lst (ys ++ zs ++ [.ref t]))) l = some (.lst (ys ++ zs ++ [.ref t])) := upd_same
      have ht2 : (upd (upd H1 t (.tup [x, oV ar])) l (.lst (ys ++ zs ++ [.ref t]))) t = some (.tup [x, oV ar]) := by
        rw [upd_ne (fun z => by rw [← z, ht] at h1; cases h1)]
        exact upd_same
      generalize upd (upd H1 t (.tup [x, oV ar])) l (.lst (ys ++ zs ++ [.ref t])) = H2 at s2 e2 h2 ht2
      have hx2 := RO.si s2 hxr1
      have entry : LE K H2 (.ref t) (r, ar) := ⟨t, x, rfl, ht2, hx2⟩
      have fin : ∀ (H3 : Hp) (zs3 : List V) (L3 : List (Rw × Option Nat)), But l H2 H3 → H3 l = some (.lst (ys ++ zs ++ [.ref t] ++ zs3)) → LA K H3 zs3 L3 → r.flat ar (ys.length + Rws.cnt (rs.take i)) = (r, ar) :: L3 →
          But l H H3 ∧ ∃ zs, H3 l = some (.lst (ys ++ zs)) ∧ LA K H3 zs (Rws.flat (rs.take (i + 1)) ar ys.length) := by
        intro H3 zs3 L3 e3 h3 l3 ef
        refine ⟨(e1.trans e2).trans e3, zs ++ .ref t :: zs3, by rw [h3]; simp, ?_⟩
        rw [tk, Rws.flat_app, ef]
        exact K3.Paired.app (LA.si (s2.trans (e3.si h2)) hzs) (.cons (LE.si (e3.si h2) entry) l3)
      walk_at "go"
      refine isiR T hx2 (y := "Section") (by decide) ?_
      walk_at "go"
      cases hx2 with
      | @sect a2 t2 xs2 rs2 w2 wv2 hi2 ht' hrs2 hw2 =>
        obtain ⟨dx2, hi2⟩ := id hi2
        show if true = true then _ else _
        walk_at "go"
        refine ⟨a2, _, dx2, _, _, rfl, hi2, T.cl_Section, T.n_Section_rows, rfl, ?_⟩
        walk_at "go"
        refine ⟨t2, l, ar, xs2, ys ++ zs ++ [.ref t], rs2, rfl, ht', hrs2, ?_, h2, ?_, fun H3 zs3 e3 h3 l3 => ?_⟩
        · rw [Rw.dep] at hdr
          omega
        · rw [Rw.cnt] at hc1
          rw [List.length_append, lyz, List.length_singleton]
          omega
        · have hx3 := RO.si (e3.si h2) (.sect (rs := rs2) ⟨dx2, hi2⟩ ht' hrs2 hw2)
          walk_at "go"
          refine isiR T hx3 (y := "Rounds") (by decide) ?_
          walk_at "go"
          show if false = true then _ else _
          refine w_iteF ?_
          rw [elen] at l3
          exact ⟨_, _, rfl, fin H3 zs3 _ e3 h3 l3 (by rw [Rw.flat])⟩
      | @rounds a2 t2 c2 xs2 rs2 w2 wv2 hi2 ht' hrs2 hw2 =>
        show if false = true then _ else _
        refine w_iteF ?_
        have hx3 : RO K H2 (.ref a2) (.rounds c2 rs2 w2) := .rounds hi2 ht' hrs2 hw2
        obtain ⟨dx2, hi2⟩ := id hi2
        walk_at "go"
        refine isiR T hx3 (y := "Rounds") (by decide) ?_
        walk_at "go"
        show if true = true then _ else _
        walk_at "go"
        refine ⟨a2, _, dx2, _, _, rfl, hi2, T.cl_Rounds, T.n_Rounds_rows, rfl, ?_⟩
        walk_at "go"
        refine ⟨t2, l, some (ys ++ zs).length, xs2, ys ++ zs ++ [.ref t], rs2, rfl, ht', hrs2, ?_, h2, ?_, fun H3 zs3 e3 h3 l3 => ?_⟩
        · rw [Rw.dep] at hdr
          omega
        · rw [Rw.cnt] at hc1
          rw [List.length_append, lyz, List.length_singleton]
          omega
        · walk_at "go"
          rw [elen, lyz] at l3
          exact ⟨_, _, rfl, fin H3 zs3 _ e3 h3 l3 (by rw [Rw.flat])⟩
      | one h1' h2' h3' =>
        show if false = true then _ else _
        refine w_iteF ?_
        walk_at "go"
        refine isiR T (.one h1' h2' h3') (y := "Rounds") (by decide) ?_
        walk_at "go"
        show if false = true then _ else _
        refine w_iteF ?_
        exact ⟨_, _, rfl, fin _ [] [] (fun _ _ _ h => h) (by rw [h2, List.append_nil]) .nil (by rw [Rw.flat])⟩
      | some h1' h2' h3' =>
        show if false = true then _ else _
        refine w_iteF ?_
        walk_at "go"
        refine isiR T (.some h1' h2' h3') (y := "Rounds") (by decide) ?_
        walk_at "go"
        show if false = true then _ else _
        refine w_iteF ?_
        exact ⟨_, _, rfl, fin _ [] [] (fun _ _ _ h => h) (by rw [h2, List.append_nil]) .nil (by rw [Rw.flat])⟩
      | number h1' h2' =>
        show if false = true then _ else _
        refine w_iteF ?_
        walk_at "go"
        refine isiR T (.number h1' h2') (y := "Rounds") (by decide) ?_
        walk_at "go"
        show if false = true then _ else _
        refine w_iteF ?_
        exact ⟨_, _, rfl, fin _ [] [] (fun _ _ _ h => h) (by rw [h2, List.append_nil]) .nil (by rw [Rw.flat])⟩
      | check h1' h2' h3' =>
        show if false = true then _ else _
        refine w_iteF ?_
        walk_at "go"
        refine isiR T (.check h1' h2' h3') (y := "Rounds") (by decide) ?_
        walk_at "go"
        show if false = true then _ else _
        refine w_iteF ?_
        exact ⟨_, _, rfl, fin _ [] [] (fun _ _ _ h => h) (by rw [h2, List.append_nil]) .nil (by rw [Rw.flat])⟩
    · rintro σ H1 ⟨v, v', rfl, e1, zs, h1, hzs⟩
      rw [hx.length, List.take_length] at hzs
      exact q H1 zs e1 h1 hzs
end
end K3
end P7_part
section P8_part
set_option Elab.async false
set_option linter.all false
set_option maxRecDepth 100000
set_option maxHeartbeats 1000000
set_option pp.deepTerms.threshold 5
open PySem PySem.Spec PyProof.Rows L2
/-- go on as far as nothing is open -/
local macro_rules | `(tactic| walk_at "go") => `(tactic| repeat (first
  | with_reducible refine w_seq ?_ | with_reducible refine w_next ?_ | with_reducible refine w_set ?_ | with_reducible refine w_drop ?_ | with_reducible refine w_ret ?_ | with_reducible refine w_retN ?_
  | with_reducible refine w_if ?_ | ((with_reducible refine' w_var ?hv ?_); (case hv => exact rfl)) | with_reducible refine w_c ?_ | with_reducible refine w_nil ?_ | with_reducible refine w_cons ?_ | with_reducible refine w_op ?_ | with_reducible refine w_un ?_
  | with_reducible refine w_test ?_ | with_reducible refine w_tB ?_ | with_reducible refine w_not ?_ | with_reducible refine w_and ?_ | with_reducible refine w_or ?_ | with_reducible refine w_bl ?_
  | with_reducible refine w_andV ?_ | with_reducible refine w_orV ?_ | with_reducible refine w_notV ?_ | with_reducible refine w_ifE ?_ | with_reducible refine w_chain ?_ | with_reducible refine w_i0 ?_
  | with_reducible refine w_call ?_ | with_reducible refine w_callS ?_ | with_reducible refine w_cB ?_ | with_reducible refine w_tup ?_ | with_reducible refine w_lst ?_ | with_reducible refine w_fldV ?_
  | with_reducible refine w_neF ?_ | with_reducible refine w_neT ?_ | with_reducible refine w_notN ?_ | with_reducible refine w_isN ?_ | with_reducible refine w_gname ?_ | with_reducible refine w_gsub ?_ | with_reducible refine w_asg ?_ | with_reducible refine w_yes ?_ | with_reducible refine w_nT ?_ | with_reducible refine w_nF ?_ | with_reducible refine w_iteT ?_ | with_reducible refine w_iteF ?_))
namespace K3
def Rw.name : Rw → Str
  | .one n _ _ => n | .some n _ _ => n | .number n _ _ _ => n | .check n _ _ => n | .sect _ _ => "" | .rounds n _ _ => n
/-- the named rows ahead -/
abbrev AL := List (Str × Rw × Option Nat)
def look (L : AL) (z : Str) : Option (Rw × Option Nat) := (L.find? fun e => decide (e.1 = z)).map (·.2)
def quest (L : AL) (z : Str) (ar : Option Nat) : Sum Flt Rw := match look L z with
  | none => .inl (.quest z)
  | some (r, a) => if r.isQ then (if a ≠ none ∧ a ≠ ar then .inl (.quest z) else .inr r) else .inl (.quest z)
def suitsB : Cd → Rw → Bool
  | .is _ o, .one _ os _ => decide (o ∈ os)
  | .is _ _, _ => false
  | .has _ o, .some _ os _ => decide (o ∈ os)
  | .has _ _, _ => false
  | _, .number _ _ _ _ => true
  | _, _ => false
def Cd.name : Cd → Str
  | .is n _ => n | .has n _ => n | .over n _ => n | .under n _ => n | _ => ""
/-- an entry of ahead -/
def EA (K : PySem.W.Frag) (H : Hp) (kv : Key × V) (e : Str × Rw × Option Nat) : Prop := kv.1 = Sum.inr e.1 ∧ ∃ t u, kv.2 = .ref t ∧ H t = some (.tup [u, oV e.2.2]) ∧ RO K H u e.2.1
def AHd (K : PySem.W.Frag) (H : Hp) (d : Addr) (L : AL) : Prop := ∃ kvs, H d = some (.dK kvs) ∧ Paired (EA K H) kvs L
theorem EA.si {K : PySem.W.Frag} {H H' : Hp} (s : SI H H') {kv : Key × V} {e : Str × Rw × Option Nat} (h : EA K H kv e) : EA K H' kv e := let ⟨h1, t, u, h2, h3, h4⟩ := h; ⟨h1, t, u, h2, s _ _ rfl h3, RO.si s h4⟩
theorem AHd.same {K : PySem.W.Frag} {H H' : Hp} (e : Same H H') {d : Addr} {L : AL} (h : AHd K H d L) : AHd K H' d L := let ⟨kvs, h1, h2⟩ := h; ⟨kvs, e _ _ h1, L2.Paired.mapP h2 fun _ _ q => q.si e.si⟩
theorem look_ea {K : PySem.W.Frag} {H : Hp} (z : Str) : ∀ {kvs : List (Key × V)} {L : AL}, Paired (EA K H) kvs L → (valV kvs (Sum.inr z) = none ∧ look L z = none) ∨ ∃ t u r a, valV kvs (Sum.inr z) = some (.ref t) ∧ look L z = some (r, a) ∧ H t = some (.tup [u, oV a]) ∧ RO K H u r
  | _, _, .nil => .inl ⟨rfl, rfl⟩
  | _, _, .cons (a := kv) (b := e) h t => by
    obtain ⟨h1, x, u, h2, h3, h4⟩ := h
    by_cases c : e.1 = z
    · refine .inr ⟨x, u, e.2.1, e.2.2, ?_, ?_, h3, h4⟩
      · rw [valV_pos (p := kv) (by rw [h1, c]), h2]
      · unfold look
        rw [List.find?_cons, decide_eq_true c] <;> rfl
    · have ih := look_ea z t
      have e1 : ¬ kv.1 = Sum.inr z := by rw [h1]; exact fun q => c (Sum.inr.inj q)
      rw [valV_neg e1]
      have e2 : ∀ l : AL, look (e :: l) z = look l z := fun l => by
        unfold look
        rw [List.find?_cons, decide_eq_false c]
      rw [e2]
      exact ih
def EndQ (K : PySem.W.Frag) (s : Sum Flt Rw) (H : Hp) (Q : VK) (E : XK) : Prop := match s with
  | .inl f => ∀ cls dd H', Same H H' → IsF K f cls dd H' → E cls dd H'
  | .inr r => ∀ v H', Same H H' → RO K H' v r → Q v H'
def spQA (K : PySem.W.Frag) : Sp := fun vs H Q E => ∃ (z : Str) (ar : Option Nat) (d : Addr) (L : AL), vs = [.str z, oV ar, .ref d] ∧ AHd K H d L ∧ EndQ K (quest L z ar) H Q E
theorem quest_none {L : AL} {z : Str} {ar : Option Nat} (h : look L z = none) : quest L z ar = .inl (.quest z) := by unfold quest; rw [h]
theorem quest_no {L : AL} {z : Str} {ar a : Option Nat} {r : Rw} (h : look L z = some (r, a)) (hq : r.isQ = false) : quest L z ar = .inl (.quest z) := by
  unfold quest; rw [h]
  show (if r.isQ = true then _ else _) = _
  rw [hq] <;> rfl
theorem quest_far {L : AL} {z : Str} {ar a : Option Nat} {r : Rw} (h : look L z = some (r, a)) (hq : r.isQ = true) (c : a ≠ none ∧ a ≠ ar) : quest L z ar = .inl (.quest z) := by
  unfold quest; rw [h]
  show (if r.isQ = true then (if a ≠ none ∧ a ≠ ar then _ else _) else _) = _
  rw [if_pos hq, if_pos c]
theorem quest_ok {L : AL} {z : Str} {ar a : Option Nat} {r : Rw} (h : look L z = some (r, a)) (hq : r.isQ = true) (c : ¬ (a ≠ none ∧ a ≠ ar)) : quest L z ar = .inr r := by
  unfold quest; rw [h]
  show (if r.isQ = true then (if a ≠ none ∧ a ≠ ar then _ else _) else _) = _
  rw [if_pos hq, if_neg c]
def spSuits (K : PySem.W.Frag) : Sp := fun vs H Q _ => ∃ (v u : V) (c : Cd) (r : Rw), vs = [v, u] ∧ CO K H v c ∧ RO K H u r ∧ ∀ H', Same H H' → Q (.bl (suitsB c r)) H'
theorem inV_strs {o : Str} {os : List Str} : inV (.str o) (os.map V.str) = decide (o ∈ os) := by
  unfold inV
  rw [List.any_map]
  induction os with
  | nil => simp
  | cons a r ih =>
    rw [List.any_cons, ih]
    show ((a == o) || _) = _
    by_cases h : a = o
    · subst h
      simp
    · rw [beq_eq_false_iff_ne.mpr h, Bool.false_or]
      by_cases h2 : o ∈ r
      · simp [h2]
      · simp [h2, Ne.symm h]
theorem flat_strs (os : List Str) : (os.map V.str).all flatV = true := by
  rw [List.all_map, List.all_eq_true]
  intro x _
  rfl
theorem oV_eq {a b : Option Nat} : decide (oV a = oV b) = decide (a = b) := by
  cases a <;> cases b <;> simp [oV]
  omega
theorem oV_scal (a b : Option Nat) : scal (oV a) (oV b) = true := by cases a <;> cases b <;> rfl
section
variable {P : Program} {w : World} {K : PySem.W.Frag} {mg : Str → Option Value} {base : Heap}
theorem ro_name (T : Tx K mg) {H : Hp} {v : V} {r : Rw} (h : RO K H v r) (hn : r.isN = true) : ∃ a dx fs, v = .ref a ∧ H a = some (.ins (He.ga K r.nm) dx fs) ∧ Cls K (He.ga K r.nm) ∧ NoAttr K (He.ga K r.nm) "name" ∧ fs.lookup ("name" : Str) = some (.str r.name) := by
  cases h with
  | one h _ w => obtain ⟨dx, h⟩ := h; exact ⟨_, dx, _, rfl, h, T.cl_One, T.n_One_name, rfl⟩
  | some h _ w => obtain ⟨dx, h⟩ := h; exact ⟨_, dx, _, rfl, h, T.cl_Some, T.n_Some_name, rfl⟩
  | number h w => obtain ⟨dx, h⟩ := h; exact ⟨_, dx, _, rfl, h, T.cl_Number, T.n_Number_name, rfl⟩
  | check h _ w => obtain ⟨dx, h⟩ := h; exact ⟨_, dx, _, rfl, h, T.cl_Check, T.n_Check_name, rfl⟩
  | sect h _ _ w => cases hn
  | rounds h _ _ w => cases hn
theorem sc_question_ahead : FnScope ["name", "around", "ahead", "question", "rounds"] ["name", "around", "ahead"] (defScope s_question_ahead) := ⟨rfl, rfl, rfl, by decide +kernel, rfl, by decide +kernel, by decide +kernel⟩
theorem ok_question_ahead (T : Tx K mg) : Ok P w K mg base 3 (He.ga K "question_ahead") ["name", "around", "ahead"] (spQA K) := by
  obtain ⟨fd, F⟩ := T.f_question_ahead
  refine ⟨fd, F.ok sc_question_ahead (fun vs H Q E h => ?_) (fun cdv A outer s H vs Q E hr h => ?_), F.bindsN fun _ _ _ _ _ _ us hl => match us, hl with | [_, _, _], _ => rfl, F.kp⟩
  · obtain ⟨z, ar, d, L, rfl, _⟩ := h
    rfl
  obtain ⟨z, ar, d, L, rfl, hL, q⟩ := h
  have err := fun {D : Ends} {σ : L2.St} {H1 : Hp} => @gErr1_of K "NoQuestion" "name" (.str z) H1
  refine ⟨_, pss_cons (ps_if (pt_cmp (pc_dnotin (hu_of hr) (pv 0) (pv 2))) (pss_one (ps_err1 (T.err (x := "NoQuestion") (by decide)) T.m_NoQuestion_init (ok_NoQuestion T) hr T.g_NoQuestion (takes_of rfl rfl rfl rfl) (pv 0))) pss_nil)
    (pss_cons (ps_asg (pe_dget (hu_of hr) (pv 2) (pv 0) (fun _ _ => rfl)) (pg_tup rfl (pgs_cons (pg_name (i := 3) sc_question_ahead.nd rfl (Or.inl rfl)) (pgs_cons (pg_name (i := 4) sc_question_ahead.nd rfl (Or.inl rfl)) pgs_nil))))
    (pss_cons (ps_if (pt_not (pt_val (pe_f (ok_is_question T) (hr.mono (by decide)) T.g_is_question (pa_cons (pv 3) pa_nil)))) (pss_one (ps_err1 (T.err (x := "NoQuestion") (by decide)) T.m_NoQuestion_init (ok_NoQuestion T) hr T.g_NoQuestion (takes_of rfl rfl rfl rfl) (pv 0))) pss_nil)
    (pss_cons (ps_if (pw_and (pt_cmp (pc_notN (pv 4))) (pw_and1 (pt_cmpR op_ne (pv 4) (pv 1) (nomark _)))).pt (pss_one (ps_err1 (T.err (x := "NoQuestion") (by decide)) T.m_NoQuestion_init (ok_NoQuestion T) hr T.g_NoQuestion (takes_of rfl rfl rfl rfl) (pv 0))) pss_nil)
    (pss_one (ps_ret (pv 3)))))), ?_⟩
  obtain ⟨kvs, hd, hp⟩ := hL
  walk_at "go"
  refine ⟨_, rfl, _, rfl, d, _, rfl, DGet.k (k := Sum.inr z) hd, ?_⟩
  walk_at "go"
  rcases look_ea z hp with ⟨h1, h2⟩ | ⟨t, u, r, a, h1, h2, h3, h4⟩
  · rw [h1]
    rw [quest_none h2] at q
    walk_at "go"
    show if true = true then _ else _
    walk_at "go"
    refine w_err1 ?_
    walk_at "go"
    exact gErr1_of fun dd H2 e2 h2 => q _ _ H2 e2 ⟨rfl, dd, rfl, h2⟩
  · rw [h1]
    walk_at "go"
    show if false = true then _ else _
    walk_at "go"
    refine ⟨_, rfl, _, rfl, d, _, rfl, by rw [← h1]; exact DGet.k (k := Sum.inr z) hd, ?_⟩
    refine ⟨t, _, rfl, SqT.of h3, rfl, _, _, rfl, ?_⟩
    walk_at "go"
    refine ⟨_, _, rfl, ?_⟩
    walk_at "go"
    refine ⟨rfl, ?_⟩
    walk_at "go"
    refine ⟨u, r, rfl, h4, fun H1 e1 => ?_⟩
    cases hq : r.isQ with
    | false =>
      rw [quest_no h2 hq] at q
      walk_at "go"
      refine w_err1 ?_
      walk_at "go"
      exact gErr1_of fun dd H2 e2 h2 => q _ _ H2 (e1.trans e2) ⟨rfl, dd, rfl, h2⟩
    | true =>
      walk_at "go"
      have ne1 : decide (oV a = V.non) = decide (a = none) := oV_eq (b := none)
      by_cases c1 : a = none
      · rw [quest_ok h2 hq (fun z => z.1 c1)] at q
        rw [ne1, decide_eq_true c1]
        walk_at "go"
        exact q u H1 e1 (h4.same e1)
      · rw [ne1, decide_eq_false c1]
        walk_at "go"
        refine ⟨oV_scal _ _, ?_⟩
        walk_at "go"
        rw [oV_eq]
        by_cases c2 : a = ar
        · rw [quest_ok h2 hq (fun z => z.2 c2)] at q
          rw [decide_eq_true c2]
          walk_at "go"
          exact q u H1 e1 (h4.same e1)
        · rw [quest_far h2 hq ⟨c1, c2⟩] at q
          rw [decide_eq_false c2]
          walk_at "go"
          refine w_err1 ?_
          walk_at "go"
          exact gErr1_of fun dd H2 e2 h2 => q _ _ H2 (e1.trans e2) ⟨rfl, dd, rfl, h2⟩
theorem sc_suits : FnScope ["condition", "question"] ["condition", "question"] (defScope s_suits) := ⟨rfl, rfl, rfl, by decide +kernel, rfl, by decide +kernel, by decide +kernel⟩
theorem ok_suits (T : Tx K mg) : Ok P w K mg base 1 (He.ga K "suits") ["condition", "question"] (spSuits K) := by
  obtain ⟨fd, F⟩ := T.f_suits
  refine ⟨fd, F.ok sc_suits (fun vs H Q E h => ?_) (fun cdv A outer s H vs Q E hr h => ?_), F.bindsN fun _ _ _ _ _ _ us hl => match us, hl with | [_, _], _ => rfl, F.kp⟩
  · obtain ⟨v, u, c, r, rfl, _⟩ := h
    rfl
  obtain ⟨v, u, c, r, rfl, hc, hu, q⟩ := h
  refine ⟨_, pss_cons (ps_if (pt_val (pe_callB call_isi (by rfl) T.z_isinstance (by decide +kernel) (pa_cons (pv 0) (pa_cons (pe_gref T.g_Is) pa_nil))))
      (pss_one (ps_ret (pe_and (pe_callB call_isi (by rfl) T.z_isinstance (by decide +kernel) (pa_cons (pv 1) (pa_cons (pe_gref T.g_One) pa_nil))) (pe_one (pe_cmpR op_in_seq (pe_fld (pv 0) rfl) (pe_fld (pv 1) rfl) rfl))))) pss_nil)
    (pss_cons (ps_if (pt_val (pe_callB call_isi (by rfl) T.z_isinstance (by decide +kernel) (pa_cons (pv 0) (pa_cons (pe_gref T.g_Has) pa_nil))))
      (pss_one (ps_ret (pe_and (pe_callB call_isi (by rfl) T.z_isinstance (by decide +kernel) (pa_cons (pv 1) (pa_cons (pe_gref T.g_Some) pa_nil))) (pe_one (pe_cmpR op_in_seq (pe_fld (pv 0) rfl) (pe_fld (pv 1) rfl) rfl))))) pss_nil)
    (pss_one (ps_ret (pe_callB call_isi (by rfl) T.z_isinstance (by decide +kernel) (pa_cons (pv 1) (pa_cons (pe_gref T.g_Number) pa_nil)))))), ?_⟩
  walk_at "go"
  refine isiC T hc (y := "Is") (by decide) ?_
  walk_at "go"
  cases hc with
  | @is a n o h =>
    show if true = true then _ else _
    walk_at "go"
    refine isiR T hu (y := "One") (by decide) ?_
    walk_at "go"
    cases hu with
    | @one b t n2 os w2 wv h2 ht hw =>
      show if true = true then _ else _
      walk_at "go"
      obtain ⟨dx, h⟩ := h
      obtain ⟨dx2, h2⟩ := h2
      refine ⟨a, _, dx, _, _, rfl, h, T.cl_Is, T.n_Is_option, rfl, ?_⟩
      walk_at "go"
      refine ⟨b, _, dx2, _, _, rfl, h2, T.cl_One, T.n_One_options, rfl, ?_⟩
      walk_at "go"
      refine ⟨t, _, rfl, .inr ht, rfl, flat_strs _, ?_⟩
      have := q H (Same.refl _)
      show Q (.bl (inV (.str o) (os.map V.str))) H
      rw [inV_strs]
      exact this
    | _ =>
      show if false = true then _ else _
      refine w_iteF ?_
      exact q H (Same.refl _)
  | @has a n o h =>
    show if false = true then _ else _
    refine w_iteF ?_
    walk_at "go"
    refine isiC T (.has h) (y := "Has") (by decide) ?_
    walk_at "go"
    show if true = true then _ else _
    walk_at "go"
    refine isiR T hu (y := "Some") (by decide) ?_
    walk_at "go"
    cases hu with
    | @some b t n2 os w2 wv h2 ht hw =>
      show if true = true then _ else _
      walk_at "go"
      obtain ⟨dx, h⟩ := h
      obtain ⟨dx2, h2⟩ := h2
      refine ⟨a, _, dx, _, _, rfl, h, T.cl_Has, T.n_Has_option, rfl, ?_⟩
      walk_at "go"
      refine ⟨b, _, dx2, _, _, rfl, h2, T.cl_Some, T.n_Some_options, rfl, ?_⟩
      walk_at "go"
      refine ⟨t, _, rfl, .inr ht, rfl, flat_strs _, ?_⟩
      have := q H (Same.refl _)
      show Q (.bl (inV (.str o) (os.map V.str))) H
      rw [inV_strs]
      exact this
    | _ =>
      show if false = true then _ else _
      refine w_iteF ?_
      exact q H (Same.refl _)
  | over h => exact h.elim
  | under h => exact h.elim
  | no h h2 =>
    show if false = true then _ else _
    refine w_iteF ?_
    walk_at "go"
    refine isiC T (.no h h2) (y := "Has") (by decide) ?_
    walk_at "go"
    show if false = true then _ else _
    refine w_iteF ?_
    walk_at "go"
    refine isiR T hu (y := "Number") (by decide) ?_
    cases r <;> exact q H (Same.refl _)
  | both h h2 h3 =>
    show if false = true then _ else _
    refine w_iteF ?_
    walk_at "go"
    refine isiC T (.both h h2 h3) (y := "Has") (by decide) ?_
    walk_at "go"
    show if false = true then _ else _
    refine w_iteF ?_
    walk_at "go"
    refine isiR T hu (y := "Number") (by decide) ?_
    cases r <;> exact q H (Same.refl _)
  | either h h2 h3 =>
    show if false = true then _ else _
    refine w_iteF ?_
    walk_at "go"
    refine isiC T (.either h h2 h3) (y := "Has") (by decide) ?_
    walk_at "go"
    show if false = true then _ else _
    refine w_iteF ?_
    walk_at "go"
    refine isiR T hu (y := "Number") (by decide) ?_
    cases r <;> exact q H (Same.refl _)
end
end K3
end P8_part
section P9_part
set_option Elab.async false
set_option linter.all false
set_option maxRecDepth 100000
set_option maxHeartbeats 1000000
set_option pp.deepTerms.threshold 5
open PySem PySem.Spec PyProof.Rows L2
/-- go on as far as nothing is open -/
local macro_rules | `(tactic| walk_at "go") => `(tactic| repeat (first
  | with_reducible refine w_seq ?_ | with_reducible refine w_next ?_ | with_reducible refine w_set ?_ | with_reducible refine w_drop ?_ | with_reducible refine w_ret ?_ | with_reducible refine w_retN ?_
  | with_reducible refine w_if ?_ | ((with_reducible refine' w_var ?hv ?_); (case hv => exact rfl)) | with_reducible refine w_c ?_ | with_reducible refine w_nil ?_ | with_reducible refine w_cons ?_ | with_reducible refine w_op ?_ | with_reducible refine w_un ?_
  | with_reducible refine w_test ?_ | with_reducible refine w_tB ?_ | with_reducible refine w_not ?_ | with_reducible refine w_and ?_ | with_reducible refine w_or ?_ | with_reducible refine w_bl ?_
  | with_reducible refine w_andV ?_ | with_reducible refine w_orV ?_ | with_reducible refine w_notV ?_ | with_reducible refine w_ifE ?_ | with_reducible refine w_chain ?_ | with_reducible refine w_i0 ?_
  | with_reducible refine w_call ?_ | with_reducible refine w_callS ?_ | with_reducible refine w_cB ?_ | with_reducible refine w_tup ?_ | with_reducible refine w_lst ?_ | with_reducible refine w_fldV ?_
  | with_reducible refine w_neF ?_ | with_reducible refine w_neT ?_ | with_reducible refine w_notN ?_ | with_reducible refine w_isN ?_ | with_reducible refine w_gname ?_ | with_reducible refine w_gsub ?_ | with_reducible refine w_asg ?_ | with_reducible refine w_yes ?_ | with_reducible refine w_nT ?_ | with_reducible refine w_nF ?_ | with_reducible refine w_iteT ?_ | with_reducible refine w_iteF ?_))
namespace K3
def thenF : Option Flt → Option Flt → Option Flt
  | some f, _ => some f
  | none, g => g
theorem End_seq {K : PySem.W.Frag} {a b : Option Flt} {H : Hp} {Q Q' : VK} {E : XK} (q : End K (thenF a b) H Q E) (k : ∀ H', Same H H' → End K b H' Q E → Q' .non H') : End K a H Q' E := by
  cases a with
  | some f => exact q
  | none => exact fun H' e => k H' e (q.mono e)
theorem thenF_none (a : Option Flt) : thenF a none = a := by cases a <;> rfl
def namesF : List Str → Option Flt
  | [] => none
  | z :: r => thenF (nameF z) (namesF r)
def optF (os : List Str) (most : Nat) : Option Flt := if 1 ≤ os.length ∧ os.length ≤ most then thenF (namesF os) (dupF os) else some (.count "options" os.length)
def ckName (L : AL) (r : Rw) : Option Flt := if r.isN then thenF (nameF r.name) (if (look L r.name).isSome then some (.twice r.name) else none) else none
def ckOpt : Rw → Option Flt
  | .one _ os _ => optF os 6
  | .some _ os _ => optF os 4
  | _ => none
def ckBound : Rw → Option Flt
  | .number _ lo hi _ => if hi < lo then some (.count "bounds" hi) else none
  | _ => none
def ckInner (r : Rw) (ar : Option Nat) : Option Flt := match r with
  | .sect rs _ => if rs.length = 0 then some (.count "rows" 0) else none
  | .rounds _ rs _ => if rs.length = 0 then some (.count "rows" 0) else if ar = none then none else some (.count "rounds" 2)
  | _ => none
def fitN (q : Rw) : Option Flt := match q with
  | .number n lo hi _ => if lo < 0 then some (.fit n) else if 4 < hi then some (.fit n) else none
  | q => some (.fit q.name)
def ckCount (L : AL) (r : Rw) (ar : Option Nat) : Option Flt := match r with
  | .rounds n _ _ => (match quest L n ar with
    | .inl f => some f
    | .inr q => fitN q)
  | _ => none
def ckCond (L : AL) (ar : Option Nat) (c : Cd) : Option Flt := match quest L c.name ar with
  | .inl f => some f
  | .inr q => if suitsB c q then none else some (.fit q.name)
def ckConds (L : AL) (ar : Option Nat) : List Cd → Option Flt
  | [] => none
  | c :: r => thenF (ckCond L ar c) (ckConds L ar r)
def ckRow (L : AL) (r : Rw) (ar : Option Nat) : Option Flt := thenF (ckName L r) (thenF (ckOpt r) (thenF (ckBound r) (thenF (ckInner r ar) (thenF (ckCount L r ar) (ckConds L ar r.conds)))))
def Rw.opts : Rw → List Str
  | .one _ os _ => os | .some _ os _ => os | _ => []
structure RwB (n : Nat) (r : Rw) : Prop where
  cd : r.cdep < n
  c1 : (owh r.wh).length ≤ 1000
  c2 : r.mu.length ≤ 1000
  nm : r.name.length ≤ 1000
  ol : r.opts.length ≤ 1000
  os : ∀ o ∈ r.opts, o.length ≤ 1000
def Cd.isS : Cd → Bool
  | .no _ => false | .both _ _ => false | .either _ _ => false | _ => true
theorem simp_isS : ∀ (c : Cd), ∀ d ∈ c.simp, d.isS = true
  | .no c, d, h => simp_isS c d h
  | .both a b, d, h => by
    rcases List.mem_append.mp (show d ∈ a.simp ++ b.simp from h) with h | h
    · exact simp_isS a d h
    · exact simp_isS b d h
  | .either a b, d, h => by
    rcases List.mem_append.mp (show d ∈ a.simp ++ b.simp from h) with h | h
    · exact simp_isS a d h
    · exact simp_isS b d h
  | .is n o, d, h => by rw [List.mem_singleton.mp (show d ∈ [Cd.is n o] from h)] <;> rfl
  | .has n o, d, h => by rw [List.mem_singleton.mp (show d ∈ [Cd.has n o] from h)] <;> rfl
  | .over n o, d, h => by rw [List.mem_singleton.mp (show d ∈ [Cd.over n o] from h)] <;> rfl
  | .under n o, d, h => by rw [List.mem_singleton.mp (show d ∈ [Cd.under n o] from h)] <;> rfl
theorem conds_isS (r : Rw) : ∀ d ∈ r.conds, d.isS = true := fun d h => by
  rcases List.mem_append.mp (show d ∈ owh r.wh ++ r.mu from h) with h | h
  · cases e : r.wh with
    | none => rw [e] at h; cases h
    | some c => rw [e] at h; exact simp_isS c d h
  · cases r with
    | check n m w => exact simp_isS m d h
    | _ => cases h
/-- a def that checks: vs, and what it refuses -/
def spCk (K : PySem.W.Frag) (n : Nat) (f : Rw → Option Flt) : Sp := fun vs H Q E => ∃ (v : V) (r : Rw), vs = [v] ∧ RO K H v r ∧ RwB n r ∧ End K (f r) H Q E
def spCkL (K : PySem.W.Frag) (n : Nat) (f : AL → Rw → Option Flt) : Sp := fun vs H Q E => ∃ (v : V) (r : Rw) (d : Addr) (L : AL), vs = [v, .ref d] ∧ RO K H v r ∧ RwB n r ∧ AHd K H d L ∧ End K (f L r) H Q E
def spCkA (K : PySem.W.Frag) (n : Nat) (f : Rw → Option Nat → Option Flt) : Sp := fun vs H Q E => ∃ (v : V) (r : Rw) (ar : Option Nat), vs = [v, oV ar] ∧ RO K H v r ∧ RwB n r ∧ End K (f r ar) H Q E
def spCkLA (K : PySem.W.Frag) (n : Nat) (f : AL → Rw → Option Nat → Option Flt) : Sp := fun vs H Q E => ∃ (v : V) (r : Rw) (ar : Option Nat) (d : Addr) (L : AL), vs = [v, oV ar, .ref d] ∧ RO K H v r ∧ RwB n r ∧ AHd K H d L ∧ End K (f L r ar) H Q E
def spOpt (K : PySem.W.Frag) : Sp := fun vs H Q E => ∃ (a : Addr) (os : List Str) (most : Nat), vs = [.ref a, .int (most : Int)] ∧ SqT K H a (os.map V.str) ∧ os.length ≤ 1000 ∧ (∀ o ∈ os, o.length ≤ 1000) ∧ End K (optF os most) H Q E
theorem namesF_take {os : List Str} : ∀ {i : Nat} {z : Str}, os[i]? = some z → namesF (os.take i) = none → (nameF z = none → namesF (os.take (i + 1)) = none) ∧ (∀ f, nameF z = some f → namesF os = some f) := by
  induction os with
  | nil => intro i z h; simp at h
  | cons a r ih =>
    intro i z h hn
    cases i with
    | zero =>
      have e : a = z := by simpa using h
      subst e
      refine ⟨fun h => ?_, fun f h => ?_⟩
      · show thenF (nameF a) none = none
        rw [h] <;> rfl
      · show thenF (nameF a) _ = _
        rw [h] <;> rfl
    | succ i =>
      have hn' : thenF (nameF a) (namesF (r.take i)) = none := hn
      cases ha : nameF a with
      | some f => rw [ha] at hn'; cases hn'
      | none =>
        rw [ha] at hn'
        have q := ih (i := i) (z := z) (by simpa using h) hn'
        refine ⟨fun h => ?_, fun f h => ?_⟩
        · show thenF (nameF a) (namesF (r.take (i + 1))) = none
          rw [ha]
          exact q.1 h
        · show thenF (nameF a) (namesF r) = some f
          rw [ha]
          exact q.2 f h
theorem map_get {os : List Str} {i : Nat} {x : V} (hi : (os.map V.str)[i]? = some x) : ∃ z, os[i]? = some z ∧ x = V.str z := by
  rw [List.getElem?_map] at hi
  cases e : os[i]? with
  | none => rw [e] at hi; cases hi
  | some z => rw [e] at hi; exact ⟨z, rfl, (Option.some.inj hi).symm⟩
section
variable {P : Program} {w : World} {K : PySem.W.Frag} {mg : Str → Option Value} {base : Heap}
theorem sc_refuse_options : FnScope ["options", "most", "option"] ["options", "most"] (defScope s_refuse_options) := ⟨rfl, rfl, rfl, by decide +kernel, rfl, by decide +kernel, by decide +kernel⟩
theorem ok_refuse_options (T : Tx K mg) : Ok P w K mg base 4 (He.ga K "refuse_options") ["options", "most"] (spOpt K) := by
  obtain ⟨fd, F⟩ := T.f_refuse_options
  refine ⟨fd, F.ok sc_refuse_options (fun vs H Q E h => ?_) (fun cdv A outer s H vs Q E hr h => ?_), F.bindsN fun _ _ _ _ _ _ us hl => match us, hl with | [_, _], _ => rfl, F.kp⟩
  · obtain ⟨a, os, most, rfl, _⟩ := h
    rfl
  obtain ⟨a, os, most, rfl, ha, hz, ho, q⟩ := h
  refine ⟨_, pss_cons (ps_if (pt_not (pt_chain op_le op_le pe_int (pe_callB call_len_seq (by rfl) T.z_len PySem.boot_len (pa_cons (pv 0) pa_nil)) (pv 1))) (pss_one (ps_err2 (T.err (x := "BadCount") (by decide)) T.m_BadCount_init (ok_BadCount T) (hr.mono (by decide)) T.g_BadCount (takes_of rfl rfl rfl rfl) pe_str (pe_callB call_len_seq (by rfl) T.z_len PySem.boot_len (pa_cons (pv 0) pa_nil)))) pss_nil)
    (pss_cons (ps_for (passes_of rfl) rfl (pi_tup (pv 0)) (pg_name (i := 2) sc_refuse_options.nd rfl (Or.inl rfl)) (pss_one (ps_expr (pe_fE (takes_of rfl rfl rfl rfl) (ok_refuse_no_name T) (hr.mono (by decide)) T.g_refuse_no_name (pa_cons (pv 2) pa_nil)))))
    (pss_one (ps_expr (pe_fE (takes_of rfl rfl rfl rfl) (ok_refuse_twice T) (hr.mono (by decide)) T.g_refuse_twice (pa_cons (pv 0) pa_nil))))), ?_⟩
  have hlen : (os.map V.str).length = os.length := List.length_map _
  walk_at "go"
  refine ⟨a, _, rfl, .inr ha, ?_⟩
  walk_at "go"
  rw [hlen]
  have bad : ¬ (1 ≤ os.length ∧ os.length ≤ most) → gErr2 K "BadCount" "what" "count" (.str "options") (.int (os.length : Int)) H fun cls d H' => E cls d H' := fun c => by
    unfold optF at q
    rw [if_neg c] at q
    exact gErr2_of fun dd H2 e2 h2 => q _ _ H2 e2 ⟨rfl, dd, rfl, h2⟩
  have good : (1 ≤ os.length ∧ os.length ≤ most) → End K (thenF (namesF os) (dupF os)) H Q E := fun c => by
    unfold optF at q
    rw [if_pos c] at q
    exact q
  by_cases c1 : (1 : Int) ≤ (os.length : Int)
  · rw [decide_eq_true c1]
    walk_at "go"
    by_cases c2 : (os.length : Int) ≤ (most : Int)
    · rw [decide_eq_true c2]
      walk_at "go"
      have q := good ⟨by omega, by omega⟩
      refine ⟨_, rfl, a, rfl, ⟨_, ha⟩, ?_⟩
      refine for_tup (K := K) (a := a) (xs := os.map V.str) (fun (i : Nat) σ H' => ∃ v : Option V, σ = [some (.ref a), some (.int (most : Int)), v] ∧ Same H H' ∧ namesF (os.take i) = none) ⟨none, rfl, Same.refl _, rfl⟩ (fun i σ H' _ ⟨_, _, e, _⟩ => e.sqt ha) ?_ ?_
      · rintro i x σ H1 hi ⟨v, rfl, e1, hn⟩
        obtain ⟨z, hz1, rfl⟩ := map_get hi
        have nt := namesF_take hz1 hn
        walk_at "go"
        refine ⟨z, rfl, ho z (List.mem_of_getElem? hz1), ?_⟩
        cases hf : nameF z with
        | none => exact fun H2 e2 => ⟨some (.str z), rfl, e1.trans e2, nt.1 hf⟩
        | some f =>
          intro cls d H2 e2 h2
          have q' := q
          rw [nt.2 f hf] at q'
          exact q' cls d H2 (e1.trans e2) h2
      · rintro σ H1 ⟨v, rfl, e1, hn⟩
        rw [hlen, List.take_length] at hn
        rw [hn] at q
        walk_at "go"
        exact ⟨a, os, rfl, ⟨true, e1.sqt ha⟩, hz, q.mono e1⟩
    · rw [decide_eq_false c2]
      walk_at "go"
      refine w_err2 ?_
      walk_at "go"
      refine ⟨a, _, rfl, .inr ha, ?_⟩
      rw [hlen]
      exact bad (by omega)
  · rw [decide_eq_false c1]
    walk_at "go"
    refine w_err2 ?_
    walk_at "go"
    refine ⟨a, _, rfl, .inr ha, ?_⟩
    rw [hlen]
    exact bad (by omega)
end
end K3
end P9_part
section P10_part
set_option Elab.async false
set_option linter.all false
set_option maxRecDepth 100000
set_option maxHeartbeats 1000000
set_option pp.deepTerms.threshold 5
open PySem PySem.Spec PyProof.Rows L2
/-- go on as far as nothing is open -/
local macro_rules | `(tactic| walk_at "go") => `(tactic| repeat (first
  | with_reducible refine w_seq ?_ | with_reducible refine w_next ?_ | with_reducible refine w_set ?_ | with_reducible refine w_drop ?_ | with_reducible refine w_ret ?_ | with_reducible refine w_retN ?_
  | with_reducible refine w_if ?_ | ((with_reducible refine' w_var ?hv ?_); (case hv => exact rfl)) | with_reducible refine w_c ?_ | with_reducible refine w_nil ?_ | with_reducible refine w_cons ?_ | with_reducible refine w_op ?_ | with_reducible refine w_un ?_
  | with_reducible refine w_test ?_ | with_reducible refine w_tB ?_ | with_reducible refine w_not ?_ | with_reducible refine w_and ?_ | with_reducible refine w_or ?_ | with_reducible refine w_bl ?_
  | with_reducible refine w_andV ?_ | with_reducible refine w_orV ?_ | with_reducible refine w_notV ?_ | with_reducible refine w_ifE ?_ | with_reducible refine w_chain ?_ | with_reducible refine w_i0 ?_
  | with_reducible refine w_call ?_ | with_reducible refine w_callS ?_ | with_reducible refine w_cB ?_ | with_reducible refine w_tup ?_ | with_reducible refine w_lst ?_ | with_reducible refine w_fldV ?_
  | with_reducible refine w_neF ?_ | with_reducible refine w_neT ?_ | with_reducible refine w_notN ?_ | with_reducible refine w_isN ?_ | with_reducible refine w_gname ?_ | with_reducible refine w_gsub ?_ | with_reducible refine w_asg ?_ | with_reducible refine w_yes ?_ | with_reducible refine w_nT ?_ | with_reducible refine w_nF ?_ | with_reducible refine w_iteT ?_ | with_reducible refine w_iteF ?_))
namespace K3
section
variable {P : Program} {w : World} {K : PySem.W.Frag} {mg : Str → Option Value} {base : Heap}
theorem sc_check_name : FnScope ["row", "ahead"] ["row", "ahead"] (defScope s_check_name) := ⟨rfl, rfl, rfl, by decide +kernel, rfl, by decide +kernel, by decide +kernel⟩
theorem ok_check_name (T : Tx K mg) (n : Nat) : Ok P w K mg base 4 (He.ga K "check_name") ["row", "ahead"] (spCkL K n ckName) := by
  obtain ⟨fd, F⟩ := T.f_check_name
  refine ⟨fd, F.ok sc_check_name (fun vs H Q E h => ?_) (fun cdv A outer s H vs Q E hr h => ?_), F.bindsN fun _ _ _ _ _ _ us hl => match us, hl with | [_, _], _ => rfl, F.kp⟩
  · obtain ⟨v, r, d, L, rfl, _⟩ := h
    rfl
  obtain ⟨v, r, d, L, rfl, hv, hB, hL, q⟩ := h
  refine ⟨_, pss_cons (ps_if (pt_not (pt_val (pe_f (ok_is_named T) (hr.mono (by decide)) T.g_is_named (pa_cons (pv 0) pa_nil)))) (pss_one ps_retN) pss_nil)
    (pss_cons (ps_expr (pe_fE (takes_of rfl rfl rfl rfl) (ok_refuse_no_name T) (hr.mono (by decide)) T.g_refuse_no_name (pa_cons (pe_fld (pv 0) rfl) pa_nil)))
    (pss_one (ps_if (pt_cmp (pc_din (hu_of hr) (pe_fld (pv 0) rfl) (pv 1))) (pss_one (ps_err1 (T.err (x := "Twice") (by decide)) T.m_Twice_init (ok_Twice T) (hr.mono (by decide)) T.g_Twice (takes_of rfl rfl rfl rfl) (pe_fld (pv 0) rfl))) pss_nil))), ?_⟩
  walk_at "go"
  refine ⟨v, r, rfl, hv, fun H1 e1 => ?_⟩
  have hL1 := hL.same e1
  have hv1 := hv.same e1
  have q1 := q.mono e1
  unfold ckName at q1
  cases hn : r.isN with
  | false =>
    rw [hn] at q1
    walk_at "go"
    exact q1 H1 (Same.refl _)
  | true =>
    rw [hn, if_pos rfl] at q1
    obtain ⟨a, dx, fs, rfl, hi, hcl, hna, hlk⟩ := ro_name T hv1 hn
    walk_at "go"
    refine ⟨a, _, dx, fs, _, rfl, hi, hcl, hna, hlk, ?_⟩
    walk_at "go"
    refine ⟨r.name, rfl, hB.nm, End_seq q1 fun H2 e2 q2 => ?_⟩
    walk_at "go"
    refine ⟨_, rfl, a, _, dx, fs, _, rfl, e2 _ _ hi, hcl, hna, hlk, ?_⟩
    obtain ⟨kvs, hd, hp⟩ := hL1.same e2
    refine ⟨_, rfl, d, _, rfl, DGet.k (k := Sum.inr r.name) hd, ?_⟩
    walk_at "go"
    rcases look_ea r.name hp with ⟨h1, h2⟩ | ⟨t, u, r', a', h1, h2, h3, h4⟩
    · rw [h1]
      rw [h2] at q2
      show if false = true then _ else _
      walk_at "go"
      exact q2 H2 (Same.refl _)
    · rw [h1]
      rw [h2] at q2
      show if true = true then _ else _
      walk_at "go"
      refine w_err1 ?_
      walk_at "go"
      refine ⟨a, _, dx, fs, _, rfl, e2 _ _ hi, hcl, hna, hlk, ?_⟩
      exact gErr1_of fun dd H3 e3 h5 => q2 _ _ H3 e3 ⟨rfl, dd, rfl, h5⟩
theorem sc_check_options : FnScope ["row"] ["row"] (defScope s_check_options) := ⟨rfl, rfl, rfl, by decide +kernel, rfl, by decide +kernel, by decide +kernel⟩
theorem ok_check_options (T : Tx K mg) (n : Nat) : Ok P w K mg base 5 (He.ga K "check_options") ["row"] (spCk K n ckOpt) := by
  obtain ⟨fd, F⟩ := T.f_check_options
  refine ⟨fd, F.ok sc_check_options (fun vs H Q E h => ?_) (fun cdv A outer s H vs Q E hr h => ?_), F.bindsN fun _ _ _ _ _ _ us hl => match us, hl with | [_], _ => rfl, F.kp⟩
  · obtain ⟨v, r, rfl, _⟩ := h
    rfl
  obtain ⟨v, r, rfl, hv, hB, q⟩ := h
  refine ⟨_, pss_cons (ps_if (pt_val (pe_callB call_isi (by rfl) T.z_isinstance (by decide +kernel) (pa_cons (pv 0) (pa_cons (pe_gref T.g_One) pa_nil)))) (pss_one (ps_expr (pe_fE (takes_of rfl rfl rfl rfl) (ok_refuse_options T) hr T.g_refuse_options (pa_cons (pe_fld (pv 0) rfl) (pa_cons (pe_gint T.i_MOST_OPTIONS_OF_ONE) pa_nil))))) pss_nil)
    (pss_one (ps_if (pt_val (pe_callB call_isi (by rfl) T.z_isinstance (by decide +kernel) (pa_cons (pv 0) (pa_cons (pe_gref T.g_Some) pa_nil)))) (pss_one (ps_expr (pe_fE (takes_of rfl rfl rfl rfl) (ok_refuse_options T) hr T.g_refuse_options (pa_cons (pe_fld (pv 0) rfl) (pa_cons (pe_gint T.i_MOST_OPTIONS_OF_SOME) pa_nil))))) pss_nil)), ?_⟩
  walk_at "go"
  refine isiR T hv (y := "One") (by decide) ?_
  walk_at "go"
  cases hv with
  | @one a t nn os w2 wv h ht hw =>
    show if true = true then _ else _
    walk_at "go"
    obtain ⟨dx, h⟩ := id h
    refine ⟨a, _, dx, _, _, rfl, h, T.cl_One, T.n_One_options, rfl, ?_⟩
    walk_at "go"
    refine ⟨t, os, 6, rfl, ht, hB.ol, hB.os, End_seq (b := none) (by rw [show thenF (optF os 6) none = optF os 6 by cases optF os 6 <;> rfl]; exact q) fun H1 e1 q1 => ?_⟩
    walk_at "go"
    refine isiR T (RO.same e1 (.one ⟨dx, h⟩ ht hw)) (y := "Some") (by decide) ?_
    walk_at "go"
    show if false = true then _ else _
    walk_at "go"
    exact q1 H1 (Same.refl _)
  | @some a t nn os w2 wv h ht hw =>
    show if false = true then _ else _
    refine w_iteF ?_
    walk_at "go"
    refine isiR T (.some h ht hw) (y := "Some") (by decide) ?_
    walk_at "go"
    show if true = true then _ else _
    walk_at "go"
    obtain ⟨dx, h⟩ := id h
    refine ⟨a, _, dx, _, _, rfl, h, T.cl_Some, T.n_Some_options, rfl, ?_⟩
    walk_at "go"
    refine ⟨t, os, 4, rfl, ht, hB.ol, hB.os, ?_⟩
    exact q
  | number h h2 =>
    show if false = true then _ else _
    refine w_iteF ?_
    walk_at "go"
    refine isiR T (.number h h2) (y := "Some") (by decide) ?_
    walk_at "go"
    show if false = true then _ else _
    walk_at "go"
    exact q H (Same.refl _)
  | check h h2 h3 =>
    show if false = true then _ else _
    refine w_iteF ?_
    walk_at "go"
    refine isiR T (.check h h2 h3) (y := "Some") (by decide) ?_
    walk_at "go"
    show if false = true then _ else _
    walk_at "go"
    exact q H (Same.refl _)
  | sect h h2 h3 h4 =>
    show if false = true then _ else _
    refine w_iteF ?_
    walk_at "go"
    refine isiR T (.sect h h2 h3 h4) (y := "Some") (by decide) ?_
    walk_at "go"
    show if false = true then _ else _
    walk_at "go"
    exact q H (Same.refl _)
  | rounds h h2 h3 h4 =>
    show if false = true then _ else _
    refine w_iteF ?_
    walk_at "go"
    refine isiR T (.rounds h h2 h3 h4) (y := "Some") (by decide) ?_
    walk_at "go"
    show if false = true then _ else _
    walk_at "go"
    exact q H (Same.refl _)
theorem sc_check_bounds : FnScope ["row"] ["row"] (defScope s_check_bounds) := ⟨rfl, rfl, rfl, by decide +kernel, rfl, by decide +kernel, by decide +kernel⟩
theorem ok_check_bounds (T : Tx K mg) (n : Nat) : Ok P w K mg base 3 (He.ga K "check_bounds") ["row"] (spCk K n ckBound) := by
  obtain ⟨fd, F⟩ := T.f_check_bounds
  refine ⟨fd, F.ok sc_check_bounds (fun vs H Q E h => ?_) (fun cdv A outer s H vs Q E hr h => ?_), F.bindsN fun _ _ _ _ _ _ us hl => match us, hl with | [_], _ => rfl, F.kp⟩
  · obtain ⟨v, r, rfl, _⟩ := h
    rfl
  obtain ⟨v, r, rfl, hv, hB, q⟩ := h
  refine ⟨_, pss_one (ps_if (pw_and (pt_val (pe_callB call_isi (by rfl) T.z_isinstance (by decide +kernel) (pa_cons (pv 0) (pa_cons (pe_gref T.g_Number) pa_nil)))) (pw_and1 (pt_cmpR op_gt (pe_fld (pv 0) rfl) (pe_fld (pv 0) rfl) (nomark _)))).pt
    (pss_one (ps_err2 (T.err (x := "BadCount") (by decide)) T.m_BadCount_init (ok_BadCount T) hr T.g_BadCount (takes_of rfl rfl rfl rfl) pe_str (pe_fld (pv 0) rfl))) pss_nil), ?_⟩
  walk_at "go"
  refine isiR T hv (y := "Number") (by decide) ?_
  walk_at "go"
  cases hv with
  | @number a nn lo hi w2 wv h hw =>
    obtain ⟨dx, h⟩ := h
    show if true = true then _ else _
    walk_at "go"
    refine ⟨a, _, dx, _, _, rfl, h, T.cl_Number, T.n_Number_low, rfl, ?_⟩
    walk_at "go"
    refine ⟨a, _, dx, _, _, rfl, h, T.cl_Number, T.n_Number_high, rfl, ?_⟩
    walk_at "go"
    by_cases c : hi < lo
    · have q' : End K (some (.count "bounds" hi)) H Q E := by
        have : ckBound (.number nn lo hi w2) = some (.count "bounds" hi) := if_pos c
        rw [← this]
        exact q
      rw [decide_eq_true c]
      walk_at "go"
      refine w_err2 ?_
      walk_at "go"
      refine ⟨a, _, dx, _, _, rfl, h, T.cl_Number, T.n_Number_high, rfl, ?_⟩
      exact gErr2_of fun dd H3 e3 h5 => q' _ _ H3 e3 ⟨rfl, dd, rfl, h5⟩
    · have q' : End K none H Q E := by
        have : ckBound (.number nn lo hi w2) = none := if_neg c
        rw [← this]
        exact q
      rw [decide_eq_false c]
      walk_at "go"
      exact q' H (Same.refl _)
  | _ =>
    show if false = true then _ else _
    walk_at "go"
    exact q H (Same.refl _)
theorem sc_check_inner_rows : FnScope ["row", "around"] ["row", "around"] (defScope s_check_inner_rows) := ⟨rfl, rfl, rfl, by decide +kernel, rfl, by decide +kernel, by decide +kernel⟩
theorem ok_check_inner_rows (T : Tx K mg) (n : Nat) : Ok P w K mg base 3 (He.ga K "check_inner_rows") ["row", "around"] (spCkA K n ckInner) := by
  obtain ⟨fd, F⟩ := T.f_check_inner_rows
  refine ⟨fd, F.ok sc_check_inner_rows (fun vs H Q E h => ?_) (fun cdv A outer s H vs Q E hr h => ?_), F.bindsN fun _ _ _ _ _ _ us hl => match us, hl with | [_, _], _ => rfl, F.kp⟩
  · obtain ⟨v, r, ar, rfl, _⟩ := h
    rfl
  obtain ⟨v, r, ar, rfl, hv, hB, q⟩ := h
  refine ⟨_, pss_cons (ps_if (pw_and (pt_val (pe_callB call_isiT (by rfl) T.z_isinstance (by decide +kernel) (pa_cons (pv 0) (pa_cons (pe_tup (pa_cons (pe_gref T.g_Section) (pa_cons (pe_gref T.g_Rounds) pa_nil))) pa_nil)))) (pw_and1 (pt_cmpR op_eq (pe_callB call_len_seq (by rfl) T.z_len PySem.boot_len (pa_cons (pe_fld (pv 0) rfl) pa_nil)) pe_int (nomark _)))).pt
      (pss_one (ps_err2 (T.err (x := "BadCount") (by decide)) T.m_BadCount_init (ok_BadCount T) hr T.g_BadCount (takes_of rfl rfl rfl rfl) pe_str pe_int)) pss_nil)
    (pss_one (ps_if (pw_and (pt_val (pe_callB call_isi (by rfl) T.z_isinstance (by decide +kernel) (pa_cons (pv 0) (pa_cons (pe_gref T.g_Rounds) pa_nil)))) (pw_and1 (pt_cmp (pc_notN (pv 1))))).pt
      (pss_one (ps_err2 (T.err (x := "BadCount") (by decide)) T.m_BadCount_init (ok_BadCount T) hr T.g_BadCount (takes_of rfl rfl rfl rfl) pe_str pe_int)) pss_nil)), ?_⟩
  walk_at "go"
  refine ⟨(by show 2 ≤ sizeLine; decide), fun p hp => ?_⟩
  have e0 : Same H (upd H p (.tup [.ref (He.ga K "Section"), .ref (He.ga K "Rounds")])) := Same.new hp _
  have hv0 := hv.same e0
  have q0 := q.mono e0
  have hp0 : (upd H p (.tup [.ref (He.ga K "Section"), .ref (He.ga K "Rounds")])) p = some (.tup [.ref (He.ga K "Section"), .ref (He.ga K "Rounds")]) := upd_same
  walk_at "go"
  generalize upd H p (.tup [.ref (He.ga K "Section"), .ref (He.ga K "Rounds")]) = H0 at e0 hv0 q0 hp0
  refine isiR2 T hv0 (y := "Section") (z := "Rounds") hp0 (by decide) (by decide) ?_
  walk_at "go"
  have lenz : ∀ (k : Nat), decide (V.int (k : Int) = V.int 0) = decide (k = 0) := fun k => by simp
  cases hv0 with
  | @sect a t xs rs w2 wv h ht hrs hw =>
    obtain ⟨dx, h⟩ := id h
    show if true = true then _ else _
    walk_at "go"
    refine ⟨a, _, dx, _, _, rfl, h, T.cl_Section, T.n_Section_rows, rfl, ?_⟩
    walk_at "go"
    refine ⟨t, xs, rfl, .inr ht, ?_⟩
    walk_at "go"
    refine ⟨rfl, ?_⟩
    walk_at "go"
    rw [lenz, hrs.length]
    by_cases c : rs.length = 0
    · have q' : End K (some (.count "rows" 0)) H0 Q E := by
        have : ckInner (.sect rs w2) ar = some (.count "rows" 0) := if_pos c
        rw [← this]
        exact q0
      rw [decide_eq_true c]
      walk_at "go"
      refine w_err2 ?_
      walk_at "go"
      exact gErr2_of fun dd H3 e3 h5 => q' _ _ H3 e3 ⟨rfl, dd, rfl, h5⟩
    · have q' : End K none H0 Q E := by
        have : ckInner (.sect rs w2) ar = none := if_neg c
        rw [← this]
        exact q0
      rw [decide_eq_false c]
      walk_at "go"
      refine isiR T (.sect ⟨dx, h⟩ ht hrs hw) (y := "Rounds") (by decide) ?_
      walk_at "go"
      show if false = true then _ else _
      walk_at "go"
      exact q' H0 (Same.refl _)
  | @rounds a t nn xs rs w2 wv h ht hrs hw =>
    obtain ⟨dx, h⟩ := id h
    show if true = true then _ else _
    walk_at "go"
    refine ⟨a, _, dx, _, _, rfl, h, T.cl_Rounds, T.n_Rounds_rows, rfl, ?_⟩
    walk_at "go"
    refine ⟨t, xs, rfl, .inr ht, ?_⟩
    walk_at "go"
    refine ⟨rfl, ?_⟩
    walk_at "go"
    rw [lenz, hrs.length]
    by_cases c : rs.length = 0
    · have q' : End K (some (.count "rows" 0)) H0 Q E := by
        have : ckInner (.rounds nn rs w2) ar = some (.count "rows" 0) := if_pos c
        rw [← this]
        exact q0
      rw [decide_eq_true c]
      walk_at "go"
      refine w_err2 ?_
      walk_at "go"
      exact gErr2_of fun dd H3 e3 h5 => q' _ _ H3 e3 ⟨rfl, dd, rfl, h5⟩
    · rw [decide_eq_false c]
      walk_at "go"
      refine isiR T (.rounds ⟨dx, h⟩ ht hrs hw) (y := "Rounds") (by decide) ?_
      walk_at "go"
      show if true = true then _ else _
      walk_at "go"
      have q1 : End K (if ar = none then none else some (.count "rounds" 2)) H0 Q E := by
        have : ckInner (.rounds nn rs w2) ar = if ar = none then none else some (.count "rounds" 2) := if_neg c
        rw [← this]
        exact q0
      rw [show decide (oV ar = V.non) = decide (ar = none) from oV_eq (b := none)]
      by_cases c2 : ar = none
      · rw [if_pos c2] at q1
        rw [decide_eq_true c2]
        walk_at "go"
        exact q1 H0 (Same.refl _)
      · rw [if_neg c2] at q1
        rw [decide_eq_false c2]
        walk_at "go"
        refine w_err2 ?_
        walk_at "go"
        exact gErr2_of fun dd H3 e3 h5 => q1 _ _ H3 e3 ⟨rfl, dd, rfl, h5⟩
  | one h1' h2' h3' =>
    show if false = true then _ else _
    walk_at "go"
    refine isiR T (.one h1' h2' h3') (y := "Rounds") (by decide) ?_
    walk_at "go"
    show if false = true then _ else _
    walk_at "go"
    exact q0 H0 (Same.refl _)
  | some h1' h2' h3' =>
    show if false = true then _ else _
    walk_at "go"
    refine isiR T (.some h1' h2' h3') (y := "Rounds") (by decide) ?_
    walk_at "go"
    show if false = true then _ else _
    walk_at "go"
    exact q0 H0 (Same.refl _)
  | number h1' h2' =>
    show if false = true then _ else _
    walk_at "go"
    refine isiR T (.number h1' h2') (y := "Rounds") (by decide) ?_
    walk_at "go"
    show if false = true then _ else _
    walk_at "go"
    exact q0 H0 (Same.refl _)
  | check h1' h2' h3' =>
    show if false = true then _ else _
    walk_at "go"
    refine isiR T (.check h1' h2' h3') (y := "Rounds") (by decide) ?_
    walk_at "go"
    show if false = true then _ else _
    walk_at "go"
    exact q0 H0 (Same.refl _)
end
end K3
end P10_part
section P11_part
set_option Elab.async false
set_option linter.all false
set_option maxRecDepth 100000
set_option maxHeartbeats 1000000
set_option pp.deepTerms.threshold 5
open PySem PySem.Spec PyProof.Rows L2
/-- go on as far as nothing is open -/
local macro_rules | `(tactic| walk_at "go") => `(tactic| repeat (first
  | with_reducible refine w_seq ?_ | with_reducible refine w_next ?_ | with_reducible refine w_set ?_ | with_reducible refine w_drop ?_ | with_reducible refine w_ret ?_ | with_reducible refine w_retN ?_
  | with_reducible refine w_if ?_ | ((with_reducible refine' w_var ?hv ?_); (case hv => exact rfl)) | with_reducible refine w_c ?_ | with_reducible refine w_nil ?_ | with_reducible refine w_cons ?_ | with_reducible refine w_op ?_ | with_reducible refine w_un ?_
  | with_reducible refine w_test ?_ | with_reducible refine w_tB ?_ | with_reducible refine w_not ?_ | with_reducible refine w_and ?_ | with_reducible refine w_or ?_ | with_reducible refine w_bl ?_
  | with_reducible refine w_andV ?_ | with_reducible refine w_orV ?_ | with_reducible refine w_notV ?_ | with_reducible refine w_ifE ?_ | with_reducible refine w_chain ?_ | with_reducible refine w_i0 ?_
  | with_reducible refine w_call ?_ | with_reducible refine w_callS ?_ | with_reducible refine w_cB ?_ | with_reducible refine w_tup ?_ | with_reducible refine w_lst ?_ | with_reducible refine w_fldV ?_
  | with_reducible refine w_neF ?_ | with_reducible refine w_neT ?_ | with_reducible refine w_notN ?_ | with_reducible refine w_isN ?_ | with_reducible refine w_gname ?_ | with_reducible refine w_gsub ?_ | with_reducible refine w_asg ?_ | with_reducible refine w_yes ?_ | with_reducible refine w_nT ?_ | with_reducible refine w_nF ?_ | with_reducible refine w_iteT ?_ | with_reducible refine w_iteF ?_))
namespace K3
section
variable {P : Program} {w : World} {K : PySem.W.Frag} {mg : Str → Option Value} {base : Heap}
theorem isQ_isN {r : Rw} (h : r.isQ = true) : r.isN = true := by cases r <;> first | rfl | cases h
theorem quest_isQ {L : AL} {z : Str} {ar : Option Nat} {r : Rw} (h : quest L z ar = .inr r) : r.isQ = true := by
  unfold quest at h
  split at h
  · cases h
  · split at h
    · split at h
      · cases h
      · cases h
        assumption
    · cases h
theorem sc_check_count : FnScope ["row", "around", "ahead", "question"] ["row", "around", "ahead"] (defScope s_check_count) := ⟨rfl, rfl, rfl, by decide +kernel, rfl, by decide +kernel, by decide +kernel⟩
theorem ok_check_count (T : Tx K mg) (n : Nat) : Ok P w K mg base 4 (He.ga K "check_count") ["row", "around", "ahead"] (spCkLA K n ckCount) := by
  obtain ⟨fd, F⟩ := T.f_check_count
  refine ⟨fd, F.ok sc_check_count (fun vs H Q E h => ?_) (fun cdv A outer s H vs Q E hr h => ?_), F.bindsN fun _ _ _ _ _ _ us hl => match us, hl with | [_, _, _], _ => rfl, F.kp⟩
  · obtain ⟨v, r, ar, d, L, rfl, _⟩ := h
    rfl
  obtain ⟨v, r, ar, d, L, rfl, hv, hB, hL, q⟩ := h
  refine ⟨_, pss_cons (ps_if (pt_not (pt_val (pe_callB call_isi (by rfl) T.z_isinstance (by decide +kernel) (pa_cons (pv 0) (pa_cons (pe_gref T.g_Rounds) pa_nil))))) (pss_one ps_retN) pss_nil)
    (pss_cons (ps_set (i := 3) sc_check_count.nd rfl (Or.inl rfl) (pe_fE (takes_of rfl rfl rfl rfl) (ok_question_ahead T) hr T.g_question_ahead (pa_cons (pe_fld (pv 0) rfl) (pa_cons (pv 1) (pa_cons (pv 2) pa_nil)))))
    (pss_one (ps_if (pw_or (pt_not (pt_val (pe_callB call_isi (by rfl) T.z_isinstance (by decide +kernel) (pa_cons (pv 3) (pa_cons (pe_gref T.g_Number) pa_nil))))) (pw_or (pt_cmpR op_lt (pe_fld (pv 3) rfl) pe_int (nomark _)) (pw_or1 (pt_cmpR op_gt (pe_fld (pv 3) rfl) (pe_gint T.i_MOST_ROUNDS) (nomark _))))).pt
      (pss_one (ps_err1 (T.err (x := "NoFit") (by decide)) T.m_NoFit_init (ok_NoFit T) (hr.mono (by decide)) T.g_NoFit (takes_of rfl rfl rfl rfl) (pe_fld (pv 3) rfl))) pss_nil))), ?_⟩
  walk_at "go"
  refine isiR T hv (y := "Rounds") (by decide) ?_
  walk_at "go"
  cases hv with
  | @rounds a t nn xs rs w2 wv h ht hrs hw =>
    obtain ⟨dx, h⟩ := h
    show if (!true) = true then _ else _
    walk_at "go"
    refine ⟨a, _, dx, _, _, rfl, h, T.cl_Rounds, T.n_Rounds_count, rfl, ?_⟩
    walk_at "go"
    refine ⟨nn, ar, d, L, rfl, hL, ?_⟩
    have ec : ckCount L (.rounds nn rs w2) ar = match quest L nn ar with
      | .inl f => some f
      | .inr q => fitN q := rfl
    rw [ec] at q
    cases hq : quest L nn ar with
    | inl f =>
      rw [hq] at q
      exact q
    | inr r2 =>
      rw [hq] at q
      have q : End K (fitN r2) H Q E := q
      intro u H1 e1 hu
      have q1 := q.mono e1
      have hN := isQ_isN (quest_isQ hq)
      obtain ⟨a2, dx2, fs2, rfl, hi2, hcl2, hna2, hlk2⟩ := ro_name T hu hN
      have fit : ∀ (Q' : VK) (W : WX) (σ : L2.St) (D : Ends), σ[3]? = some (some (.ref a2)) → End K (some (.fit r2.name)) H1 Q E → tErr1 K "NoFit" "name" (tFld K (tVar 3) "name") (fun cls d _ H => E cls d H) D σ H1 := by
        intro Q' W σ D hσ qf
        refine w_err1 ?_
        refine ⟨_, hσ, a2, _, dx2, fs2, _, rfl, hi2, hcl2, hna2, hlk2, ?_⟩
        exact gErr1_of fun dd H3 e3 h5 => qf _ _ H3 e3 ⟨rfl, dd, rfl, h5⟩
      walk_at "go"
      refine isiR T hu (y := "Number") (by decide) ?_
      walk_at "go"
      cases hu with
      | @number a3 n3 lo hi w3 wv3 h3 hw3 =>
        obtain ⟨dx3, h3⟩ := h3
        show if (!true) = true then _ else _
        walk_at "go"
        refine ⟨a2, _, dx3, _, _, rfl, h3, T.cl_Number, T.n_Number_low, rfl, ?_⟩
        walk_at "go"
        have ef : fitN (.number n3 lo hi w3) = if lo < 0 then some (.fit n3) else if 4 < hi then some (.fit n3) else none := rfl
        rw [ef] at q1
        by_cases c1 : lo < 0
        · rw [if_pos c1] at q1
          rw [decide_eq_true c1]
          walk_at "go"
          exact fit (fun _ _ => True) (fun _ _ _ _ => True) _ _ rfl q1
        · rw [if_neg c1] at q1
          rw [decide_eq_false c1]
          walk_at "go"
          refine ⟨a2, _, dx3, _, _, rfl, h3, T.cl_Number, T.n_Number_high, rfl, ?_⟩
          walk_at "go"
          by_cases c2 : 4 < hi
          · rw [if_pos c2] at q1
            rw [decide_eq_true c2]
            walk_at "go"
            exact fit (fun _ _ => True) (fun _ _ _ _ => True) _ _ rfl q1
          · rw [if_neg c2] at q1
            rw [decide_eq_false c2]
            walk_at "go"
            exact q1 H1 (Same.refl _)
      | _ =>
        show if (!false) = true then _ else _
        walk_at "go"
        exact fit (fun _ _ => True) (fun _ _ _ _ => True) _ _ rfl q1
  | _ =>
    show if (!false) = true then _ else _
    walk_at "go"
    exact q H (Same.refl _)
theorem co_name (T : Tx K mg) {H : Hp} {v : V} {c : Cd} (h : CO K H v c) (hn : c.isS = true) : ∃ a dx fs, v = .ref a ∧ H a = some (.ins (He.ga K c.nm) dx fs) ∧ Cls K (He.ga K c.nm) ∧ NoAttr K (He.ga K c.nm) "name" ∧ fs.lookup ("name" : Str) = some (.str c.name) := by
  cases h with
  | is h => obtain ⟨dx, h⟩ := h; exact ⟨_, dx, _, rfl, h, T.cl_Is, T.n_Is_name, rfl⟩
  | has h => obtain ⟨dx, h⟩ := h; exact ⟨_, dx, _, rfl, h, T.cl_Has, T.n_Has_name, rfl⟩
  | over h => exact h.elim
  | under h => exact h.elim
  | no h _ => cases hn
  | both h _ _ => cases hn
  | either h _ _ => cases hn
theorem ckConds_take (L : AL) (ar : Option Nat) {cs : List Cd} : ∀ {i : Nat} {c : Cd}, cs[i]? = some c → ckConds L ar (cs.take i) = none → (ckCond L ar c = none → ckConds L ar (cs.take (i + 1)) = none) ∧ (∀ f, ckCond L ar c = some f → ckConds L ar cs = some f) := by
  induction cs with
  | nil => intro i z h; simp at h
  | cons a r ih =>
    intro i z h hn
    cases i with
    | zero =>
      have e : a = z := by simpa using h
      subst e
      refine ⟨fun h => ?_, fun f h => ?_⟩
      · show thenF (ckCond L ar a) none = none
        rw [h] <;> rfl
      · show thenF (ckCond L ar a) _ = _
        rw [h] <;> rfl
    | succ i =>
      have hn' : thenF (ckCond L ar a) (ckConds L ar (r.take i)) = none := hn
      cases ha : ckCond L ar a with
      | some f => rw [ha] at hn'; cases hn'
      | none =>
        rw [ha] at hn'
        have q := ih (i := i) (c := z) (by simpa using h) hn'
        refine ⟨fun h => ?_, fun f h => ?_⟩
        · show thenF (ckCond L ar a) (ckConds L ar (r.take (i + 1))) = none
          rw [ha]
          exact q.1 h
        · show thenF (ckCond L ar a) (ckConds L ar r) = some f
          rw [ha]
          exact q.2 f h
theorem sc_check_conditions : FnScope ["row", "around", "ahead", "condition", "question"] ["row", "around", "ahead"] (defScope s_check_conditions) := ⟨rfl, rfl, rfl, by decide +kernel, rfl, by decide +kernel, by decide +kernel⟩
theorem ok_check_conditions (T : Tx K mg) (n : Nat) : Ok P w K mg base (n + 4) (He.ga K "check_conditions") ["row", "around", "ahead"] (spCkLA K n fun L r ar => ckConds L ar r.conds) := by
  obtain ⟨fd, F⟩ := T.f_check_conditions
  refine ⟨fd, F.ok (k := n + 3) sc_check_conditions (fun vs H Q E h => ?_) (fun cdv A outer s H vs Q E hr h => ?_), F.bindsN fun _ _ _ _ _ _ us hl => match us, hl with | [_, _, _], _ => rfl, F.kp⟩
  · obtain ⟨v, r, ar, d, L, rfl, _⟩ := h
    rfl
  obtain ⟨v, r, ar, d, L, rfl, hv, hB, hL, q⟩ := h
  refine ⟨_, pss_one (ps_for (passes_of rfl) rfl (pi_list (pe_f (ok_conditions_of T n) (hr.mono (by omega)) T.g_conditions_of (pa_cons (pv 0) pa_nil))) (pg_name (i := 3) sc_check_conditions.nd rfl (Or.inl rfl))
      (pss_cons (ps_set (i := 4) sc_check_conditions.nd rfl (Or.inl rfl) (pe_fE (takes_of rfl rfl rfl rfl) (ok_question_ahead T) (hr.mono (by omega)) T.g_question_ahead (pa_cons (pe_fld (pv 3) rfl) (pa_cons (pv 1) (pa_cons (pv 2) pa_nil)))))
      (pss_one (ps_if (pt_not (pt_val (pe_f (ok_suits T) (hr.mono (by omega)) T.g_suits (pa_cons (pv 3) (pa_cons (pv 4) pa_nil)))))
        (pss_one (ps_err1 (T.err (x := "NoFit") (by decide)) T.m_NoFit_init (ok_NoFit T) (hr.mono (by omega)) T.g_NoFit (takes_of rfl rfl rfl rfl) (pe_fld (pv 4) rfl))) pss_nil)))), ?_⟩
  walk_at "go"
  refine ⟨_, rfl, ?_⟩
  walk_at "go"
  refine ⟨v, r, rfl, hv, hB.cd, hB.c1, hB.c2, fun p H0 xs hp e0 h0 hxs => ?_⟩
  refine ⟨p, rfl, ⟨_, SqL.of h0⟩, ?_⟩
  have q0 : End K (ckConds L ar r.conds) H0 Q E := End.mono q e0
  have hL0 := hL.same e0
  refine for_list (K := K) (a := p) (xs := xs) (fun (i : Nat) σ H' => ∃ v3 v4 : Option V, σ = [some v, some (oV ar), some (.ref d), v3, v4] ∧ Same H0 H' ∧ ckConds L ar (r.conds.take i) = none) ⟨none, none, rfl, Same.refl _, rfl⟩ (fun i σ H' _ ⟨_, _, _, e, _⟩ => e.seq (SqL.of h0)) ?_ ?_
  · rintro i x σ H1 hi ⟨v3, v4, rfl, e1, hn⟩
    obtain ⟨c, hc1, hx⟩ := K3.Paired.get hxs hi
    have hx1 := hx.same e1
    have hS := conds_isS r c (List.mem_of_getElem? hc1)
    have tk := ckConds_take L ar hc1 hn
    obtain ⟨a, dx, fs, rfl, hia, hcl, hna, hlk⟩ := co_name T hx1 hS
    have hL1 := hL0.same e1
    walk_at "go"
    refine ⟨a, _, dx, fs, _, rfl, hia, hcl, hna, hlk, ?_⟩
    walk_at "go"
    refine ⟨c.name, ar, d, L, rfl, hL1, ?_⟩
    cases hq : quest L c.name ar with
    | inl f =>
      intro cls dd H2 e2 h2
      have q1 := q0
      rw [tk.2 f (by unfold ckCond; rw [hq])] at q1
      exact q1 cls dd H2 (e1.trans e2) h2
    | inr r2 =>
      intro u H2 e2 hu
      have hN := isQ_isN (quest_isQ hq)
      have ec : ckCond L ar c = if suitsB c r2 then none else some (.fit r2.name) := by unfold ckCond; rw [hq]
      walk_at "go"
      refine ⟨.ref a, u, c, r2, rfl, hx1.same e2, hu, fun H3 e3 => ?_⟩
      have hu3 := hu.same e3
      obtain ⟨a2, dx2, fs2, rfl, hi2, hcl2, hna2, hlk2⟩ := ro_name T hu3 hN
      cases hs : suitsB c r2 with
      | true =>
        rw [hs] at ec
        walk_at "go"
        exact ⟨_, _, rfl, (e1.trans e2).trans e3, tk.1 ec⟩
      | false =>
        rw [hs] at ec
        walk_at "go"
        refine w_err1 ?_
        walk_at "go"
        refine ⟨a2, _, dx2, fs2, _, rfl, hi2, hcl2, hna2, hlk2, ?_⟩
        have q1 := q0
        rw [tk.2 _ ec] at q1
        exact gErr1_of fun dd H4 e4 h5 => q1 _ _ H4 (((e1.trans e2).trans e3).trans e4) ⟨rfl, dd, rfl, h5⟩
  · rintro σ H1 ⟨v3, v4, rfl, e1, hn⟩
    rw [hxs.length, List.take_length] at hn
    rw [hn] at q0
    exact q0 H1 e1
end
end K3
end P11_part
section P12_part
set_option Elab.async false
set_option linter.all false
set_option maxRecDepth 100000
set_option maxHeartbeats 1000000
set_option pp.deepTerms.threshold 5
open PySem PySem.Spec PyProof.Rows L2
/-- go on as far as nothing is open -/
local macro_rules | `(tactic| walk_at "go") => `(tactic| repeat (first
  | with_reducible refine w_seq ?_ | with_reducible refine w_next ?_ | with_reducible refine w_set ?_ | with_reducible refine w_drop ?_ | with_reducible refine w_ret ?_ | with_reducible refine w_retN ?_
  | with_reducible refine w_if ?_ | ((with_reducible refine' w_var ?hv ?_); (case hv => exact rfl)) | with_reducible refine w_c ?_ | with_reducible refine w_nil ?_ | with_reducible refine w_cons ?_ | with_reducible refine w_op ?_ | with_reducible refine w_un ?_
  | with_reducible refine w_test ?_ | with_reducible refine w_tB ?_ | with_reducible refine w_not ?_ | with_reducible refine w_and ?_ | with_reducible refine w_or ?_ | with_reducible refine w_bl ?_
  | with_reducible refine w_andV ?_ | with_reducible refine w_orV ?_ | with_reducible refine w_notV ?_ | with_reducible refine w_ifE ?_ | with_reducible refine w_chain ?_ | with_reducible refine w_i0 ?_
  | with_reducible refine w_call ?_ | with_reducible refine w_callS ?_ | with_reducible refine w_cB ?_ | with_reducible refine w_tup ?_ | with_reducible refine w_lst ?_ | with_reducible refine w_fldV ?_
  | with_reducible refine w_neF ?_ | with_reducible refine w_neT ?_ | with_reducible refine w_notN ?_ | with_reducible refine w_isN ?_ | with_reducible refine w_gname ?_ | with_reducible refine w_gsub ?_ | with_reducible refine w_asg ?_ | with_reducible refine w_yes ?_ | with_reducible refine w_nT ?_ | with_reducible refine w_nF ?_ | with_reducible refine w_iteT ?_ | with_reducible refine w_iteF ?_))
namespace K3
def ckRows : AL → List (Rw × Option Nat) → Option Flt
  | _, [] => none
  | L, (r, ar) :: rest => thenF (ckRow L r ar) (ckRows (if r.isN then L ++ [(r.name, r, ar)] else L) rest)
def spCkRows (K : PySem.W.Frag) (n : Nat) : Sp := fun vs H Q E => ∃ (l : Addr) (zs : List V) (F : List (Rw × Option Nat)), vs = [.ref l] ∧ H l = some (.lst zs) ∧ LA K H zs F ∧ (∀ e ∈ F, RwB n e.1) ∧ F.length ≤ 1000 ∧ End K (ckRows [] F) H Q E
theorem ckRow_new {L : AL} {r : Rw} {ar : Option Nat} (h : ckRow L r ar = none) (hn : r.isN = true) : look L r.name = none := by
  unfold ckRow at h
  have h1 : ckName L r = none := by
    cases e : ckName L r with
    | none => rfl
    | some f => rw [e] at h; cases h
  unfold ckName at h1
  rw [hn, if_pos rfl] at h1
  cases e : look L r.name with
  | none => rfl
  | some x =>
    rw [e] at h1
    cases e2 : nameF r.name with
    | some f => rw [e2] at h1; cases h1
    | none => rw [e2] at h1; cases h1
section
variable {P : Program} {w : World} {K : PySem.W.Frag} {mg : Str → Option Value} {base : Heap}
theorem sc_check_row : FnScope ["row", "around", "ahead"] ["row", "around", "ahead"] (defScope s_check_row) := ⟨rfl, rfl, rfl, by decide +kernel, rfl, by decide +kernel, by decide +kernel⟩
theorem ok_check_row (T : Tx K mg) (n : Nat) : Ok P w K mg base (n + 6) (He.ga K "check_row") ["row", "around", "ahead"] (spCkLA K n ckRow) := by
  obtain ⟨fd, F⟩ := T.f_check_row
  refine ⟨fd, F.ok (k := n + 5) sc_check_row (fun vs H Q E h => ?_) (fun cdv A outer s H vs Q E hr h => ?_), F.bindsN fun _ _ _ _ _ _ us hl => match us, hl with | [_, _, _], _ => rfl, F.kp⟩
  · obtain ⟨v, r, ar, d, L, rfl, _⟩ := h
    rfl
  obtain ⟨v, r, ar, d, L, rfl, hv, hB, hL, q⟩ := h
  refine ⟨_, pss_cons (ps_expr (pe_fE (takes_of rfl rfl rfl rfl) (ok_check_name T n) (hr.mono (by omega)) T.g_check_name (pa_cons (pv 0) (pa_cons (pv 2) pa_nil))))
    (pss_cons (ps_expr (pe_fE (takes_of rfl rfl rfl rfl) (ok_check_options T n) (hr.mono (by omega)) T.g_check_options (pa_cons (pv 0) pa_nil)))
    (pss_cons (ps_expr (pe_fE (takes_of rfl rfl rfl rfl) (ok_check_bounds T n) (hr.mono (by omega)) T.g_check_bounds (pa_cons (pv 0) pa_nil)))
    (pss_cons (ps_expr (pe_fE (takes_of rfl rfl rfl rfl) (ok_check_inner_rows T n) (hr.mono (by omega)) T.g_check_inner_rows (pa_cons (pv 0) (pa_cons (pv 1) pa_nil))))
    (pss_cons (ps_expr (pe_fE (takes_of rfl rfl rfl rfl) (ok_check_count T n) (hr.mono (by omega)) T.g_check_count (pa_cons (pv 0) (pa_cons (pv 1) (pa_cons (pv 2) pa_nil)))))
    (pss_one (ps_expr (pe_fE (takes_of rfl rfl rfl rfl) (ok_check_conditions T n) (hr.mono (by omega)) T.g_check_conditions (pa_cons (pv 0) (pa_cons (pv 1) (pa_cons (pv 2) pa_nil)))))))))), ?_⟩
  unfold ckRow at q
  walk_at "go"
  refine ⟨v, r, d, L, rfl, hv, hB, hL, End_seq q fun H1 e1 q1 => ?_⟩
  walk_at "go"
  refine ⟨v, r, rfl, hv.same e1, hB, End_seq q1 fun H2 e2 q2 => ?_⟩
  walk_at "go"
  refine ⟨v, r, rfl, (hv.same e1).same e2, hB, End_seq q2 fun H3 e3 q3 => ?_⟩
  have e13 := (e1.trans e2).trans e3
  walk_at "go"
  refine ⟨v, r, ar, rfl, hv.same e13, hB, End_seq q3 fun H4 e4 q4 => ?_⟩
  have e14 := e13.trans e4
  walk_at "go"
  refine ⟨v, r, ar, d, L, rfl, hv.same e14, hB, hL.same e14, End_seq q4 fun H5 e5 q5 => ?_⟩
  have e15 := e14.trans e5
  walk_at "go"
  exact ⟨v, r, ar, d, L, rfl, hv.same e15, hB, hL.same e15, q5⟩
theorem sc_check_rows : FnScope ["laid", "ahead", "row", "around"] ["laid"] (defScope s_check_rows) := ⟨rfl, rfl, rfl, by decide +kernel, rfl, by decide +kernel, by decide +kernel⟩
theorem ok_check_rows (T : Tx K mg) (n : Nat) : Ok P w K mg base (n + 7) (He.ga K "check_rows") ["laid"] (spCkRows K n) := by
  obtain ⟨fd, F⟩ := T.f_check_rows
  refine ⟨fd, F.ok (k := n + 6) sc_check_rows (fun vs H Q E h => ?_) (fun cdv A outer s H vs Q E hr h => ?_), F.bindsN fun _ _ _ _ _ _ us hl => match us, hl with | [_], _ => rfl, F.kp⟩
  · obtain ⟨l, zs, F, rfl, _⟩ := h
    rfl
  obtain ⟨l, zs, F, rfl, hl, hF, hB, hz, q⟩ := h
  refine ⟨_, pss_cons (ps_set (i := 1) sc_check_rows.nd rfl (Or.inl rfl) pe_dnewK)
    (pss_one (ps_for (passes_of rfl) rfl (pi_list (pv 0)) (pg_tup rfl (pgs_cons (pg_name (i := 2) sc_check_rows.nd rfl (Or.inl rfl)) (pgs_cons (pg_name (i := 3) sc_check_rows.nd rfl (Or.inl rfl)) pgs_nil)))
      (pss_cons (ps_expr (pe_fE (takes_of rfl rfl rfl rfl) (ok_check_row T n) hr T.g_check_row (pa_cons (pv 2) (pa_cons (pv 3) (pa_cons (pv 1) pa_nil)))))
      (pss_one (ps_if (pt_val (pe_f (ok_is_named T) (hr.mono (by omega)) T.g_is_named (pa_cons (pv 2) pa_nil))) (pss_one (ps_dput (hu_of hr) (pv 1) (pe_fld (pv 2) rfl) (pe_tup (pa_cons (pv 2) (pa_cons (pv 3) pa_nil))) rfl)) pss_nil))))), ?_⟩
  walk_at "go"
  intro d hd
  walk_at "go"
  refine ⟨_, rfl, l, rfl, ⟨_, SqL.of (Same.new hd _ _ _ hl)⟩, ?_⟩
  have lF := hF.length
  refine for_list (K := K) (a := l) (xs := zs) (fun (i : Nat) σ H' => ∃ (v2 v3 : Option V) (L : AL), σ = [some (.ref l), some (.ref d), v2, v3] ∧ Same H H' ∧ AHd K H' d L ∧ L.length ≤ i ∧ ckRows [] F = ckRows L (F.drop i))
    ⟨none, none, [], rfl, Same.new hd _, ⟨[], upd_same, .nil⟩, Nat.le_refl _, rfl⟩ (fun i σ H' _ ⟨_, _, _, _, e, _⟩ => SqL.of (e _ _ hl)) ?_ ?_
  · rintro i x σ H1 hi ⟨v2, v3, L, rfl, e1, hL, hli, hck⟩
    obtain ⟨⟨r, ar⟩, hc1, t, u, rfl, ht, hu⟩ := K3.Paired.get hF hi
    have hlt : i < F.length := (List.getElem?_eq_some_iff.mp hc1).1
    have hdr : F.drop i = (r, ar) :: F.drop (i + 1) := by
      have := List.drop_eq_getElem_cons hlt
      rw [this, (List.getElem?_eq_some_iff.mp hc1).2]
    rw [hdr] at hck
    have q1 := q.mono e1
    rw [hck] at q1
    have q1 : End K (thenF (ckRow L r ar) (ckRows (if r.isN then L ++ [(r.name, r, ar)] else L) (F.drop (i + 1)))) H1 Q E := q1
    refine ⟨t, _, rfl, SqT.of (e1 _ _ ht), rfl, _, _, rfl, ?_⟩
    walk_at "go"
    refine ⟨_, _, rfl, ?_⟩
    walk_at "go"
    refine ⟨rfl, ?_⟩
    walk_at "go"
    have hu1 : RO K H1 u r := RO.same e1 hu
    refine ⟨u, r, ar, d, L, rfl, hu1, hB _ (List.mem_of_getElem? hc1), hL, ?_⟩
    cases hcr : ckRow L r ar with
    | some f =>
      rw [hcr] at q1
      exact q1
    | none =>
      rw [hcr] at q1
      intro H2 e2
      have hu2 := RO.same e2 hu1
      walk_at "go"
      refine ⟨u, r, rfl, hu2, fun H3 e3 => ?_⟩
      have hu3 := RO.same e3 hu2
      have hL3 := (hL.same e2).same e3
      have e13 := (e1.trans e2).trans e3
      cases hn : r.isN with
      | false =>
        walk_at "go"
        refine ⟨_, _, L, rfl, e13, hL3, by omega, ?_⟩
        rw [hck]
        show thenF (ckRow L r ar) (ckRows (if r.isN then _ else L) _) = _
        rw [hcr, hn] <;> rfl
      | true =>
        have hlk := ckRow_new hcr hn
        obtain ⟨a, dx, fs, rfl, hi2, hcl, hna, hlk2⟩ := ro_name T hu3 hn
        obtain ⟨kvs, hd3, hp⟩ := hL3
        have lk := hp.length
        walk_at "go"
        refine ⟨_, rfl, _, rfl, (by show 2 ≤ sizeLine; decide), fun t2 ht2 => ?_⟩
        have e4 : Same H3 (upd H3 t2 (.tup [.ref a, oV ar])) := Same.new ht2 _
        refine ⟨_, rfl, _, rfl, a, _, dx, fs, _, rfl, e4 _ _ hi2, hcl, hna, hlk2, ?_⟩
        have hv : valV kvs (Sum.inr r.name) = none := by
          rcases look_ea r.name hp with ⟨h1, _⟩ | ⟨_, _, _, _, _, h2, _⟩
          · exact h1
          · rw [hlk] at h2; cases h2
        have hput : putK kvs (Sum.inr r.name) (.ref t2) = kvs ++ [(Sum.inr r.name, .ref t2)] := by
          unfold putK
          rw [valV_any, hv, if_neg (by decide)]
        refine ⟨d, _, rfl, DPut.k (k := Sum.inr r.name) (e4 _ _ hd3) (Nat.lt_of_le_of_lt (show kvs.length ≤ 1000 by omega) (by decide)), ?_⟩
        rw [hput]
        have si : SI H3 (upd (upd H3 t2 (.tup [.ref a, oV ar])) d (.dK (kvs ++ [(Sum.inr r.name, .ref t2)]))) := e4.si.trans (SI.upd (e4 _ _ hd3) rfl _)
        refine ⟨_, _, L ++ [(r.name, r, ar)], rfl, (e13.trans e4).mut hd, ⟨_, upd_same, ?_⟩, by rw [List.length_append]; exact Nat.succ_le_succ hli, ?_⟩
        · refine K3.Paired.app (L2.Paired.mapP hp fun _ _ z => z.si si) (.cons ⟨rfl, t2, .ref a, rfl, ?_, RO.si si hu3⟩ .nil)
          rw [upd_ne (fun z => by rw [← z, ht2] at hd3; cases hd3)]
          exact upd_same
        · rw [hck]
          show thenF (ckRow L r ar) (ckRows (if r.isN then _ else L) _) = _
          rw [hcr, hn] <;> rfl
  · rintro σ H1 ⟨v2, v3, L, rfl, e1, hL, hli, hck⟩
    rw [lF, List.drop_eq_nil_of_le (Nat.le_refl _)] at hck
    have q1 := q.mono e1
    rw [hck] at q1
    exact q1 H1 (Same.refl _)
end
end K3
end P12_part
section P13_part
set_option Elab.async false
set_option linter.all false
set_option maxRecDepth 100000
set_option maxHeartbeats 1000000
set_option pp.deepTerms.threshold 5
open PySem PySem.Spec PyProof.Rows L2
/-- go on as far as nothing is open -/
local macro_rules | `(tactic| walk_at "go") => `(tactic| repeat (first
  | with_reducible refine w_seq ?_ | with_reducible refine w_next ?_ | with_reducible refine w_set ?_ | with_reducible refine w_drop ?_ | with_reducible refine w_ret ?_ | with_reducible refine w_retN ?_
  | with_reducible refine w_if ?_ | ((with_reducible refine' w_var ?hv ?_); (case hv => exact rfl)) | with_reducible refine w_c ?_ | with_reducible refine w_nil ?_ | with_reducible refine w_cons ?_ | with_reducible refine w_op ?_ | with_reducible refine w_un ?_
  | with_reducible refine w_test ?_ | with_reducible refine w_tB ?_ | with_reducible refine w_not ?_ | with_reducible refine w_and ?_ | with_reducible refine w_or ?_ | with_reducible refine w_bl ?_
  | with_reducible refine w_andV ?_ | with_reducible refine w_orV ?_ | with_reducible refine w_notV ?_ | with_reducible refine w_ifE ?_ | with_reducible refine w_chain ?_ | with_reducible refine w_i0 ?_
  | with_reducible refine w_call ?_ | with_reducible refine w_callS ?_ | with_reducible refine w_cB ?_ | with_reducible refine w_tup ?_ | with_reducible refine w_lst ?_ | with_reducible refine w_fldV ?_
  | with_reducible refine w_neF ?_ | with_reducible refine w_neT ?_ | with_reducible refine w_notN ?_ | with_reducible refine w_isN ?_ | with_reducible refine w_gname ?_ | with_reducible refine w_gsub ?_ | with_reducible refine w_asg ?_ | with_reducible refine w_yes ?_ | with_reducible refine w_nT ?_ | with_reducible refine w_nF ?_ | with_reducible refine w_iteT ?_ | with_reducible refine w_iteF ?_))
namespace K3
def formF (rs : List Rw) : Option Flt := if 1 ≤ Rws.cnt rs ∧ Rws.cnt rs ≤ 40 then ckRows [] (Rws.flat rs none 0) else some (.count "rows" (Rws.cnt rs))
def qsOf (F : List (Rw × Option Nat)) : List Rw := F.filterMap fun e => if e.1.isQ then some e.1 else none
def alOf (F : List (Rw × Option Nat)) : AL := F.filterMap fun e => if e.1.isN then some (e.1.name, e.1, e.2) else none
theorem ck_drop : ∀ {F : List (Rw × Option Nat)} {L : AL}, ckRows L F = none → ∀ {i : Nat} {e : Rw × Option Nat}, F[i]? = some e → e.1.isN = true → look (L ++ alOf (F.take i)) e.1.name = none
  | [], _, _, i, e, h, _ => by simp at h
  | (r, ar) :: F, L, hc, i, e, h, hn => by
    have hc' : thenF (ckRow L r ar) (ckRows (if r.isN then L ++ [(r.name, r, ar)] else L) F) = none := hc
    cases h1 : ckRow L r ar with
    | some f => rw [h1] at hc'; cases hc'
    | none =>
      rw [h1] at hc'
      cases i with
      | zero =>
        have e1 : (r, ar) = e := by simpa using h
        subst e1
        have : look L r.name = none := ckRow_new h1 hn
        show look (L ++ []) r.name = none
        rw [List.append_nil]
        exact this
      | succ i =>
        have ih := ck_drop (F := F) hc' (i := i) (e := e) (by simpa using h) hn
        show look (L ++ alOf ((r, ar) :: F.take i)) e.1.name = none
        unfold alOf
        cases hr : r.isN with
        | true =>
          rw [hr, if_pos rfl] at ih
          rw [List.filterMap_cons]
          simp only [hr, if_true]
          have ea : L ++ (r.name, r, ar) :: (F.take i).filterMap (fun e => if e.1.isN = true then some (e.1.name, e.1, e.2) else none) = L ++ [(r.name, r, ar)] ++ (F.take i).filterMap (fun e => if e.1.isN = true then some (e.1.name, e.1, e.2) else none) := by simp
          rw [ea]
          exact ih
        | false =>
          rw [hr] at ih
          rw [List.filterMap_cons]
          simp only [hr]
          exact ih
theorem look_all {z : Str} : ∀ {L : AL}, look L z = none → ∀ e ∈ L, e.1 ≠ z
  | [], _, e, h => by cases h
  | a :: L, hl, e, h => by
    unfold look at hl
    rw [List.find?_cons] at hl
    by_cases c : a.1 = z
    · rw [decide_eq_true c] at hl
      cases hl
    · rw [decide_eq_false c] at hl
      rcases List.mem_cons.mp h with h | h
      · rw [h]; exact c
      · exact look_all (L := L) hl e h
theorem qs_al {F : List (Rw × Option Nat)} {r : Rw} (h : r ∈ qsOf F) : ∃ e ∈ alOf F, e.1 = r.name := by
  obtain ⟨e, he, h2⟩ := List.mem_filterMap.mp h
  cases hq : e.1.isQ with
  | false => rw [hq] at h2; cases h2
  | true =>
    rw [hq, if_pos rfl] at h2
    have e1 := Option.some.inj h2
    subst e1
    refine ⟨(e.1.name, e.1, e.2), List.mem_filterMap.mpr ⟨e, he, ?_⟩, rfl⟩
    rw [if_pos (isQ_isN hq)]
/-- an entry of questions -/
def QE (K : PySem.W.Frag) (H : Hp) (kv : Key × V) (r : Rw) : Prop := kv.1 = Sum.inr r.name ∧ RO K H kv.2 r
theorem val_qe {K : PySem.W.Frag} {H : Hp} {z : Str} : ∀ {kvs : List (Key × V)} {qs : List Rw}, Paired (QE K H) kvs qs → (∀ r ∈ qs, r.name ≠ z) → valV kvs (Sum.inr z) = none
  | _, _, .nil, _ => rfl
  | _, _, .cons (a := kv) (b := r) h t, hn => by
    have e1 : ¬ kv.1 = Sum.inr z := by rw [h.1]; exact fun q => hn r (List.mem_cons_self ..) (Sum.inr.inj q)
    rw [valV_neg e1]
    exact val_qe t fun r' hr => hn r' (List.mem_cons_of_mem _ hr)
/-- a comprehension of a dict over whatever is walked -/
theorem dc_any {J : It} {n : Nat} {G : Hp → Prop} {Y : Nat → Hp → V → Hp → Prop} (wk : Walk J n G Y) {g : TG} {tt : TT} {tk tv : TE} {vs : List Nat} {σ : L2.St} {H1 : Hp} {D : Addr} {Qd : Hp → Prop} (Pv : Nat → Hp → Prop) (h0 : Pv 0 (upd H1 D (.dK [])))
    (hG : ∀ i H, i ≤ n → Pv i H → G H)
    (hs : ∀ i x H H', i < n → Pv i H → Y i H x H' → g x (wipe σ vs) H' fun σ2 H2 => wipe σ2 vs = wipe σ vs ∧ tt σ2 H2 fun b H3 =>
      if b = true then tk σ2 H3 fun y H4 => tv σ2 H4 fun z H5 => ∃ kvs k, y = kV k ∧ H5 D = some (.dK kvs) ∧ kvs.length < sizeLine ∧ Pv (i + 1) (upd H5 D (.dK (putK kvs k z))) else Pv (i + 1) H3)
    (hd : ∀ H, Pv n H → Qd H) :
    ∃ W : Nat → Nat → Hp → Prop, (∃ m, W 0 m (upd H1 D (.dK []))) ∧ ∀ i m H, W i m H → (J.stop i H ∧ Qd H) ∨ (J.go i H ∧ ∃ Nx : Hp → Prop, (∀ H', Nx H' → ∃ m', m' < m ∧ W (i + 1) m' H') ∧
      ∀ x H', J.yld i H x H' → g x (wipe σ vs) H' fun σ2 H2 => wipe σ2 vs = wipe σ vs ∧ tt σ2 H2 fun b H3 =>
        if b = true then tk σ2 H3 fun y H4 => tv σ2 H4 fun z H5 => ∃ kvs k, y = kV k ∧ H5 D = some (.dK kvs) ∧ kvs.length < sizeLine ∧ Nx (upd H5 D (.dK (putK kvs k z))) else Nx H3) := by
  refine ⟨fun i m H => m + i = n ∧ Pv i H, ⟨n, rfl, h0⟩, fun i m H w => ?_⟩
  obtain ⟨e, p⟩ := w
  by_cases c : i < n
  · exact .inr ⟨wk.goes i H c (hG i H (Nat.le_of_lt c) p), Pv (i + 1), fun H' p' => ⟨m - 1, by omega, by omega, p'⟩, fun x H' y => hs i x H H' c p (wk.yields i H x H' c (hG i H (Nat.le_of_lt c) p) y)⟩
  · have e2 : i = n := by omega
    subst e2
    exact .inl ⟨wk.stops H (hG i H (Nat.le_refl _) p), hd H p⟩
theorem w_tuple {K : PySem.W.Frag} {σ : L2.St} {i : Nat} {H : Hp} {l : Addr} {xs : List V} {Q : VK} (hσ : σ[i]? = some (some (.ref l))) (hl : SqL K H l xs ∨ SqT K H l xs) (k : ∀ t H1, Same H H1 → SqT K H1 t xs → Q (.ref t) H1) :
    tCB (fun xs H Q => ∃ p ys, xs = [V.ref p] ∧ ((SqL K H p ys ∧ ∀ l, H l = none → Q (.ref l) (upd H l (.tup ys))) ∨ (SqT K H p ys ∧ Q (.ref p) H))) (tCons (tVar i) tNil) σ H Q := by
  refine ⟨_, hσ, ?_⟩
  rcases hl with h | h
  · exact ⟨l, xs, rfl, .inl ⟨h, fun t ht => k t _ (Same.new ht _) (SqT.of upd_same)⟩⟩
  · exact ⟨l, xs, rfl, .inr ⟨h, k l H (Same.refl _) h⟩⟩
theorem putK_len {κ : Type} [DecidableEq κ] (k : κ) (v : V) : ∀ kvs : List (κ × V), (putK kvs k v).length ≤ kvs.length + 1 := fun kvs => by
  unfold putK
  split
  · rw [List.length_map]; omega
  · rw [List.length_append]; exact Nat.le_refl _
/-- whether a question of this name stands in rounds -/
def repB (F : List (Rw × Option Nat)) (z : Str) : Bool := F.any fun e => e.1.isQ && (e.2.isSome && decide (e.1.name = z))
theorem rep_take {F : List (Rw × Option Nat)} {i : Nat} {e : Rw × Option Nat} (h : F[i]? = some e) (z : Str) : repB (F.take (i + 1)) z = (repB (F.take i) z || (e.1.isQ && (e.2.isSome && decide (e.1.name = z)))) := by
  unfold repB
  rw [List.take_add_one, h, List.any_append]
  simp
theorem putK_some {κ : Type} [DecidableEq κ] {kvs : List (κ × V)} {k j : κ} {v : V} : (valV (putK kvs k v) j).isSome = ((valV kvs j).isSome || decide (k = j)) := by
  rw [← valV_any, ← valV_any]
  unfold putK
  split
  · rename_i h
    rw [List.any_map]
    have : ((fun kv : κ × V => decide (kv.1 = j)) ∘ fun kv => if kv.1 = k then (kv.1, v) else kv) = fun kv => decide (kv.1 = j) := funext fun kv => by
      show decide ((if kv.1 = k then (kv.1, v) else kv).1 = j) = _
      split <;> rfl
    rw [this]
    by_cases e : k = j
    · rw [← e, h, Bool.true_or]
    · rw [decide_eq_false e, Bool.or_false]
  · rw [List.any_append]
    simp
/-- what Form.__init__ leaves: B is what stood ahead of the new instance at x -/
def FormEnd (K : PySem.W.Frag) (rs : List Rw) (xs : List V) (x dx : Addr) (B : Hp) (Q : VK) (E : XK) : Prop := match formF rs with
  | some f => ∀ cls d H', Same B H' → IsF K f cls d H' → E cls d H'
  | none => ∀ H' t d d2 kvs kv2, Same B H' → H' x = some (.ins (He.ga K "Form") dx [("rows", .ref t), ("questions", .ref d), ("repeated", .ref d2)]) → SqT K H' t xs → H' d = some (.dK kvs) → Paired (QE K H') kvs (qsOf (Rws.flat rs none 0)) → H' d2 = some (.dK kv2) → (∀ z, (valV kv2 (Sum.inr z)).isSome = repB (Rws.flat rs none 0) z) → Q .non H'
def spForm (K : PySem.W.Frag) (n : Nat) : Sp := fun vs H Q E => ∃ (x dx l : Addr) (xs : List V) (rs : List Rw) (B : Hp), vs = [.ref x, .ref l] ∧ Same B H ∧ B x = none ∧ (SqL K B l xs ∨ SqT K B l xs) ∧ ROs K B xs rs ∧ (∀ e ∈ Rws.flat rs none 0, RwB n e.1) ∧ Rws.dep rs < n + 7 ∧ Rws.cnt rs ≤ 900 ∧
  H x = some (.ins (He.ga K "Form") dx []) ∧ FormEnd K rs xs x dx B Q E
theorem Same.but2 {B H H' : Hp} {p : Addr} (e : Same B H) (h : But p H H') (hp : B p = none) : Same B H' := fun b o q => h b o (fun z => by rw [z, hp] at q; cases q) (e b o q)
section
variable {P : Program} {w : World} {K : PySem.W.Frag} {mg : Str → Option Value} {base : Heap}
theorem sc_Form : FnScope ["self", "rows", "laid", "row", "around"] ["self", "rows"] (defScope s_Form_init) := ⟨rfl, rfl, rfl, by decide +kernel, rfl, by decide +kernel, by decide +kernel⟩
theorem ok_Form (T : Tx K mg) (n : Nat) : Ok P w K mg base (n + 8) (He.ma K (He.ga K "Form") "__init__") ["self", "rows"] (spForm K n) := by
  obtain ⟨fd, F⟩ := T.f_Form_init
  refine ⟨fd, F.ok (k := n + 7) sc_Form (fun vs H Q E h => ?_) (fun cdv A outer s H vs Q E hr h => ?_), F.bindsN fun _ _ _ _ _ _ us hl => match us, hl with | [_, _], _ => rfl, F.kp⟩
  · obtain ⟨x, dx, l, xs, rs, B, rfl, _⟩ := h
    rfl
  obtain ⟨x, dx, l, xs, rs, B, rfl, e0, hBx, hl, hxs, hB, hdep, hcnt, hx, q⟩ := h
  refine ⟨_, pss_cons (ps_fld (pv 0) (pe_callTy call_tuple_of (by rfl) T.z_tuple (by decide +kernel) (pa_cons (pv 1) pa_nil)) rfl)
    (pss_cons (ps_set (i := 2) sc_Form.nd rfl (Or.inl rfl) (pe_lst pa_nil))
    (pss_cons (ps_expr (pe_fE (takes_of rfl rfl rfl rfl) (ok_lay_out T (n + 7)) hr T.g_lay_out (pa_cons (pe_fld (pv 0) rfl) (pa_cons pe_non (pa_cons (pv 2) pa_nil)))))
    (pss_cons (ps_if (pt_not (pt_chain op_le op_le pe_int (pe_callB call_len_seq (by rfl) T.z_len PySem.boot_len (pa_cons (pv 2) pa_nil)) (pe_gint T.i_MOST_ROWS)))
      (pss_one (ps_err2 (T.err (x := "BadCount") (by decide)) T.m_BadCount_init (ok_BadCount T) (hr.mono (by omega)) T.g_BadCount (takes_of rfl rfl rfl rfl) pe_str (pe_callB call_len_seq (by rfl) T.z_len PySem.boot_len (pa_cons (pv 2) pa_nil)))) pss_nil)
    (pss_cons (ps_expr (pe_fE (takes_of rfl rfl rfl rfl) (ok_check_rows T n) hr T.g_check_rows (pa_cons (pv 2) pa_nil)))
    (pss_cons (ps_fld (pv 0) (by exact pe_dc (own := [("row", 3), ("around", 4)]) (g := gTup K 2 (gCons (gName 3) (gCons (gName 4) gNil))) (tt := tB (tCall (spRB K Rw.isQ) [] E0 (tCons (tVar 3) tNil))) (tk := tFld K (tVar 3) "name") (tv := tVar 3) (by rfl) sc_Form.nd (pi_list (pv 2)) (blkOk_by (own := [("row", 3), ("around", 4)]) (N := ["self", "rows", "laid", "row", "around"]) (sc := defScope s_Form_init) (by decide +kernel)) (fun _ _ _ _ _ => pg_tup (by rfl) (pgs_cons (pg_name (i := 3) sc_Form.nd rfl (Or.inl rfl)) (pgs_cons (pg_name (i := 4) sc_Form.nd rfl (Or.inl rfl)) pgs_nil))) (fun _ _ _ _ _ => pts_one (pt_val (pe_f (ok_is_question T) (hr.mono (by omega)) T.g_is_question (pa_cons (pv 3) pa_nil)))) (fun _ _ _ _ _ => pe_fld (pv 3) rfl) (fun _ _ _ _ _ => pv 3)) rfl)
    (pss_one (ps_fld (pv 0) (by exact pe_dc (own := [("row", 3), ("around", 4)]) (g := gTup K 2 (gCons (gName 3) (gCons (gName 4) gNil))) (tt := tAnd (tB (tCall (spRB K Rw.isQ) [] E0 (tCons (tVar 3) tNil))) (tB (tNotN (tVar 4)))) (tk := tFld K (tVar 3) "name") (tv := tC (.bl true)) (by rfl) sc_Form.nd (pi_list (pv 2)) (blkOk_by (own := [("row", 3), ("around", 4)]) (N := ["self", "rows", "laid", "row", "around"]) (sc := defScope s_Form_init) (by decide +kernel)) (fun _ _ _ _ _ => pg_tup (by rfl) (pgs_cons (pg_name (i := 3) sc_Form.nd rfl (Or.inl rfl)) (pgs_cons (pg_name (i := 4) sc_Form.nd rfl (Or.inl rfl)) pgs_nil))) (fun _ _ _ _ _ => pts_one (pw_and (pt_val (pe_f (ok_is_question T) (hr.mono (by omega)) T.g_is_question (pa_cons (pv 3) pa_nil))) (pw_and1 (pt_cmp (pc_notN (pv 4))))).pt) (fun _ _ _ _ _ => pe_fld (pv 3) rfl) (fun _ _ _ _ _ => pe_bl)) rfl))))))), ?_⟩
  have lenF : (Rws.flat rs none 0).length = Rws.cnt rs := Rws.flat_len rs none 0
  walk_at "go"
  have hl0 : SqL K H l xs ∨ SqT K H l xs := hl.imp e0.seq e0.sqt
  refine w_tuple rfl hl0 fun t H1 e1 ht => ?_
  refine ⟨_, rfl, x, _, dx, _, rfl, e1 _ _ hx, T.cl_Form, T.n_Form_rows, (by show 0 < 1000; decide), ?_⟩
  have e2 : Same B (upd H1 x (.ins (He.ga K "Form") dx [("rows", .ref t)])) := (e0.trans e1).mut hBx
  have ht2 : SqT K (upd H1 x (.ins (He.ga K "Form") dx [("rows", .ref t)])) t xs := SqT.far (e1 _ _ hx) ht
  have hx2 : (upd H1 x (.ins (He.ga K "Form") dx [("rows", .ref t)])) x = some (.ins (He.ga K "Form") dx [("rows", .ref t)]) := upd_same
  show tSeq _ _ _ _ (upd H1 x (.ins (He.ga K "Form") dx [("rows", .ref t)]))
  generalize upd H1 x (.ins (He.ga K "Form") dx [("rows", .ref t)]) = H2 at e2 ht2 hx2
  walk_at "go"
  refine ⟨Nat.zero_le _, fun p hp => ?_⟩
  walk_at "go"
  have s3 : Same H2 (upd H2 p (.lst [])) := Same.new hp _
  refine ⟨x, _, dx, _, _, rfl, s3 _ _ hx2, T.cl_Form, T.n_Form_rows, rfl, ?_⟩
  walk_at "go"
  have hBp : B p = none := e2.free hp
  refine ⟨t, p, none, xs, [], rs, rfl, s3.sqt ht2, hxs.same (e2.trans s3), hdep, upd_same, ?_, fun H3 zs b3 h3 la => ?_⟩
  · show 0 + Rws.cnt rs ≤ 1000
    omega
  have e3 : Same B H3 := K3.Same.but2 (e2.trans s3) b3 hBp
  have npx : x ≠ p := fun z => by rw [z, hp] at hx2; cases hx2
  have hx3 : H3 x = some (.ins (He.ga K "Form") dx [("rows", .ref t)]) := b3 _ _ npx (s3 _ _ hx2)
  have ht3 : SqT K H3 t xs := (b3.si upd_same).sqt (s3.sqt ht2)
  have h3 : H3 p = some (.lst zs) := h3
  have la : LA K H3 zs (Rws.flat rs none 0) := la
  have lz : zs.length = Rws.cnt rs := by rw [la.length, lenF]
  walk_at "go"
  refine ⟨p, zs, rfl, .inl (SqL.of h3), ?_⟩
  walk_at "go"
  rw [lz]
  have bad : ¬ (1 ≤ Rws.cnt rs ∧ Rws.cnt rs ≤ 40) → gErr2 K "BadCount" "what" "count" (.str "rows") (.int (Rws.cnt rs : Int)) H3 fun cls d H' => E cls d H' := fun c => by
    have ef : formF rs = some (.count "rows" (Rws.cnt rs)) := if_neg c
    unfold FormEnd at q
    rw [ef] at q
    exact gErr2_of fun dd H4 e4 h4 => q _ _ H4 (e3.trans e4) ⟨rfl, dd, rfl, h4⟩
  by_cases c1 : (1 : Int) ≤ (Rws.cnt rs : Int)
  · rw [decide_eq_true c1]
    walk_at "go"
    by_cases c2 : (Rws.cnt rs : Int) ≤ 40
    · rw [decide_eq_true c2]
      walk_at "go"
      have ef : formF rs = ckRows [] (Rws.flat rs none 0) := if_pos ⟨by omega, by omega⟩
      refine ⟨p, zs, _, rfl, h3, la, hB, by rw [lenF]; omega, ?_⟩
      unfold FormEnd at q
      rw [ef] at q
      cases hck : ckRows [] (Rws.flat rs none 0) with
      | some f =>
        rw [hck] at q
        exact fun cls d H' e4 hf => q cls d H' (e3.trans e4) hf
      | none =>
        rw [hck] at q
        intro H4 e4
        have h4 := e4 _ _ h3
        have la4 := LA.si e4.si la
        walk_at "go"
        refine ⟨_, rfl, p, rfl, ⟨_, SqL.of h4⟩, fun d hd => ?_⟩
        refine dc_any (walk_list (K := K) (a := p) (xs := zs)) (fun (i : Nat) H' => Same H4 H' ∧ ∃ kvs, H' d = some (.dK kvs) ∧ kvs.length ≤ i ∧ Paired (QE K H') kvs (qsOf ((Rws.flat rs none 0).take i))) ⟨Same.new hd _, [], upd_same, Nat.le_refl _, .nil⟩ (fun i H' _ z => SqL.of (z.1 _ _ h4)) ?_ ?_
        · rintro i v _ H5 hi ⟨e5, kvs, hk, hki, hp5⟩ ⟨rfl, hv⟩
          obtain ⟨⟨r, ar⟩, hc1, u, y, rfl, hu, hy⟩ := K3.Paired.get la4 hv
          refine ⟨u, _, rfl, SqT.of (e5 _ _ hu), rfl, _, _, rfl, ?_⟩
          walk_at "go"
          refine ⟨_, _, rfl, ?_⟩
          walk_at "go"
          refine ⟨rfl, rfl, ?_⟩
          walk_at "go"
          have hy5 : RO K H5 y r := RO.same e5 hy
          refine ⟨y, r, rfl, hy5, fun H6 e6 => ?_⟩
          have tkq : qsOf ((Rws.flat rs none 0).take (i + 1)) = qsOf ((Rws.flat rs none 0).take i) ++ (if r.isQ then [r] else []) := by
            rw [List.take_add_one, hc1]
            unfold qsOf
            rw [List.filterMap_append]
            congr 1
            cases hr : r.isQ <;> simp [hr]
          have hy6 := RO.same e6 hy5
          have hp6 : Paired (QE K H6) kvs (qsOf ((Rws.flat rs none 0).take i)) := L2.Paired.mapP hp5 fun _ _ z => ⟨z.1, RO.same e6 z.2⟩
          cases hq : r.isQ with
          | false =>
            rw [hq] at tkq
            walk_at "go"
            refine ⟨e5.trans e6, kvs, e6 _ _ hk, by omega, ?_⟩
            rw [tkq, if_neg Bool.false_ne_true, List.append_nil]
            exact hp6
          | true =>
            rw [hq] at tkq
            obtain ⟨a, dx2, fs, rfl, hia, hcl, hna, hlk⟩ := ro_name T hy6 (isQ_isN hq)
            walk_at "go"
            refine ⟨a, _, dx2, fs, _, rfl, hia, hcl, hna, hlk, ?_⟩
            walk_at "go"
            have hk6 := e6 _ _ hk
            refine ⟨kvs, Sum.inr r.name, rfl, hk6, Nat.lt_of_le_of_lt (show kvs.length ≤ 1000 by omega) (by decide), ?_⟩
            have hnew : valV kvs (Sum.inr r.name) = none := by
              refine val_qe hp6 fun r' hr' => ?_
              obtain ⟨e, he, hn'⟩ := qs_al hr'
              have := look_all (ck_drop hck hc1 (isQ_isN hq)) e (by rw [List.nil_append]; exact he)
              rw [← hn']
              exact this
            have hput : putK kvs (Sum.inr r.name) (.ref a) = kvs ++ [(Sum.inr r.name, .ref a)] := by
              unfold putK
              rw [valV_any, hnew, if_neg (by decide)]
            rw [hput]
            have si := SI.upd hk6 rfl (.dK (kvs ++ [(Sum.inr r.name, V.ref a)]))
            refine ⟨(e5.trans e6).mut hd, _, upd_same, by rw [List.length_append]; exact Nat.succ_le_succ hki, ?_⟩
            rw [tkq, if_pos rfl]
            exact K3.Paired.app (L2.Paired.mapP hp6 fun _ _ z => ⟨z.1, RO.si si z.2⟩) (.cons ⟨rfl, RO.si si hy6⟩ .nil)
        · rintro H5 ⟨e5, kvs, hk, hki, hp5⟩
          rw [lz, ← lenF, List.take_length] at hp5
          have e45 := e4.trans e5
          refine ⟨_, rfl, x, _, dx, _, rfl, e45 _ _ hx3, T.cl_Form, T.n_Form_questions, (by show 1 < 1000; decide), ?_⟩
          have ndx : d ≠ x := fun z => by rw [z, e4 _ _ hx3] at hd; cases hd
          have hx5 := e45 _ _ hx3
          have sx : ∀ b o, b ≠ x → H5 b = some o → (upd H5 x (.ins (He.ga K "Form") dx [("rows", .ref t), ("questions", .ref d)])) b = some o := fun b o hb h => by rw [upd_ne hb]; exact h
          have hx6 : (upd H5 x (.ins (He.ga K "Form") dx [("rows", .ref t), ("questions", .ref d)])) x = some (.ins (He.ga K "Form") dx [("rows", .ref t), ("questions", .ref d)]) := upd_same
          have e6 : Same B (upd H5 x (.ins (He.ga K "Form") dx [("rows", .ref t), ("questions", .ref d)])) := (e3.trans e45).mut hBx
          have ht6 : SqT K (upd H5 x (.ins (He.ga K "Form") dx [("rows", .ref t), ("questions", .ref d)])) t xs := SqT.far (e45 _ _ hx3) (e45.sqt ht3)
          have hk6 := sx _ _ ndx hk
          have sx2 : SI H5 (upd H5 x (.ins (He.ga K "Form") dx [("rows", .ref t), ("questions", .ref d)])) := SI.upd (e45 _ _ hx3) rfl _
          have hp6 : Paired (QE K (upd H5 x (.ins (He.ga K "Form") dx [("rows", .ref t), ("questions", .ref d)]))) kvs (qsOf (Rws.flat rs none 0)) := L2.Paired.mapP hp5 fun _ _ z => ⟨z.1, RO.si sx2 z.2⟩
          have h6 := sx _ _ npx.symm (e45 _ _ h3)
          have la6 := LA.si (e45.si.trans sx2) la
          rw [show putF ("questions" : Str) (V.ref d) [(("rows" : Str), V.ref t)] = [(("rows" : Str), V.ref t), (("questions" : Str), V.ref d)] from rfl]
          generalize upd H5 x (.ins (He.ga K "Form") dx [("rows", V.ref t), ("questions", .ref d)]) = H6 at hx6 e6 ht6 hk6 hp6 h6 la6 ⊢
          walk_at "go"
          refine ⟨_, rfl, p, rfl, ⟨_, SqL.of h6⟩, fun d2 hd2 => ?_⟩
          refine dc_any (walk_list (K := K) (a := p) (xs := zs)) (fun (i : Nat) H' => Same H6 H' ∧ ∃ kv2, H' d2 = some (.dK kv2) ∧ kv2.length ≤ i ∧ ∀ z, (valV kv2 (Sum.inr z)).isSome = repB ((Rws.flat rs none 0).take i) z) ⟨Same.new hd2 _, [], upd_same, Nat.le_refl _, fun z => rfl⟩ (fun i H' _ z => SqL.of (z.1 _ _ h6)) ?_ ?_
          · rintro i v _ H7 hi ⟨e7, kv2, hk2, hki2, hz2⟩ ⟨rfl, hv⟩
            obtain ⟨⟨r, ar⟩, hc1, u, y, rfl, hu, hy⟩ := K3.Paired.get la6 hv
            refine ⟨u, _, rfl, SqT.of (e7 _ _ hu), rfl, _, _, rfl, ?_⟩
            walk_at "go"
            refine ⟨_, _, rfl, ?_⟩
            walk_at "go"
            refine ⟨rfl, rfl, ?_⟩
            walk_at "go"
            have hy7 : RO K H7 y r := RO.same e7 hy
            refine ⟨y, r, rfl, hy7, fun H8 e8 => ?_⟩
            have hy8 := RO.same e8 hy7
            cases hq : r.isQ with
            | false =>
              walk_at "go"
              exact ⟨e7.trans e8, kv2, e8 _ _ hk2, by omega, fun z => by rw [hz2 z, rep_take hc1]; simp [hq]⟩
            | true =>
              walk_at "go"
              have no : (!decide (oV ar = V.non)) = ar.isSome := by cases ar <;> rfl
              rw [no]
              cases har : ar.isSome with
              | false =>
                walk_at "go"
                exact ⟨e7.trans e8, kv2, e8 _ _ hk2, by omega, fun z => by rw [hz2 z, rep_take hc1]; simp [har]⟩
              | true =>
                obtain ⟨a, dx2, fs, rfl, hia, hcl, hna, hlk⟩ := ro_name T hy8 (isQ_isN hq)
                walk_at "go"
                refine ⟨a, _, dx2, fs, _, rfl, hia, hcl, hna, hlk, ?_⟩
                walk_at "go"
                have hk8 := e8 _ _ hk2
                refine ⟨kv2, Sum.inr r.name, rfl, hk8, Nat.lt_of_le_of_lt (show kv2.length ≤ 1000 by omega) (by decide), ?_⟩
                refine ⟨(e7.trans e8).mut hd2, _, upd_same, Nat.le_trans (putK_len _ _ _) (Nat.succ_le_succ hki2), fun z => ?_⟩
                rw [putK_some, hz2 z, rep_take hc1]
                simp [hq, har]
          · rintro H7 ⟨e7, kv2, hk2, hki2, hz2⟩
            rw [lz, ← lenF, List.take_length] at hz2
            have nd2 : d2 ≠ x := fun z => by rw [z, hx6] at hd2; cases hd2
            refine ⟨_, rfl, x, _, dx, _, rfl, e7 _ _ hx6, T.cl_Form, T.n_Form_repeated, (by show 2 < 1000; decide), ?_⟩
            have sx7 : SI H7 (upd H7 x (.ins (He.ga K "Form") dx [("rows", .ref t), ("questions", .ref d), ("repeated", .ref d2)])) := SI.upd (e7 _ _ hx6) rfl _
            refine q _ t d d2 kvs kv2 ((e6.trans e7).mut hBx) upd_same (SqT.far (e7 _ _ hx6) (e7.sqt ht6)) (by rw [upd_ne ndx]; exact e7 _ _ hk6) ?_ (by rw [upd_ne nd2]; exact hk2) hz2
            exact L2.Paired.mapP hp6 fun _ _ z => ⟨z.1, RO.si (e7.si.trans sx7) z.2⟩
    · rw [decide_eq_false c2]
      walk_at "go"
      refine w_err2 ?_
      walk_at "go"
      refine ⟨p, zs, rfl, .inl (SqL.of h3), ?_⟩
      rw [lz]
      exact bad (by omega)
  · rw [decide_eq_false c1]
    walk_at "go"
    refine w_err2 ?_
    walk_at "go"
    refine ⟨p, zs, rfl, .inl (SqL.of h3), ?_⟩
    rw [lz]
    exact bad (by omega)
end
end K3
end P13_part
section B1_part
set_option Elab.async false
set_option linter.all false
set_option maxRecDepth 100000
set_option maxHeartbeats 1000000
set_option pp.deepTerms.threshold 5
open PySem PySem.Spec PyProof.Rows L2
/-- go on as far as nothing is open -/
local macro_rules | `(tactic| walk_at "go") => `(tactic| repeat (first
  | with_reducible refine w_seq ?_ | with_reducible refine w_next ?_ | with_reducible refine w_set ?_ | with_reducible refine w_drop ?_ | with_reducible refine w_ret ?_ | with_reducible refine w_retN ?_
  | with_reducible refine w_if ?_ | ((with_reducible refine' w_var ?hv ?_); (case hv => exact rfl)) | with_reducible refine w_c ?_ | with_reducible refine w_nil ?_ | with_reducible refine w_cons ?_ | with_reducible refine w_op ?_ | with_reducible refine w_un ?_
  | with_reducible refine w_test ?_ | with_reducible refine w_tB ?_ | with_reducible refine w_not ?_ | with_reducible refine w_and ?_ | with_reducible refine w_or ?_ | with_reducible refine w_bl ?_
  | with_reducible refine w_andV ?_ | with_reducible refine w_orV ?_ | with_reducible refine w_notV ?_ | with_reducible refine w_ifE ?_ | with_reducible refine w_chain ?_ | with_reducible refine w_i0 ?_
  | with_reducible refine w_call ?_ | with_reducible refine w_callS ?_ | with_reducible refine w_cB ?_ | with_reducible refine w_tup ?_ | with_reducible refine w_lst ?_ | with_reducible refine w_fldV ?_
  | with_reducible refine w_neF ?_ | with_reducible refine w_neT ?_ | with_reducible refine w_notN ?_ | with_reducible refine w_isN ?_ | with_reducible refine w_gname ?_ | with_reducible refine w_gsub ?_ | with_reducible refine w_asg ?_ | with_reducible refine w_sl ?_ | with_reducible refine w_noP ?_ | with_reducible refine w_int1 ?_ | with_reducible refine w_part ?_ | with_reducible refine w_yes ?_ | with_reducible refine w_nT ?_ | with_reducible refine w_nF ?_ | with_reducible refine w_iteT ?_ | with_reducible refine w_iteF ?_))
namespace L2
open PySem PySem.Spec PyProof.Rows
/-! ### comprehensions into any accumulator: what an element's turn does with it is left open -/
section
variable {prog : Program} {w : World} {A : Around}
/-- the way out of a turn that raises -/
abbrev turnOut (prog : Program) (w : World) (A : Around) (R : Result → Shared → Prop) (env : Env) : Value → Shared → Prop := notedBy (model prog w) A env fun e s' => R (.error e) s'
/-- one turn of the loop: B keeps the element, what it wants behind itself is said by a predicate of states -/
def TurnB (prog : Program) (w : World) (A : Around) (R : Result → Shared → Prop) (target : Expr) (ifs : List Expr) (it : Value) (env : Env) (B : (Value → Shared → Prop) → (Shared → Prop) → Shared → Prop) (I : Nat → Shared → Prop) : Prop :=
  ∀ n s, I n s → wpAny (model prog w) A (pyNext it) (fun r s₁ => match r with
    | none => R (.ok .next) s₁
    | some v => wpAny (model prog w) A (letOwnedTupleGo target it v) (fun _ s₂ => wpAny (model prog w) A (assign target env v) (fun _ s₃ =>
        wpAny (model prog w) A (forIn ifs true fun c r => if r = true then do let ok ← isTrue c env (eval c env); pure (ForInStep.yield ok) else pure (ForInStep.yield r)) (fun ok s₄ =>
          if ok = true then B (turnOut prog w A R env) (fun s' => ∃ m, m < n ∧ I m s') s₄ else ∃ m, m < n ∧ I m s₄) (turnOut prog w A R env) s₃) (turnOut prog w A R env) s₂) (turnOut prog w A R env) s₁) (turnOut prog w A R env) s
end
section
variable {X : Cx}
/-- the reading: o0 the new accumulator, st what the element's keeping asks -/
def tAcc (o0 : Addr → HO) (wi : TI) (g : TG) (tt : TT) (st : Addr → St → Hp → (Hp → Prop) → Prop) (vs : List Nat) : TE := fun σ H Q => wi σ H fun J H1 => ∀ D, H1 D = none → ∃ W : Nat → Nat → Hp → Prop, (∃ m, W 0 m (upd H1 D (o0 D))) ∧ ∀ i m H, W i m H →
  (J.stop i H ∧ Q (.ref D) H) ∨ (J.go i H ∧ ∃ Nx : Hp → Prop, (∀ H', Nx H' → ∃ m', m' < m ∧ W (i + 1) m' H') ∧ ∀ x H', J.yld i H x H' → g x (wipe σ vs) H' fun σ2 H2 => wipe σ2 vs = wipe σ vs ∧ tt σ2 H2 fun b H3 => if b = true then st D σ2 H3 Nx else Nx H3)
theorem acc_core {pins : List (Addr × Obj)} {s : Shared} {σ : St} {H : Hp} {Q : VK} {EX tg iter : Expr} {ifs : List Expr} {scope : Scope} {own : List (Str × Nat)} {pos : Pos} {wi : TI} {g : TG} {tt : TT} {use : Option (Value → Sem Unit)} {Qf : Value → Shared → Prop}
    {newA : Sem Value} {ob : Obj} {o0 : Addr → HO} {st : Addr → St → Hp → (Hp → Prop) → Prop} {B : Env → Addr → (Value → Shared → Prop) → (Shared → Prop) → Shared → Prop}
    (hc : X.calm = true) (hN : X.N.Nodup) (I : Inv X pins σ H s) (hi : PI X tg iter wi) (ok : BlkOk X.N X.env.scope scope own)
    (hcl : clausesOf EX = [⟨tg, iter, ifs, 0⟩]) (hs : ∀ x, foldedSetIterable iter X.env x = pure x)
    (hnew : ∀ {Q' : Value → Shared → Prop} {E' : Value → Shared → Prop} {s' : Shared}, Q' (.ref s'.heap.objs.size) { s' with heap := s'.heap.push ob } → wpAny (model X.prog X.w) X.A newA Q' E' s')
    (hlay : ∀ (H' : Hp) (s' : Shared), Inv X pins σ H' s' → ObjOk X.prog X.w (upd H' s'.heap.objs.size (o0 s'.heap.objs.size)) (s'.heap.push ob) s'.heap.objs.size (o0 s'.heap.objs.size))
    (hloop : ∀ {R : Result → Shared → Prop} {it : Value} {D : Addr} {env : Env} {s' : Shared} (Iv : Nat → Shared → Prop), TurnB X.prog X.w X.A R tg ifs it env (B env D) Iv → ∀ n, Iv n s' → codeAny (model X.prog X.w) X.A (.compLoop EX 0 it (.ref D) env) R s')
    (hstart : ∀ {R : Result → Shared → Prop} {it : Value} {D : Addr} {env : Env} {s' : Shared}, codeAny (model X.prog X.w) X.A (.compLoop EX 0 it (.ref D) env) R s' →
      wpAny (model X.prog X.w) X.A (pyIter it) (fun it' s'' => codeAny (model X.prog X.w) X.A (.compLoop EX 0 it' (.ref D) env) R s'') (turnOut X.prog X.w X.A R env) s' → codeAny (model X.prog X.w) X.A (.compStart EX 0 it (.ref D) env) R s')
    (hg : ∀ (s : Shared) (H : Hp) (C : Addr) (cl : List (Str × Addr)) (fp : List Addr), PG (X.blk s H scope (compEnvC scope cl C X.env) fp) tg g) (ht : ∀ (s : Shared) (H : Hp) (C : Addr) (cl : List (Str × Addr)) (fp : List Addr), PTs (X.blk s H scope (compEnvC scope cl C X.env) fp) ifs tt)
    (hst : ∀ (s : Shared) (H : Hp) (C : Addr) (cl : List (Str × Addr)) (fp : List Addr) (pn : List (Addr × Obj)) (σ' : St) (H' : Hp) (s' : Shared) (D : Addr) (N : Value → Shared → Prop) (Nx : Hp → Prop) (G : Shared → Prop), N = (X.blk s H scope (compEnvC scope cl C X.env) fp).xe ∨ True →
      Inv (X.blk s H scope (compEnvC scope cl C X.env) fp) pn σ' H' s' → st D σ' H' Nx → (∀ H'' s'', Inv (X.blk s H scope (compEnvC scope cl C X.env) fp) pn σ' H'' s'' → Nx H'' → G s'') → B (compEnvC scope cl C X.env) D N G s')
    (h : tAcc o0 wi g tt st (own.map (·.2)) σ H Q)
    (hRR : ∀ D C s' m H', Inv X pins σ H' s' → Q (.ref D) H' → s'.heap.Ns C m → FpOk X pins H' C → compPost (model X.prog X.w) X.A X.xe use Qf (.ref D) C (.ok .next) s') :
    wpAny (model X.prog X.w) X.A (comprehension EX scope X.env pos newA false (eval iter X.env) use) Qf X.xe s := by
  have hfree : ∀ y ∈ scope.names, y.2 = .free → ∃ c, X.env.cells.lookup y.1 = some c := fun y hy e => by
    rcases ok.free y hy e with k | k
    · exact I.ok.has _ (.inl k)
    · exact I.ok.has _ (.inr k)
  refine wpAny_comprehension_free (use := use) hcl hs (closure_ok hfree) ok.kind (fun y hy e => by rw [ok.uniq y hy, e]) (thn (hi.run pins s σ H _ I h) fun xv s1 hx => thn hx fun itv s2 h2 => ?_)
  obtain ⟨it, fp, tn, J, H2, e, I2, T, st2, f2, q⟩ := h2
  subst e
  refine hnew (newEnv_comp ?_)
  have lay := hlay H2 s2 I2
  generalize hD : s2.heap.objs.size = D at lay ⊢
  have hDn : H2 D = none := I2.hok.fresh (Nat.le_of_eq hD)
  obtain ⟨W, ⟨m0, w0⟩, turn⟩ := q D hDn
  generalize hs3 : ({ s2 with heap := s2.heap.push ob } : Shared) = s3
  have h3 : s3.heap = s2.heap.push ob := by rw [← hs3]
  have I3 : Inv X pins σ (upd H2 D (o0 D)) s3 := by
    rw [← hs3]
    exact I2.laid (t' := s2.toks) (fun b o e => Heap.get?_push_of_some _ e) (Nat.le_of_eq hD) lay
  have f3 : ∀ b ∈ fp, FpOk X pins (upd H2 D (o0 D)) b ∧ b < s3.heap.objs.size := fun b hb => by
    obtain ⟨ob', e', _⟩ := T.obj _ _ st2 b hb
    have hlt : b < s2.heap.objs.size := Heap.lt_size e'
    refine ⟨⟨?_, (f2 b hb).2⟩, by rw [h3, Heap.size_push]; exact Nat.lt_succ_of_lt hlt⟩
    rw [upd_ne (by rw [← hD]; exact Nat.ne_of_lt hlt)]
    exact (f2 b hb).1
  have st3 : tn 0 s3.heap := T.keep _ _ _ st2 fun b _ o e => by rw [h3]; exact Heap.get?_push_of_some _ e
  have I4 := block_start I3 ok hN f3
  generalize hcells : cellsFrom (s3.heap.objs.size + 1) scope.names (cloFrom X.env.cells scope.names []) = cls at I4
  have pg := hg s3 (upd H2 D (o0 D)) s3.heap.objs.size cls fp
  have pt := ht s3 (upd H2 D (o0 D)) s3.heap.objs.size cls fp
  have pst := hst s3 (upd H2 D (o0 D)) s3.heap.objs.size cls fp
  show codeAny _ _ (.compStart EX 0 (.ref it) (.ref D) (compEnvC scope cls s3.heap.objs.size X.env)) (compPost (model X.prog X.w) X.A X.xe use Qf (.ref D) s3.heap.objs.size) { s3 with heap := pushCells (s3.heap.push { cls := .type "dict", data := .dict #[] }) scope.names }
  have nfp : ∀ b ∈ fp, (upd H2 D (o0 D)) b = none := fun b hb => (f3 b hb).1.1
  have cL : (compEnvC scope cls s3.heap.objs.size X.env).locals = s3.heap.objs.size := rfl
  generalize compEnvC scope cls s3.heap.objs.size X.env = ce at I4 pg pt pst cL ⊢
  generalize upd H2 D (o0 D) = H3 at I3 I4 pg pt pst w0 nfp f3
  generalize hs4 : ({ s3 with heap := pushCells (s3.heap.push { cls := .type "dict", data := .dict #[] }) scope.names } : Shared) = s4 at I4 ⊢
  have st4 : tn 0 s4.heap := T.keep _ _ _ st3 fun b _ o e => by rw [← hs4]; exact pushCells_keeps _ _ _ _ (Heap.get?_push_of_some _ e)
  have fpOk : ∀ {σ' : St} {H' : Hp} {s' : Shared}, Inv (X.blk s3 H3 scope ce fp) [] σ' H' s' → (∀ b ∈ fp, H' b = none) → ∀ b ∈ fp, FpOk (X.blk s3 H3 scope ce fp) [] H' b := fun I' hn b hb =>
    ⟨hn b hb, (I'.ok.exf b hb).1, I'.ok.exfs b hb, .inl hb, fun x c e => (I'.ok.exf b hb).2 x c e, fun p hp => absurd hp (by simp)⟩
  refine (fun loop => hstart loop (T.self X.A 0 _ _ _ st4 loop)) ?_
  refine hloop (fun n s' => ∃ i H', Inv (X.blk s3 H3 scope ce fp) [] (wipe σ (own.map (·.2))) H' s' ∧ tn i s'.heap ∧ (∀ b ∈ fp, H' b = none) ∧ W i n H') ?_ m0 ⟨0, H3, I4, st4, nfp, w0⟩
  rintro n s5 ⟨i, H5, I5, st5, n5, w5⟩
  rcases turn i n H5 w5 with ⟨stop, qq⟩ | ⟨go, Nx, hNx, step⟩
  · refine thnF (T.done (X.blk s3 H3 scope ce fp) rfl rfl rfl hc i [] s5 _ H5 (fun _ _ => False) I5 (fpOk I5 n5) st5 stop) fun r s6 ⟨hr, I6⟩ => ?_
    subst hr
    have I7 : Inv X pins σ H5 s6 := I3.call' (ch := fp) I6.os I6.base I6.hok I6.bare fun b hb => ⟨(f3 b hb).1.2.2.2.1, (f3 b hb).1.2.1, (f3 b hb).1.2.2.2.2.1, (f3 b hb).1.2.2.2.2.2⟩
    have nC : H5 s3.heap.objs.size = none := cL ▸ (I6.free : H5 ce.locals = none)
    obtain ⟨m, hn, _⟩ := I6.loc
    exact hRR D s3.heap.objs.size s6 m H5 I7 qq (cL ▸ (hn : s6.heap.Ns ce.locals m)) (I3.fpOk (Nat.le_refl _) nC)
  · refine thnF (T.item (X.blk s3 H3 scope ce fp) rfl rfl rfl hc i [] s5 _ H5 (fun _ _ => False) I5 (fpOk I5 n5) st5 go) fun r s6 ⟨u, hr, h6⟩ => ?_
    subst hr
    refine thnF h6 fun _ s7 ⟨x, H7, I7, r7, y7, st7, n7⟩ => ?_
    have I7' := I7.pinned (fpOk I7 n7) (T.obj _ _ st7)
    refine thnF (pg.run _ s7 _ H7 x u _ I7' r7 (step x H7 y7)) fun _ s8 ⟨σ8, H8, I8, hw8, q8⟩ => ?_
    refine thnF (pt.run _ s8 σ8 H8 _ I8 q8) fun b s9 ⟨H9, I9, q9⟩ => ?_
    have fin : ∀ (H' : Hp) (s' : Shared), Inv (X.blk s3 H3 scope ce fp) ([] ++ pinsAt fp s7.heap) σ8 H' s' → Nx H' → ∃ m, m < n ∧ ∃ i H', Inv (X.blk s3 H3 scope ce fp) [] (wipe σ (own.map (·.2))) H' s' ∧ tn i s'.heap ∧ (∀ b ∈ fp, H' b = none) ∧ W i m H' := fun H' s' I' nx => by
      obtain ⟨m', hm, w'⟩ := hNx H' nx
      have pinned : ∀ b ∈ fp, ∀ o, s7.heap.get? b = some o → s'.heap.get? b = some o ∧ H' b = none := fun b hb o e =>
        let z := I'.pin (b, o) (List.mem_append_right _ (List.mem_append_right _ (mem_pinsAt hb e)))
        ⟨z.1, z.2.1⟩
      refine ⟨m', hm, i + 1, H', (I'.unpinned (pins := [])).weak (by rw [← hw8, wipe_length]) (fun j v e => (wipe_some (hw8 ▸ e)).1), T.keep _ _ _ st7 fun b hb o e => (pinned b hb o e).1, fun b hb => ?_, w'⟩
      obtain ⟨o, e, _⟩ := T.obj _ _ st7 b hb
      exact (pinned b hb o e).2
    cases b with
    | false => exact fin _ _ I9 q9
    | true => exact pst _ σ8 H9 s9 D _ Nx _ (.inr trivial) I9 q9 fin
end
end L2
namespace L2
open PySem PySem.Spec PyProof.Rows
section
variable {X : Cx} {pins : List (Addr × Obj)} {σ : St} {H : Hp} {s : Shared} {A : Around} {E : Value → Shared → Prop}
/-- a tuple's key kept by a comprehension -/
theorem d_dictSetT {D b : Addr} {kvs : List (List Key × V)} {k : List Key} {v : V} {r : Value} {G : Shared → Prop} (hu : A.units < cLine) (I : Inv X pins σ H s) (hD : H D = some (.dT kvs)) (eb : H b = some (.tup (k.map kV))) (hz : kvs.length < sizeLine) (rv : RelV v r)
    (h : ∀ s', Inv X pins σ (upd H D (.dT (putK kvs k v))) s' → G s') : wpAny (model X.prog X.w) A (dictSet D (.ref b) r) (fun _ s' => G s') E s := by
  obtain ⟨z, hd, xs, rel, dd⟩ := dt_of I.hok hD
  have lx : xs.length ≤ sizeLine := by rw [← Paired.length rel]; exact z
  have lp : (putK kvs k v).length ≤ sizeLine := by have := length_putK kvs k v; omega
  refine wpAny_dictSet_heap (hsz := lx) (show (tupleKind (mixKind X.prog X.w)).room A from hu) (key_of I.hok eb) dd fun h' dd' hs => h _ ?_
  obtain ⟨q, es, ep, hq, h2, h3, h4, _, h5⟩ := dd'
  refine d_write I (by rw [hD]; exact True.intro) hs ⟨q, hq⟩ ⟨lp, hd, _, (rel.put k eb rv).keeps fun c ys ec => ?_, q, es, ep, hq, h2, h3, h4, h5⟩
  rw [upd_ne (ne_of ec hD (fun z => nomatch z))]
  exact ec
end
section
variable {X : Cx}
def stT (tk tv : TE) (D : Addr) (σ : St) (H : Hp) (Nx : Hp → Prop) : Prop := tk σ H fun y H1 => tv σ H1 fun z H2 => ∃ kvs k b, y = .ref b ∧ H2 b = some (.tup (List.map kV k)) ∧ H2 D = some (.dT kvs) ∧ kvs.length < sizeLine ∧ Nx (upd H2 D (.dT (putK kvs k z)))
/-- {k: v for .. in .. if ..}, the keys tuples -/
def tDcT (wi : TI) (g : TG) (tt : TT) (tk tv : TE) (vs : List Nat) : TE := tAcc (fun _ => .dT []) wi g tt (stT tk tv) vs
theorem pe_dcT {kx vx tg iter : Expr} {ifs : List Expr} {scope : Scope} {own : List (Str × Nat)} {pos : Pos} {wi : TI} {g : TG} {tt : TT} {tk tv : TE} (hu : X.A.units < cLine) (hc : X.calm = true) (hN : X.N.Nodup) (hi : PI X tg iter wi) (ok : BlkOk X.N X.env.scope scope own)
    (hg : ∀ (s : Shared) (H : Hp) (C : Addr) (cl : List (Str × Addr)) (fp : List Addr), PG (X.blk s H scope (compEnvC scope cl C X.env) fp) tg g) (ht : ∀ (s : Shared) (H : Hp) (C : Addr) (cl : List (Str × Addr)) (fp : List Addr), PTs (X.blk s H scope (compEnvC scope cl C X.env) fp) ifs tt)
    (hk : ∀ (s : Shared) (H : Hp) (C : Addr) (cl : List (Str × Addr)) (fp : List Addr), PE (X.blk s H scope (compEnvC scope cl C X.env) fp) kx tk)
    (he : ∀ (s : Shared) (H : Hp) (C : Addr) (cl : List (Str × Addr)) (fp : List Addr), PE (X.blk s H scope (compEnvC scope cl C X.env) fp) vx tv) (hs : ∀ x, foldedSetIterable iter X.env x = pure x := by intro _; rfl) :
    PE X (.DictComp kx vx [⟨tg, iter, ifs, 0⟩] scope pos) (tDcT wi g tt tk tv (own.map (·.2))) := by
  refine ⟨fun pins s σ H Q I h => ?_⟩
  rw [arm_eval_DictComp]
  refine acc_core (ob := { cls := .type "dict", data := .dict #[] }) (o0 := fun _ => .dT []) (st := stT tk tv)
    (B := fun env D N G s' => wpAny (model X.prog X.w) X.A (eval kx env) (fun kv s₄ => wpAny (model X.prog X.w) X.A (eval vx env) (fun vv s₅ => wpAny (model X.prog X.w) X.A (dictSet D kv vv) (fun _ s₆ => G s₆) N s₅) N s₄) N s')
    hc hN I hi ok rfl hs (fun q => wpAny_newObj_type q) (fun H' s' I' => dt_empty s'.heap I'.big) (fun Iv turn n hI => compLoop_anyD Iv turn n hI) (fun loop self => codeAny_compStart_dict loop self) hg ht ?_ h
    fun D C s' m H' I' q hn f => ⟨m, hn, fun h'' sb => ?_⟩
  · intro s0 H0 C cl fp pn σ' H' s' D N Nx G _ I' q k
    refine thnF ((hk s0 H0 C cl fp).run pn s' σ' H' _ I' q) fun z s10 ⟨yk, H10, I10, r10, q10⟩ => ?_
    refine thnF ((he s0 H0 C cl fp).run pn s10 σ' H10 _ I10 q10) fun z2 s11 ⟨yv, H11, I11, r11, kvs, kk, b, ek, eb, hD, hz, nx⟩ => ?_
    subst ek
    cases r10
    exact d_dictSetT (X := X.blk s0 H0 scope (compEnvC scope cl C X.env) fp) hu I11 hD eb hz r11 fun s12 I12 => k _ _ I12 nx
  · obtain ⟨f0, f1, f2, f3, f4, f5⟩ := f
    exact ⟨.ref D, H', I'.turned (t' := s'.toks) (fun b o hb e => (sb.2 b hb).trans e) f0 f1 f3 f4 f5, rfl, q⟩
/-! ### {e for .. in .. if ..}, e a number or a text -/
def stK (P : Program) (w : World) (te : TE) (D : Addr) (σ : St) (H : Hp) (Nx : Hp → Prop) : Prop := te σ H fun y H1 => ∃ (k : Key) (S : Key → Bool) (n : Nat), y = kV k ∧ H1 D = some (SetK P w D S n) ∧ n + 1 < scanBound ∧ Nx (upd H1 D (SetK P w D (fun j => S j || decide (j = k)) (if S k = true then n else n + 1)))
def tScK (P : Program) (w : World) (wi : TI) (g : TG) (tt : TT) (te : TE) (vs : List Nat) : TE := tAcc (fun D => SetK P w D (fun _ => false) 0) wi g tt (stK P w te) vs
theorem saddK_run {pins : List (Addr × Obj)} {σ : St} {H : Hp} {s : Shared} {E : Value → Shared → Prop} {D : Addr} {k : Key} {S : Key → Bool} {n : Nat} {u : Value} {G : Shared → Prop} (I : Inv X pins σ H s) (hD : H D = some (SetK X.prog X.w D S n)) (room : n + 1 < scanBound) (ry : RelV (kV k) u)
    (h : ∀ s', Inv X pins σ (upd H D (SetK X.prog X.w D (fun j => S j || decide (j = k)) (if S k = true then n else n + 1))) s' → G s') : wpAny (model X.prog X.w) X.A (call (.builtin "set.add") [.ref D, u]) (fun _ s' => G s') E s := by
  refine call_set_add (kV_is ry) (key_scan ry) (setK_get I hD) room fun h' sb new => ?_
  have he : ∃ u, h'.get? D = some u := by
    have ⟨o, _, _, _, ho, _⟩ := new
    exact ⟨o, ho⟩
  exact h _ (I.write (e := D) (t' := s.toks + 1) (by rw [hD]; trivial) (.inl rfl) (fun b u hb hu => (sb.2 b hb).trans hu) he (setK_new new))
theorem pe_scK {elt tg iter : Expr} {ifs : List Expr} {scope : Scope} {own : List (Str × Nat)} {pos : Pos} {wi : TI} {g : TG} {tt : TT} {te : TE} (hc : X.calm = true) (hN : X.N.Nodup) (hi : PI X tg iter wi) (ok : BlkOk X.N X.env.scope scope own)
    (hg : ∀ (s : Shared) (H : Hp) (C : Addr) (cl : List (Str × Addr)) (fp : List Addr), PG (X.blk s H scope (compEnvC scope cl C X.env) fp) tg g) (ht : ∀ (s : Shared) (H : Hp) (C : Addr) (cl : List (Str × Addr)) (fp : List Addr), PTs (X.blk s H scope (compEnvC scope cl C X.env) fp) ifs tt)
    (he : ∀ (s : Shared) (H : Hp) (C : Addr) (cl : List (Str × Addr)) (fp : List Addr), PE (X.blk s H scope (compEnvC scope cl C X.env) fp) elt te) (hs : ∀ x, foldedSetIterable iter X.env x = pure x := by intro _; rfl) :
    PE X (.SetComp elt [⟨tg, iter, ifs, 0⟩] scope pos) (tScK X.prog X.w wi g tt te (own.map (·.2))) := by
  refine ⟨fun pins s σ H Q I h => ?_⟩
  rw [PpSet.eval_SetComp]
  refine acc_core (o0 := fun D => SetK X.prog X.w D (fun _ => false) 0) (st := stK X.prog X.w te)
    (B := fun env D N G s' => wpAny (model X.prog X.w) X.A (eval elt env) (fun x s₄ => wpAny (model X.prog X.w) X.A (call (.builtin "set.add") [.ref D, x]) (fun _ s₅ => G s₅) N s₄) N s')
    hc hN I hi ok rfl hs (fun q => PpSet.newSet_ok q) (fun H' s' I' => ?_) (fun Iv turn n hI => PpSet.compLoopS_any Iv turn n hI) (fun loop self => PpSet.codeAny_compStart_set loop self) hg ht ?_ h
    fun D C s' m H' I' q hn f => ⟨m, hn, fun h'' sb => ?_⟩
  · exact setK_new ⟨_, #[], 0, _, Heap.get?_push_size _ rfl, ⟨rfl, rfl, rfl⟩, rfl, (fun e he => by simp at he), (fun k => by simp), (by decide), (by rfl), rfl⟩
  · intro s0 H0 C cl fp pn σ' H' s' D N Nx G _ I' q k
    refine thnF ((he s0 H0 C cl fp).run pn s' σ' H' _ I' q) fun z s10 ⟨y, H10, I10, r10, kk, S, n, ey, hD, hz, nx⟩ => ?_
    subst ey
    exact saddK_run (X := X.blk s0 H0 scope (compEnvC scope cl C X.env) fp) I10 hD hz r10 fun s11 I11 => k _ _ I11 nx
  · obtain ⟨f0, f1, f2, f3, f4, f5⟩ := f
    exact ⟨.ref D, H', I'.turned (t' := s'.toks) (fun b o hb e => (sb.2 b hb).trans e) f0 f1 f3 f4 f5, rfl, q⟩
end
/-- the invariant's bookkeeping, over whatever is walked -/
theorem acc_it {J : It} {n : Nat} {G : Hp → Prop} {Y : Nat → Hp → V → Hp → Prop} (wk : Walk J n G Y) {o0 : Addr → HO} {g : TG} {tt : TT} {st : Addr → St → Hp → (Hp → Prop) → Prop} {vs : List Nat} {σ : St} {H1 : Hp} {D : Addr} {Qd : Hp → Prop} (Pv : Nat → Hp → Prop) (h0 : Pv 0 (upd H1 D (o0 D)))
    (hG : ∀ i H, i ≤ n → Pv i H → G H)
    (hs : ∀ i x H H', i < n → Pv i H → Y i H x H' → g x (wipe σ vs) H' fun σ2 H2 => wipe σ2 vs = wipe σ vs ∧ tt σ2 H2 fun b H3 => if b = true then st D σ2 H3 (Pv (i + 1)) else Pv (i + 1) H3)
    (hd : ∀ H, Pv n H → Qd H) :
    ∃ W : Nat → Nat → Hp → Prop, (∃ m, W 0 m (upd H1 D (o0 D))) ∧ ∀ i m H, W i m H → (J.stop i H ∧ Qd H) ∨ (J.go i H ∧ ∃ Nx : Hp → Prop, (∀ H', Nx H' → ∃ m', m' < m ∧ W (i + 1) m' H') ∧
      ∀ x H', J.yld i H x H' → g x (wipe σ vs) H' fun σ2 H2 => wipe σ2 vs = wipe σ vs ∧ tt σ2 H2 fun b H3 => if b = true then st D σ2 H3 Nx else Nx H3) := by
  refine ⟨fun i m H => m + i = n ∧ Pv i H, ⟨n, rfl, h0⟩, fun i m H w => ?_⟩
  obtain ⟨e, p⟩ := w
  by_cases c : i < n
  · exact .inr ⟨wk.goes i H c (hG i H (Nat.le_of_lt c) p), Pv (i + 1), fun H' p' => ⟨m - 1, by omega, by omega, p'⟩, fun x H' y => hs i x H H' c p (wk.yields i H x H' c (hG i H (Nat.le_of_lt c) p) y)⟩
  · have e2 : i = n := by omega
    subst e2
    exact .inl ⟨wk.stops H (hG i H (Nat.le_refl _) p), hd H p⟩
end L2
end B1_part
section B2_part
set_option Elab.async false
set_option linter.all false
set_option maxRecDepth 100000
set_option maxHeartbeats 1000000
set_option pp.deepTerms.threshold 5
open PySem PySem.Spec PyProof.Rows L2
/-- go on as far as nothing is open -/
local macro_rules | `(tactic| walk_at "go") => `(tactic| repeat (first
  | with_reducible refine w_seq ?_ | with_reducible refine w_next ?_ | with_reducible refine w_set ?_ | with_reducible refine w_drop ?_ | with_reducible refine w_ret ?_ | with_reducible refine w_retN ?_
  | with_reducible refine w_if ?_ | ((with_reducible refine' w_var ?hv ?_); (case hv => exact rfl)) | with_reducible refine w_c ?_ | with_reducible refine w_nil ?_ | with_reducible refine w_cons ?_ | with_reducible refine w_op ?_ | with_reducible refine w_un ?_
  | with_reducible refine w_test ?_ | with_reducible refine w_tB ?_ | with_reducible refine w_not ?_ | with_reducible refine w_and ?_ | with_reducible refine w_or ?_ | with_reducible refine w_bl ?_
  | with_reducible refine w_andV ?_ | with_reducible refine w_orV ?_ | with_reducible refine w_notV ?_ | with_reducible refine w_ifE ?_ | with_reducible refine w_chain ?_ | with_reducible refine w_i0 ?_
  | with_reducible refine w_call ?_ | with_reducible refine w_callS ?_ | with_reducible refine w_cB ?_ | with_reducible refine w_tup ?_ | with_reducible refine w_lst ?_ | with_reducible refine w_fldV ?_
  | with_reducible refine w_neF ?_ | with_reducible refine w_neT ?_ | with_reducible refine w_notN ?_ | with_reducible refine w_isN ?_ | with_reducible refine w_gname ?_ | with_reducible refine w_gsub ?_ | with_reducible refine w_asg ?_ | with_reducible refine w_sl ?_ | with_reducible refine w_noP ?_ | with_reducible refine w_int1 ?_ | with_reducible refine w_part ?_ | with_reducible refine w_yes ?_ | with_reducible refine w_nT ?_ | with_reducible refine w_nF ?_ | with_reducible refine w_iteT ?_ | with_reducible refine w_iteF ?_))
namespace L2
open PySem PySem.Spec PyProof.Rows
/-! ### == and != of two dicts whose keys are objects -/
section
variable {prog : Program} {w : World} {K : Type} [DecidableEq K] {knd : HeapKind prog w K} {A : Around} {E : Value → Shared → Prop} {s : Shared} {a b : Addr} {xs ys : List (K × Addr × Value)} {e : K → Bool}
/-- what is found at an entry's key, and what comparing it gives -/
def chkH (ys : List (K × Addr × Value)) (e : K → Bool) (x : K × Addr × Value) : Bool := (atKey ys x.1).isSome && e x.1
theorem same_heap {nm : String} {Q : Bool → Shared → Prop} (hu : knd.room A) (ha : (a == sysModules) = false) (hb : (b == sysModules) = false) (da : s.heap.DictOfH knd a xs) (db : s.heap.DictOfH knd b ys)
    (he : ∀ x ∈ xs, ∀ p, atKey ys x.1 = some p → SeqAt.EqAt A s x.2.2 p.2 (e x.1)) (h : Q (xs.length == ys.length && xs.all (chkH ys e)) s) :
    wpAny (model prog w) A (Builtin.Dict.samePairs nm a b) Q E s := by
  obtain ⟨oa, es, ep, hoa, _, hda, hea, hia, hna⟩ := da
  obtain ⟨ob, fs, fp, hob, _, hdb, heb, hib, hnb⟩ := db
  have la : es.size = xs.length := size_of_entries hea
  have lb : fs.size = ys.length := size_of_entries heb
  unfold Builtin.Dict.samePairs Builtin.Dict.showsAll
  rw [if_neg (by rw [ha]; exact Bool.false_ne_true), if_neg (by rw [hb]; exact Bool.false_ne_true)]
  refine wpAny_bind (wpAny_pure (wpAny_bind (wpAny_pure (wpAny_bind (wpAny_dictEntries hoa hda ?_)))))
  dsimp only
  refine wpAny_bind (wpAny_dictEntries hob hdb ?_)
  by_cases sz : es.size = fs.size
  case neg =>
    rw [if_pos (by simpa using sz)]
    have : (xs.length == ys.length) = false := by rw [← la, ← lb]; simpa using sz
    rw [this, Bool.false_and] at h
    exact wpAny_bind (wpAny_rule (wpAny_pure h))
  case pos =>
    have h' : Q (xs.all (chkH ys e)) s := by
      have : (xs.length == ys.length) = true := by rw [← la, ← lb]; simpa using sz
      rw [this, Bool.true_and] at h
      exact h
    rw [if_neg (by rw [sz]; simp)]
    refine wpAny_bind (wpAny_dictEpoch hoa hda ?_)
    refine wpAny_bind ?_
    rw [Std.Legacy.Range.forIn_eq_forIn_range']
    simp only [Std.Legacy.Range.size, Nat.sub_zero, Nat.add_sub_cancel, Nat.div_one]
    refine wpAny_forIn_list _ (fun rest q s' => s' = s ∧ q = (none, ()) ∧ ∃ i, rest = List.range' i (es.size - i) ∧ i ≤ es.size ∧ xs.all (chkH ys e) = (xs.drop i).all (chkH ys e)) _ ?_ ?_ _ _ ⟨rfl, rfl, 0, by simp, Nat.zero_le _, by simp⟩
    · rintro x rest q s' ⟨rfl, rfl, i, hr, hi, all⟩
      have lt : i < es.size := by
        rcases Nat.lt_or_ge i es.size with z | z
        · exact z
        · rw [Nat.sub_eq_zero_of_le z] at hr; simp at hr
      obtain ⟨rfl, hrest⟩ : x = i ∧ rest = List.range' (i + 1) (es.size - (i + 1)) := by
        rw [show es.size - i = (es.size - (i + 1)) + 1 by omega, List.range'_succ] at hr
        injection hr with h1 h2
        exact ⟨h1, h2⟩
      have ltx : x < xs.length := by omega
      obtain ⟨⟨k, c, v⟩, hx⟩ : ∃ t, xs[x]? = some t := ⟨_, List.getElem?_eq_getElem ltx⟩
      have hmem := List.mem_of_getElem? hx
      have hdrop : xs.drop x = (k, c, v) :: xs.drop (x + 1) := by
        rw [List.drop_eq_getElem_cons ltx]
        congr 1
        exact (List.getElem?_eq_some_iff.mp hx).2
      have hex : es[x]? = some ⟨knd.hash k, .ref c, v⟩ := by rw [entry_at hea x, hx]; rfl
      have hk : knd.is s'.heap k c := hia _ hmem
      refine wpAny_bind (wpAny_dictEntries hoa hda ?_)
      rw [hex]
      show wpAny _ _ (holding [Value.ref c, v] _ >>= _) _ _ _
      refine wpAny_bind (wpAny_holding (wpAny_bind (wpAny_dictFind_heap hu hk hob hdb heb hib hnb (fun hno => ?_) fun j p hj => ?_)))
      · have ck : chkH ys e (k, c, v) = false := by unfold chkH; rw [atKey_none_of_get hno]; rfl
        rw [all, hdrop, List.all_cons, ck, Bool.false_and] at h'
        refine wpAny_pure ?_
        show wpAny _ _ (if (!false) = true then _ else _) _ _ _
        rw [if_pos (by decide)]
        exact wpAny_pure (wpAny_pure h')
      · have hat := atKey_of_get hnb hj
        refine wpAny_bind (wpAny_dictEntries hob hdb ?_)
        rw [entry_at heb j, hj]
        refine wpAny_holding (he (k, c, v) hmem p hat prog w _ _ ?_)
        have ck : chkH ys e (k, c, v) = e k := by unfold chkH; rw [hat]; rfl
        cases hek : e k with
        | false =>
          rw [all, hdrop, List.all_cons, ck, hek, Bool.false_and] at h'
          show wpAny _ _ (if (!false) = true then _ else _) _ _ _
          rw [if_pos (by decide)]
          exact wpAny_pure (wpAny_pure h')
        | true =>
          show wpAny _ _ (if (!true) = true then _ else _) _ _ _
          rw [if_neg (by decide)]
          refine wpAny_bind (wpAny_dictEpoch hoa hda ?_)
          rw [if_neg (by simp)]
          refine wpAny_pure ⟨rfl, rfl, x + 1, hrest, lt, ?_⟩
          rw [all, hdrop, List.all_cons, ck, hek, Bool.true_and]
    · rintro q s' ⟨rfl, rfl, i, hr, hi, all⟩
      have hin : i = es.size := by
        rcases Nat.lt_or_ge i es.size with z | z
        · rw [show es.size - i = (es.size - (i + 1)) + 1 by omega, List.range'_succ] at hr
          exact nomatch hr
        · exact Nat.le_antisymm hi z
      refine wpAny_pure ?_
      rw [all, hin, la, List.drop_length] at h'
      exact h'
theorem eq_heap {Q : Value → Shared → Prop} (hu : knd.room A.in1) (hu0 : A.units < cLine) (ha : (a == sysModules) = false) (hb : (b == sysModules) = false) (da : s.heap.DictOfH knd a xs) (db : s.heap.DictOfH knd b ys)
    (he : ∀ x ∈ xs, ∀ p, atKey ys x.1 = some p → SeqAt.EqAt A.in1 s x.2.2 p.2 (e x.1)) (h : Q (.bool (xs.length == ys.length && xs.all (chkH ys e))) s) : wpAny (model prog w) A (compareOp .Eq (.ref a) (.ref b)) Q E s := by
  refine wpAny_richCompare_same_room (op := .Eq) da.typeIs db.typeIs PySem.F.slot_dict_eq (wpAny_call_entry PySem.F.slot_dict_eq da.typeIs PySem.F.entry_dict_eq ?_ (PySem.F.args_dict_eq_2 _ _)) hu0
  refine (show wpAny _ _ (Builtin.Dict.dictSlotArgs "__eq__" ⟨[.ref a, .ref b], []⟩ >>= _) _ _ s from wpAny_bind ?_)
  unfold Builtin.Dict.dictSlotArgs
  refine wpAny_bind (wpAny_notOrdered_dict da.typeIs ?_)
  refine (show wpAny _ _ (pure (Value.ref a, Value.ref b)) _ _ s from wpAny_pure (wpAny_bind (wpAny_isInstance (T := "dict") db.typeIs PySem.F.sub_dict_dict ?_)))
  simp only [Bool.not_true, Bool.false_eq_true, if_false]
  exact wpAny_bind (wpAny_pure (wpAny_bind (wpAny_pure (wpAny_bind (same_heap hu ha hb da db he (wpAny_pure ⟨_, rfl, (fun x => nomatch x), by simpa using h⟩))))))
theorem ne_heap {Q : Value → Shared → Prop} (hu : knd.room A.in1) (hu0 : A.units < cLine) (ha : (a == sysModules) = false) (hb : (b == sysModules) = false) (da : s.heap.DictOfH knd a xs) (db : s.heap.DictOfH knd b ys)
    (he : ∀ x ∈ xs, ∀ p, atKey ys x.1 = some p → SeqAt.EqAt A.in1 s x.2.2 p.2 (e x.1)) (h : Q (.bool (!(xs.length == ys.length && xs.all (chkH ys e)))) s) : wpAny (model prog w) A (compareOp .NotEq (.ref a) (.ref b)) Q E s := by
  refine wpAny_richCompare_same_room (op := .NotEq) da.typeIs db.typeIs PySem.F.slot_dict_ne (wpAny_call_entry PySem.F.slot_dict_ne da.typeIs PySem.F.entry_dict_ne ?_ (PySem.F.args_dict_ne_2 _ _)) hu0
  refine (show wpAny _ _ (Builtin.Dict.dictSlotArgs "__ne__" ⟨[.ref a, .ref b], []⟩ >>= _) _ _ s from wpAny_bind ?_)
  unfold Builtin.Dict.dictSlotArgs
  refine wpAny_bind (wpAny_notOrdered_dict da.typeIs ?_)
  refine (show wpAny _ _ (pure (Value.ref a, Value.ref b)) _ _ s from wpAny_pure (wpAny_bind (wpAny_isInstance (T := "dict") db.typeIs PySem.F.sub_dict_dict ?_)))
  simp only [Bool.not_true, Bool.false_eq_true, if_false]
  exact wpAny_bind (wpAny_pure (wpAny_bind (wpAny_pure (wpAny_bind (same_heap hu ha hb da db he (wpAny_pure ⟨_, rfl, (fun x => nomatch x), by simpa using h⟩))))))
end
/-- a dict's pairs, told as data -/
def KD (K : PySem.W.Frag) (H : Hp) : List (List Key × V) → List (List Key × PyData) → Prop := Paired fun kv x => kv.1 = x.1 ∧ Dp K H kv.2 x.2 ∧ SeqAt.shaped x.2 = true
def lookD (ys : List (List Key × PyData)) (k : List Key) : Option PyData := (ys.find? fun y => decide (y.1 = k)).map (·.2)
def dSame (xs ys : List (List Key × PyData)) : Bool := xs.length == ys.length && xs.all fun x => match lookD ys x.1 with
  | some d => PyData.eqv x.2 d
  | none => false
def rEqT (K : PySem.W.Frag) : R2 := fun x y H Q => ∃ (a b : Addr) (ks ls : List (List Key × V)) (xs ys : List (List Key × PyData)), x = .ref a ∧ y = .ref b ∧ H a = some (.dT ks) ∧ H b = some (.dT ls) ∧ KD K H ks xs ∧ KD K H ls ys ∧ Q (.bl (dSame xs ys)) H
def rNeT (K : PySem.W.Frag) : R2 := fun x y H Q => ∃ (a b : Addr) (ks ls : List (List Key × V)) (xs ys : List (List Key × PyData)), x = .ref a ∧ y = .ref b ∧ H a = some (.dT ks) ∧ H b = some (.dT ls) ∧ KD K H ks xs ∧ KD K H ls ys ∧ Q (.bl (!dSame xs ys)) H
section
variable {X : Cx} {pins : List (Addr × Obj)} {σ : St} {H : Hp} {s : Shared}
/-- both told of one entry -/
structure EntAt (X : Cx) (s : Shared) (x : List Key × Addr × Value) (y : List Key × PyData) : Prop where
  key : x.1 = y.1
  rd : ∃ as, Reads s.heap x.2.2 y.2 as
  sh : SeqAt.shaped y.2 = true
theorem ents_at (I : Inv X pins σ H s) : ∀ {kvs : List (List Key × V)} {xs : List (List Key × Addr × Value)} {ys : List (List Key × PyData)}, KT H kvs xs → KD X.K H kvs ys → Paired (EntAt X s) xs ys
  | _, _, _, .nil, .nil => .nil
  | _, _, _, .cons h t, .cons g u => .cons ⟨h.1.symm.trans g.1, Dp.reads I _ _ _ g.2.1 h.2.2, g.2.2⟩ (ents_at I t u)
theorem ents_look {xs : List (List Key × Addr × Value)} {ys : List (List Key × PyData)} (h : Paired (EntAt X s) xs ys) (k : List Key) :
    (atKey xs k = none ∧ lookD ys k = none) ∨ ∃ p d, atKey xs k = some p ∧ lookD ys k = some d ∧ (∃ as, Reads s.heap p.2 d as) ∧ SeqAt.shaped d = true := by
  induction h with
  | nil => exact .inl ⟨rfl, rfl⟩
  | @cons x y xs ys h t ih =>
    by_cases e : y.1 = k
    · have e' : x.1 = k := h.key.trans e
      exact .inr ⟨x.2, y.2, by simp [atKey, List.find?_cons, e'], by simp [lookD, List.find?_cons, e], h.rd, h.sh⟩
    · have e' : ¬ x.1 = k := fun z => e (h.key.symm.trans z)
      have a1 : atKey (x :: xs) k = atKey xs k := by simp [atKey, List.find?_cons, e']
      have a2 : lookD (y :: ys) k = lookD ys k := by simp [lookD, List.find?_cons, e]
      rw [a1, a2]
      exact ih
theorem lookD_mem : ∀ {ys : List (List Key × PyData)}, (ys.map (·.1)).Nodup → ∀ {y : List Key × PyData}, y ∈ ys → lookD ys y.1 = some y.2
  | z :: ys, nd, y, h => by
    rw [List.map_cons, List.nodup_cons] at nd
    unfold lookD
    rw [List.find?_cons]
    rcases List.mem_cons.mp h with rfl | h
    · simp
    · have ne : ¬ z.1 = y.1 := fun q => nd.1 (q ▸ List.mem_map_of_mem h)
      rw [decide_eq_false ne]
      exact lookD_mem nd.2 h
theorem ents_keys {xs : List (List Key × Addr × Value)} {ys : List (List Key × PyData)} (h : Paired (EntAt X s) xs ys) : xs.map (·.1) = ys.map (·.1) := by
  induction h with
  | nil => rfl
  | cons h _ ih => rw [List.map_cons, List.map_cons, ih, h.key]
theorem dict_pair (hu : X.A.units + 70 < cLine) (I : Inv X pins σ H s) {a b : Addr} {ks ls : List (List Key × V)} {xs ys : List (List Key × PyData)} (ea : H a = some (.dT ks)) (eb : H b = some (.dT ls)) (ha : KD X.K H ks xs) (hb : KD X.K H ls ys) :
    ∃ us vs e, s.heap.DictOfH (tupleKind (mixKind X.prog X.w)) a us ∧ s.heap.DictOfH (tupleKind (mixKind X.prog X.w)) b vs ∧ (a == sysModules) = false ∧ (b == sysModules) = false ∧
      (∀ x ∈ us, ∀ p, atKey vs x.1 = some p → SeqAt.EqAt X.A.in1 s x.2.2 p.2 (e x.1)) ∧ (us.length == vs.length && us.all (chkH vs e)) = dSame xs ys := by
  obtain ⟨_, sa, us, ka, da⟩ := dt_of I.hok ea
  obtain ⟨_, sb, vs, kb, db⟩ := dt_of I.hok eb
  have pa := ents_at I ka ha
  have pb := ents_at I kb hb
  have ndu : (us.map (·.1)).Nodup := let ⟨_, _, _, _, _, _, _, _, n⟩ := da; n
  have la := pa.length
  have lb := pb.length
  let e : List Key → Bool := fun k => match lookD xs k, lookD ys k with
    | some d, some d' => PyData.eqv d d'
    | _, _ => false
  have self : ∀ x ∈ us, atKey us x.1 = some x.2 := fun x hx => by
    obtain ⟨i, hi⟩ := List.mem_iff_getElem?.mp hx
    exact atKey_of_get ndu hi
  refine ⟨us, vs, e, da, db, sa, sb, fun x hx p hp => ?_, ?_⟩
  · rcases ents_look pa x.1 with ⟨z, _⟩ | ⟨q, d, hq, hd, ⟨_, r1⟩, s1⟩
    · rw [self x hx] at z; cases z
    · rcases ents_look pb x.1 with ⟨z, _⟩ | ⟨q', d', hq', hd', ⟨_, r2⟩, s2⟩
      · rw [hp] at z; cases z
      · rw [self x hx] at hq
        rw [hp] at hq'
        cases hq
        cases hq'
        have : e x.1 = PyData.eqv d d' := by show (match lookD xs x.1, lookD ys x.1 with | some d, some d' => PyData.eqv d d' | _, _ => false) = _; rw [hd, hd']
        rw [this]
        exact PySem.W.keq_at r1 r2 s1 s2 (by show X.A.units + 1 + 64 < cLine; omega)
  · unfold dSame
    rw [la, lb]
    congr 1
    have go : ∀ {us' : List (List Key × Addr × Value)} {xs' : List (List Key × PyData)}, Paired (EntAt X s) us' xs' → (∀ x ∈ us', x ∈ us) → (∀ y ∈ xs', y ∈ xs) → us'.all (chkH vs e) = xs'.all fun x => match lookD ys x.1 with
        | some d => PyData.eqv x.2 d
        | none => false := by
      intro us' xs' pq
      induction pq with
      | nil => intro _ _; rfl
      | @cons x y us' xs' h t ih =>
        intro sub sub2
        rw [List.all_cons, List.all_cons, ih (fun z hz => sub z (List.mem_cons_of_mem _ hz)) fun z hz => sub2 z (List.mem_cons_of_mem _ hz)]
        congr 1
        have hx := self x (sub x (List.mem_cons_self ..))
        unfold chkH
        rw [← h.key]
        rcases ents_look pb x.1 with ⟨z1, z2⟩ | ⟨q', d', hq', hd', _, _⟩
        · rw [z1, z2]; rfl
        · rw [hq', hd']
          have : e x.1 = PyData.eqv y.2 d' := by
            have hl : lookD xs x.1 = some y.2 := by rw [h.key]; exact lookD_mem (ents_keys pa ▸ ndu) (sub2 y (List.mem_cons_self ..))
            show (match lookD xs x.1, lookD ys x.1 with | some d, some d' => PyData.eqv d d' | _, _ => false) = _
            rw [hl, hd']
          rw [this]
          rfl
    exact go pa (fun _ h => h) fun _ h => h
theorem op_eqT (hu : X.A.units + 70 < cLine) : OpR X (compareOp .Eq) (rEqT X.K) := by
  intro pins s σ H x y v u Q I rx ry ⟨a, b, ks, ls, xs, ys, ex, ey, ea, eb, ha, hb, q⟩
  subst ex ey
  cases rx
  cases ry
  obtain ⟨us, vs, e, da, db, sa, sb, he, hv⟩ := dict_pair hu I ea eb ha hb
  refine eq_heap (show (tupleKind (mixKind X.prog X.w)).room X.A.in1 from ?_) (by omega) sa sb da db he ?_
  · show X.A.units + 1 < cLine
    omega
  · rw [hv]
    exact ⟨.bl _, H, I, rfl, q⟩
theorem op_neT (hu : X.A.units + 70 < cLine) : OpR X (compareOp .NotEq) (rNeT X.K) := by
  intro pins s σ H x y v u Q I rx ry ⟨a, b, ks, ls, xs, ys, ex, ey, ea, eb, ha, hb, q⟩
  subst ex ey
  cases rx
  cases ry
  obtain ⟨us, vs, e, da, db, sa, sb, he, hv⟩ := dict_pair hu I ea eb ha hb
  refine ne_heap (show (tupleKind (mixKind X.prog X.w)).room X.A.in1 from ?_) (by omega) sa sb da db he ?_
  · show X.A.units + 1 < cLine
    omega
  · rw [hv]
    exact ⟨.bl _, H, I, rfl, q⟩
end
end L2
end B2_part
section B3_part
set_option Elab.async false
set_option linter.all false
set_option maxRecDepth 100000
set_option maxHeartbeats 1000000
set_option pp.deepTerms.threshold 5
open PySem PySem.Spec PyProof.Rows L2
/-- go on as far as nothing is open -/
local macro_rules | `(tactic| walk_at "go") => `(tactic| repeat (first
  | with_reducible refine w_seq ?_ | with_reducible refine w_next ?_ | with_reducible refine w_set ?_ | with_reducible refine w_drop ?_ | with_reducible refine w_ret ?_ | with_reducible refine w_retN ?_
  | with_reducible refine w_if ?_ | ((with_reducible refine' w_var ?hv ?_); (case hv => exact rfl)) | with_reducible refine w_c ?_ | with_reducible refine w_nil ?_ | with_reducible refine w_cons ?_ | with_reducible refine w_op ?_ | with_reducible refine w_un ?_
  | with_reducible refine w_test ?_ | with_reducible refine w_tB ?_ | with_reducible refine w_not ?_ | with_reducible refine w_and ?_ | with_reducible refine w_or ?_ | with_reducible refine w_bl ?_
  | with_reducible refine w_andV ?_ | with_reducible refine w_orV ?_ | with_reducible refine w_notV ?_ | with_reducible refine w_ifE ?_ | with_reducible refine w_chain ?_ | with_reducible refine w_i0 ?_
  | with_reducible refine w_call ?_ | with_reducible refine w_callS ?_ | with_reducible refine w_cB ?_ | with_reducible refine w_tup ?_ | with_reducible refine w_lst ?_ | with_reducible refine w_fldV ?_
  | with_reducible refine w_neF ?_ | with_reducible refine w_neT ?_ | with_reducible refine w_notN ?_ | with_reducible refine w_isN ?_ | with_reducible refine w_gname ?_ | with_reducible refine w_gsub ?_ | with_reducible refine w_asg ?_ | with_reducible refine w_sl ?_ | with_reducible refine w_noP ?_ | with_reducible refine w_int1 ?_ | with_reducible refine w_part ?_ | with_reducible refine w_yes ?_ | with_reducible refine w_nT ?_ | with_reducible refine w_nF ?_ | with_reducible refine w_iteT ?_ | with_reducible refine w_iteF ?_))
namespace L2
open PySem PySem.Spec PyProof.Rows
/-! ### dict(xs) of pairs whose keys are tuples -/
def mergeT (kvs more : List (List Key × V)) : List (List Key × V) := more.foldl (fun acc kv => putK acc kv.1 kv.2) kvs
theorem length_mergeT : ∀ (more kvs : List (List Key × V)), (mergeT kvs more).length ≤ kvs.length + more.length
  | [], kvs => Nat.le_refl _
  | p :: r, kvs => by
    have h1 := length_mergeT r (putK kvs p.1 p.2)
    have h2 := length_putK kvs p.1 p.2
    show (mergeT (putK kvs p.1 p.2) r).length ≤ _
    rw [List.length_cons]
    omega
theorem KT.merge {H : Hp} : ∀ {more : List (List Key × V)} {rs : List (List Key × Addr × Value)} {kvs : List (List Key × V)} {xs : List (List Key × Addr × Value)}, KT H more rs → KT H kvs xs → KT H (mergeT kvs more) (PySem.storedAllH xs rs) := by
  intro more rs kvs xs r
  induction r generalizing kvs xs with
  | nil => exact fun q => q
  | @cons p q ps qs h t ih =>
    intro r0
    have e := r0.put p.1 h.2.1 h.2.2
    obtain ⟨k, b, v⟩ := q
    have hk : p.1 = k := h.1
    rw [hk] at e
    have := ih e
    rw [← hk] at this ⊢
    exact this
def rDictPT (K : PySem.W.Frag) : List V → Hp → VK → Prop := fun xs H Q => ∃ (a : Addr) (ps : List Addr) (kvs : List (List Key × V)), xs = [V.ref a] ∧ SqL K H a (ps.map V.ref) ∧
  Paired (fun p kv => ∃ b, SqT K H p [V.ref b, kv.2] ∧ H b = some (.tup (kv.1.map kV))) ps kvs ∧ ∀ p, H p = none → Q (.ref p) (upd H p (.dT (mergeT [] kvs)))
section
variable {X : Cx}
theorem pairsT_of {pins : List (Addr × Obj)} {σ : St} {H : Hp} {s : Shared} (I : Inv X pins σ H s) : ∀ {ps : List Addr} {kvs : List (List Key × V)}, Paired (fun p kv => ∃ b, SqT X.K H p [V.ref b, kv.2] ∧ H b = some (.tup (kv.1.map kV))) ps kvs →
    ∃ rs : List (List Key × Addr × Value), KT H kvs rs ∧ Paired (fun p (q : List Key × Addr × Value) => PySem.PairAt s.heap p (.ref q.2.1) q.2.2) ps rs
  | _, _, .nil => ⟨[], .nil, .nil⟩
  | _, _, .cons (b := kv) ⟨b, h, hb⟩ t => by
    obtain ⟨rs, r, hp⟩ := pairsT_of I t
    obtain ⟨its, rv, ht, _⟩ := I.tuple h
    obtain ⟨u, y, ei, ru, ry⟩ := vals2 rv
    cases ru
    subst ei
    exact ⟨(kv.1, b, y) :: rs, .cons ⟨rfl, hb, ry⟩ r, .cons (.inl (show s.heap.IsTuple _ #[Value.ref b, y] from ht)) hp⟩
theorem call_dictPT (hcalm : X.calm = true) (hu : X.A.units + 4 < cLine) : CallR X (.type "dict") (rDictPT X.K) := by
  intro pins s σ H xs us Q I r ⟨a, ps, kvs, ex, hq, hp, q⟩
  subst ex
  obtain ⟨u, eu, rx⟩ := vals1 r
  subst eu
  cases rx
  obtain ⟨its, rv, pl, hz⟩ := I.list hq
  have ei := refs_at rv
  subst ei
  rw [List.length_map] at hz
  obtain ⟨rs, kt, pr⟩ := pairsT_of I hp
  obtain ⟨o, n, ho, hc, hd, hdat⟩ := pl
  have lr : rs.length = ps.length := pr.length.symm
  have P := PySem.PairArg.list (prog := X.prog) (w := X.w) a ((ps.map Value.ref).toArray) (fun j => ps.getD j 0) (rs.map fun q => ((Value.ref q.2.1 : Value), q.2.2))
  have items : PySem.PairItems s.heap ((ps.map Value.ref).toArray) (fun j => ps.getD j 0) (rs.map fun q => ((Value.ref q.2.1 : Value), q.2.2)) := by
    refine ⟨by simp [lr], fun j k v e => ?_⟩
    rw [List.getElem?_map] at e
    obtain ⟨x, hx, ex⟩ := Option.map_eq_some_iff.mp e
    cases ex
    have lj : j < ps.length := by rw [← lr]; exact (List.getElem?_eq_some_iff.mp hx).1
    obtain ⟨y, hy, pa⟩ := K3.Paired.get pr (List.getElem?_eq_getElem lj)
    rw [hx] at hy
    cases hy
    have eg : ps.getD j 0 = ps[j] := by simp [List.getD, lj]
    refine ⟨by simp [eg, lj], ?_⟩
    show PySem.PairAt s.heap (ps.getD j 0) _ _
    rw [eg]
    exact pa
  have hl0 : (rs.map fun q => ((Value.ref q.2.1 : Value), q.2.2)).length = ps.length := by rw [List.length_map, lr]
  have stay : ∀ (h' : Heap), (∀ b o, s.heap.get? b = some o → h'.get? b = some o) → ∀ x ∈ rs, (tupleKind (mixKind X.prog X.w)).is h' x.1 x.2.1 := fun h' k x hx => by
    have : ∀ {kvs : List (List Key × V)} {rs : List (List Key × Addr × Value)}, KT H kvs rs → ∀ x ∈ rs, H x.2.1 = some (.tup (x.1.map kV)) := by
      intro kvs rs q
      induction q with
      | nil => intro x hx; exact nomatch hx
      | @cons p q ps qs h t ih =>
        intro x hx
        rcases List.mem_cons.mp hx with e | hx
        · subst e
          rw [← h.1]
          exact h.2.1
        · exact ih x hx
    obtain ⟨_, its, rr, o', h1, h2, n', h3⟩ := (show ObjOk X.prog X.w H s.heap x.2.1 (.tup (x.1.map kV)) from I.hok _ _ (this kt x hx))
    exact ⟨o', its.toArray, n', k _ _ h1, h2, h3, by simpa using items_are rr⟩
  refine PySem.call_dict_pairsH (knd := tupleKind (mixKind X.prog X.w)) (ps := rs) P (I.ok.hd hcalm) (show X.A.units + 1 + 1 < cLine by omega) ⟨⟨o, n, ho, hc, hd, hdat⟩, items⟩ ⟨by rw [List.length_map], fun i key v e => ?_⟩ (fun h' k x hx => stay h' (fun b o e => k b o (Nat.ne_of_lt (Heap.lt_size e)) (fun z => nomatch z) e) x hx) (by rw [hl0]; exact hz) fun h' tk hd' k => ?_
  · have e' : (rs.map fun q => ((Value.ref q.2.1 : Value), q.2.2))[i]? = some (key, v) := e
    rw [List.getElem?_map] at e'
    obtain ⟨⟨k1, b1, v1⟩, hx, ex⟩ := Option.map_eq_some_iff.mp e'
    cases ex
    exact ⟨k1, b1, hx, rfl⟩
  · have hm : (s.heap.objs.size == sysModules) = false := beq_eq_false_iff_ne.mpr (Nat.ne_of_gt I.big)
    have hlen : (mergeT [] kvs).length ≤ sizeLine := by
      refine Nat.le_trans (length_mergeT kvs []) ?_
      rw [List.length_nil, Nat.zero_add, Paired.length kt, lr]
      exact hz
    obtain ⟨o', es, ep, g1, g2, g3, g4, _, g6⟩ := hd'
    have new : ObjOk X.prog X.w (upd H s.heap.objs.size (.dT (mergeT [] kvs))) h' s.heap.objs.size (.dT (mergeT [] kvs)) :=
      ⟨hlen, hm, _, (KT.merge kt .nil).keeps fun c ys ec => by rw [upd_ne (ne_of_none ec (I.hok.fresh (Nat.le_refl _)))]; exact ec, o', es, ep, g1, g2, g3, g4, g6⟩
    exact ⟨.ref s.heap.objs.size, upd H s.heap.objs.size (.dT (mergeT [] kvs)), I.laid (t' := tk) (fun b o e => k b o (fun z => nomatch z) e) (Nat.le_refl _) new, rfl, q _ (I.hok.fresh (Nat.le_refl _))⟩
end
end L2
end B3_part
section B4_part
set_option Elab.async false
set_option linter.all false
set_option maxRecDepth 100000
set_option maxHeartbeats 1000000
set_option pp.deepTerms.threshold 5
open PySem PySem.Spec PyProof.Rows L2
/-- go on as far as nothing is open -/
local macro_rules | `(tactic| walk_at "go") => `(tactic| repeat (first
  | with_reducible refine w_seq ?_ | with_reducible refine w_next ?_ | with_reducible refine w_set ?_ | with_reducible refine w_drop ?_ | with_reducible refine w_ret ?_ | with_reducible refine w_retN ?_
  | with_reducible refine w_if ?_ | ((with_reducible refine' w_var ?hv ?_); (case hv => exact rfl)) | with_reducible refine w_c ?_ | with_reducible refine w_nil ?_ | with_reducible refine w_cons ?_ | with_reducible refine w_op ?_ | with_reducible refine w_un ?_
  | with_reducible refine w_test ?_ | with_reducible refine w_tB ?_ | with_reducible refine w_not ?_ | with_reducible refine w_and ?_ | with_reducible refine w_or ?_ | with_reducible refine w_bl ?_
  | with_reducible refine w_andV ?_ | with_reducible refine w_orV ?_ | with_reducible refine w_notV ?_ | with_reducible refine w_ifE ?_ | with_reducible refine w_chain ?_ | with_reducible refine w_i0 ?_
  | with_reducible refine w_call ?_ | with_reducible refine w_callS ?_ | with_reducible refine w_cB ?_ | with_reducible refine w_tup ?_ | with_reducible refine w_lst ?_ | with_reducible refine w_fldV ?_
  | with_reducible refine w_neF ?_ | with_reducible refine w_neT ?_ | with_reducible refine w_notN ?_ | with_reducible refine w_isN ?_ | with_reducible refine w_gname ?_ | with_reducible refine w_gsub ?_ | with_reducible refine w_asg ?_ | with_reducible refine w_sl ?_ | with_reducible refine w_noP ?_ | with_reducible refine w_int1 ?_ | with_reducible refine w_part ?_ | with_reducible refine w_yes ?_ | with_reducible refine w_nT ?_ | with_reducible refine w_nF ?_ | with_reducible refine w_iteT ?_ | with_reducible refine w_iteF ?_))
namespace L2
open PySem PySem.Spec PyProof.Rows
section
variable {X : Cx}
/-- how a comprehension's accumulator is made, what a turn does with it -/
def AccR (X : Cx) (EX tg iter : Expr) (ifs : List Expr) (scope : Scope) (newA : Sem Value) (o0 : Addr → HO) (st : Addr → St → Hp → (Hp → Prop) → Prop) : Prop :=
  ∃ (ob : Obj) (B : Env → Addr → (Value → Shared → Prop) → (Shared → Prop) → Shared → Prop), clausesOf EX = [⟨tg, iter, ifs, 0⟩] ∧
    (∀ (Q' : Value → Shared → Prop) (E' : Value → Shared → Prop) (s' : Shared), Q' (.ref s'.heap.objs.size) { s' with heap := s'.heap.push ob } → wpAny (model X.prog X.w) X.A newA Q' E' s') ∧
    (∀ (H' : Hp) (pn : List (Addr × Obj)) (σ' : St) (s' : Shared), Inv X pn σ' H' s' → ObjOk X.prog X.w (upd H' s'.heap.objs.size (o0 s'.heap.objs.size)) (s'.heap.push ob) s'.heap.objs.size (o0 s'.heap.objs.size)) ∧
    (∀ (R : Result → Shared → Prop) (it : Value) (D : Addr) (env : Env) (s' : Shared) (Iv : Nat → Shared → Prop), TurnB X.prog X.w X.A R tg ifs it env (B env D) Iv → ∀ n, Iv n s' → codeAny (model X.prog X.w) X.A (.compLoop EX 0 it (.ref D) env) R s') ∧
    (∀ (R : Result → Shared → Prop) (it : Value) (D : Addr) (env : Env) (s' : Shared), codeAny (model X.prog X.w) X.A (.compLoop EX 0 it (.ref D) env) R s' →
      wpAny (model X.prog X.w) X.A (pyIter it) (fun it' s'' => codeAny (model X.prog X.w) X.A (.compLoop EX 0 it' (.ref D) env) R s'') (turnOut X.prog X.w X.A R env) s' → codeAny (model X.prog X.w) X.A (.compStart EX 0 it (.ref D) env) R s') ∧
    (∀ (s : Shared) (H : Hp) (C : Addr) (cl : List (Str × Addr)) (fp : List Addr) (pn : List (Addr × Obj)) (σ' : St) (H' : Hp) (s' : Shared) (D : Addr) (N : Value → Shared → Prop) (Nx : Hp → Prop) (G : Shared → Prop),
      Inv (X.blk s H scope (compEnvC scope cl C X.env) fp) pn σ' H' s' → st D σ' H' Nx → (∀ H'' s'', Inv (X.blk s H scope (compEnvC scope cl C X.env) fp) pn σ' H'' s'' → Nx H'' → G s'') → B (compEnvC scope cl C X.env) D N G s')
variable {tg iter : Expr} {ifs : List Expr} {scope : Scope} {pos : Pos} {tk tv te : TE} {kx vx elt : Expr}
theorem acc_dT (hu : X.A.units < cLine) (hk : ∀ (s : Shared) (H : Hp) (C : Addr) (cl : List (Str × Addr)) (fp : List Addr), PE (X.blk s H scope (compEnvC scope cl C X.env) fp) kx tk)
    (he : ∀ (s : Shared) (H : Hp) (C : Addr) (cl : List (Str × Addr)) (fp : List Addr), PE (X.blk s H scope (compEnvC scope cl C X.env) fp) vx tv) :
    AccR X (.DictComp kx vx [⟨tg, iter, ifs, 0⟩] scope pos) tg iter ifs scope newDict (fun _ => .dT []) (stT tk tv) := by
  refine ⟨{ cls := .type "dict", data := .dict #[] }, fun env D N G s' => wpAny (model X.prog X.w) X.A (eval kx env) (fun kv s₄ => wpAny (model X.prog X.w) X.A (eval vx env) (fun vv s₅ => wpAny (model X.prog X.w) X.A (dictSet D kv vv) (fun _ s₆ => G s₆) N s₅) N s₄) N s',
    rfl, fun Q' E' s' q => wpAny_newObj_type q, fun H' _ _ s' I' => dt_empty s'.heap I'.big, fun R it D env s' Iv turn n hI => compLoop_anyD Iv turn n hI, fun R it D env s' loop self => codeAny_compStart_dict loop self, ?_⟩
  intro s0 H0 C cl fp pn σ' H' s' D N Nx G I' q k
  refine thnF ((hk s0 H0 C cl fp).run pn s' σ' H' _ I' q) fun z s10 ⟨yk, H10, I10, r10, q10⟩ => ?_
  refine thnF ((he s0 H0 C cl fp).run pn s10 σ' H10 _ I10 q10) fun z2 s11 ⟨yv, H11, I11, r11, kvs, kk, b, ek, eb, hD, hz, nx⟩ => ?_
  subst ek
  cases r10
  exact d_dictSetT (X := X.blk s0 H0 scope (compEnvC scope cl C X.env) fp) hu I11 hD eb hz r11 fun s12 I12 => k _ _ I12 nx
/-- keys numbers or texts -/
def stD (tk tv : TE) (D : Addr) (σ : St) (H : Hp) (Nx : Hp → Prop) : Prop := tk σ H fun y H1 => tv σ H1 fun z H2 => ∃ kvs k, y = kV k ∧ H2 D = some (.dK kvs) ∧ kvs.length < sizeLine ∧ Nx (upd H2 D (.dK (putK kvs k z)))
theorem acc_dK (hk : ∀ (s : Shared) (H : Hp) (C : Addr) (cl : List (Str × Addr)) (fp : List Addr), PE (X.blk s H scope (compEnvC scope cl C X.env) fp) kx tk)
    (he : ∀ (s : Shared) (H : Hp) (C : Addr) (cl : List (Str × Addr)) (fp : List Addr), PE (X.blk s H scope (compEnvC scope cl C X.env) fp) vx tv) :
    AccR X (.DictComp kx vx [⟨tg, iter, ifs, 0⟩] scope pos) tg iter ifs scope newDict (fun _ => .dK []) (stD tk tv) := by
  refine ⟨{ cls := .type "dict", data := .dict #[] }, fun env D N G s' => wpAny (model X.prog X.w) X.A (eval kx env) (fun kv s₄ => wpAny (model X.prog X.w) X.A (eval vx env) (fun vv s₅ => wpAny (model X.prog X.w) X.A (dictSet D kv vv) (fun _ s₆ => G s₆) N s₅) N s₄) N s',
    rfl, fun Q' E' s' q => wpAny_newObj_type q, fun H' _ _ s' I' => dk_empty s'.heap I'.big, fun R it D env s' Iv turn n hI => compLoop_anyD Iv turn n hI, fun R it D env s' loop self => codeAny_compStart_dict loop self, ?_⟩
  intro s0 H0 C cl fp pn σ' H' s' D N Nx G I' q k
  refine thnF ((hk s0 H0 C cl fp).run pn s' σ' H' _ I' q) fun z s10 ⟨yk, H10, I10, r10, q10⟩ => ?_
  refine thnF ((he s0 H0 C cl fp).run pn s10 σ' H10 _ I10 q10) fun z2 s11 ⟨yv, H11, I11, r11, kvs, kk, ek, hD, hz, nx⟩ => ?_
  subst ek
  exact d_dictSet (X := X.blk s0 H0 scope (compEnvC scope cl C X.env) fp) I11 hD hz r10 r11 fun s12 I12 => k _ _ I12 nx
theorem acc_sK (he : ∀ (s : Shared) (H : Hp) (C : Addr) (cl : List (Str × Addr)) (fp : List Addr), PE (X.blk s H scope (compEnvC scope cl C X.env) fp) elt te) :
    AccR X (.SetComp elt [⟨tg, iter, ifs, 0⟩] scope pos) tg iter ifs scope (newSet (.type "set")) (fun D => SetK X.prog X.w D (fun _ => false) 0) (stK X.prog X.w te) := by
  refine ⟨_, fun env D N G s' => wpAny (model X.prog X.w) X.A (eval elt env) (fun x s₄ => wpAny (model X.prog X.w) X.A (call (.builtin "set.add") [.ref D, x]) (fun _ s₅ => G s₅) N s₄) N s',
    rfl, fun Q' E' s' q => PpSet.newSet_ok q, fun H' _ _ s' I' => setK_new ⟨_, #[], 0, _, Heap.get?_push_size _ rfl, ⟨rfl, rfl, rfl⟩, rfl, (fun e he => by simp at he), (fun k => by simp), (by decide), (by rfl), rfl⟩,
    fun R it D env s' Iv turn n hI => PpSet.compLoopS_any Iv turn n hI, fun R it D env s' loop self => PpSet.codeAny_compStart_set loop self, ?_⟩
  intro s0 H0 C cl fp pn σ' H' s' D N Nx G I' q k
  refine thnF ((he s0 H0 C cl fp).run pn s' σ' H' _ I' q) fun z s10 ⟨y, H10, I10, r10, kk, S, n, ey, hD, hz, nx⟩ => ?_
  subst ey
  exact saddK_run (X := X.blk s0 H0 scope (compEnvC scope cl C X.env) fp) I10 hD hz r10 fun s11 I11 => k _ _ I11 nx
variable {EX : Expr} {newA : Sem Value} {o0 : Addr → HO} {st : Addr → St → Hp → (Hp → Prop) → Prop} {own : List (Str × Nat)} {wi : TI} {g : TG} {tt : TT}
/-- a comprehension as a value -/
theorem pe_acc (R : AccR X EX tg iter ifs scope newA o0 st) (hc : X.calm = true) (hN : X.N.Nodup) (hi : PI X tg iter wi) (ok : BlkOk X.N X.env.scope scope own)
    (hg : ∀ (s : Shared) (H : Hp) (C : Addr) (cl : List (Str × Addr)) (fp : List Addr), PG (X.blk s H scope (compEnvC scope cl C X.env) fp) tg g) (ht : ∀ (s : Shared) (H : Hp) (C : Addr) (cl : List (Str × Addr)) (fp : List Addr), PTs (X.blk s H scope (compEnvC scope cl C X.env) fp) ifs tt)
    (hs : ∀ x, foldedSetIterable iter X.env x = pure x := by intro _; rfl) (hev : eval EX X.env = comprehension EX scope X.env (firstIterPos [⟨tg, iter, ifs, 0⟩] pos) newA false (eval iter X.env) none := by rfl) :
    PE X EX (tAcc o0 wi g tt st (own.map (·.2))) := by
  obtain ⟨ob, B, hcl, hnew, hlay, hloop, hstart, hst⟩ := R
  refine ⟨fun pins s σ H Q I h => ?_⟩
  rw [hev]
  refine acc_core (ob := ob) (B := B) hc hN I hi ok hcl hs (hnew _ _ _) (fun H' s' I' => hlay H' _ _ s' I') (fun Iv turn n hI => hloop _ _ _ _ _ Iv turn n hI) (fun loop self => hstart _ _ _ _ _ loop self) hg ht
    (fun s0 H0 C cl fp pn σ' H' s' D N Nx G _ I' q k => hst s0 H0 C cl fp pn σ' H' s' D N Nx G I' q k) h fun D C s' m H' I' q hn f => ⟨m, hn, fun h'' sb => ?_⟩
  obtain ⟨f0, f1, f2, f3, f4, f5⟩ := f
  exact ⟨.ref D, H', I'.turned (t' := s'.toks) (fun b o hb e => (sb.2 b hb).trans e) f0 f1 f3 f4 f5, rfl, q⟩
/-- y = a comprehension, on one line: the target is stored within the comprehension's frame -/
theorem ps_setAcc {i : Nat} {y : Str} {py spos : Pos} (R : AccR X EX tg iter ifs scope newA o0 st) (hc : X.calm = true) (hN : X.N.Nodup) (hy : X.N[i]? = some y) (hyl : X.env.scope.names.lookup y = some .local)
    (hsw : swapsWith EX (some (.Name y py)) spos.line X.env = pure true) (hi : PI X tg iter wi) (ok : BlkOk X.N X.env.scope scope own)
    (hg : ∀ (s : Shared) (H : Hp) (C : Addr) (cl : List (Str × Addr)) (fp : List Addr), PG (X.blk s H scope (compEnvC scope cl C X.env) fp) tg g) (ht : ∀ (s : Shared) (H : Hp) (C : Addr) (cl : List (Str × Addr)) (fp : List Addr), PTs (X.blk s H scope (compEnvC scope cl C X.env) fp) ifs tt)
    (hs : ∀ x, foldedSetIterable iter X.env x = pure x := by intro _; rfl)
    (hev : evalThenUse EX X.env (assign (.Name y py) X.env) = (do let _ ← comprehension EX scope X.env (firstIterPos [⟨tg, iter, ifs, 0⟩] pos) newA false (eval iter X.env) (some (assign (.Name y py) X.env))) := by rfl) :
    PS X (.Assign [.Name y py] EX spos) (tAsg (tAcc o0 wi g tt st (own.map (·.2))) (gName i)) := by
  obtain ⟨ob, B, hcl, hnew, hlay, hloop, hstart, hst⟩ := R
  refine ⟨fun pins s σ H D I h => ?_⟩
  rw [exec_Assign_Name_used _ _ _ _ hsw]
  refine wpAny_bind (wpAny_standAt (wpAny_bind ?_))
  rw [hev]
  have h : tAcc o0 wi g tt st (own.map (·.2)) σ H (fun x H1 => gName i x σ H1 D.nx) := h
  refine wpAny_bind (thn (acc_core (ob := ob) (B := B) (Qf := fun _ s' => SP X pins D .next s') hc hN I hi ok hcl hs (hnew _ _ _) (fun H' s' I' => hlay H' _ _ s' I') (fun Iv turn n hI => hloop _ _ _ _ _ Iv turn n hI) (fun loop self => hstart _ _ _ _ _ loop self) hg ht
    (fun s0 H0 C cl fp pn σ' H' s' D N Nx G _ I' q k => hst s0 H0 C cl fp pn σ' H' s' D N Nx G I' q k) h fun L C s' m H' I' q hn f => ?_) fun _ s' hq => wpAny_pure (wpAny_pure hq))
  refine (show wpAny _ _ (assign (.Name y py) X.env (.ref L)) _ _ _ from wpAny_assign_Name (store_ok2 (v := V.ref L) I' hN hy (.inl hyl) rfl (fun s2 I2 ⟨a, sb, ha⟩ => ?_) (.inr hyl)))
  obtain ⟨f0, f1, f2, f3, f4, f5⟩ := f
  have haC : C ≠ a := by
    rcases ha with z | z
    · exact z ▸ f1
    · exact fun e => f4 y a z e.symm
  exact ⟨m, hn.sameBut sb haC, fun h3 sb3 => ⟨_, H', I2.turned (t' := s2.toks) (fun b o hb e => (sb3.2 b hb).trans e) f0 f1 f3 f4 f5, q⟩⟩
theorem sw_dict {kx vx : Expr} {gs : List Comprehension} {scope : Scope} {pos py : Pos} {y : Str} {l : Nat} {env : Env} (hk : env.scope.kind = .function) (hy : env.scope.names.lookup y = some .local) (hl : (py.line == pos.line) = true)
    (ha : (scope.names.any fun (n, k) => n == y && (k == .local || k == .cell)) = false) : swapsWith (.DictComp kx vx gs scope pos) (some (.Name y py)) l env = pure true := by
  have ky : env.kindOf y = some .local := hy
  have hb : env.blockKind = .function := by unfold Env.blockKind; rw [hk]; rfl
  unfold swapsWith
  simp only [hb, ky, ha, Expr.pos, hl]
  rfl
theorem sw_set {elt : Expr} {gs : List Comprehension} {scope : Scope} {pos py : Pos} {y : Str} {l : Nat} {env : Env} (hk : env.scope.kind = .function) (hy : env.scope.names.lookup y = some .local) (hl : (py.line == pos.line) = true)
    (ha : (scope.names.any fun (n, k) => n == y && (k == .local || k == .cell)) = false) : swapsWith (.SetComp elt gs scope pos) (some (.Name y py)) l env = pure true := by
  have ky : env.kindOf y = some .local := hy
  have hb : env.blockKind = .function := by unfold Env.blockKind; rw [hk]; rfl
  unfold swapsWith
  simp only [hb, ky, ha, Expr.pos, hl]
  rfl
end
theorem acc_open {o0 : Addr → HO} {wi : TI} {g : TG} {tt : TT} {st : Addr → St → Hp → (Hp → Prop) → Prop} {vs : List Nat} {σ : St} {H : Hp} {Q : VK} (h : wi σ H fun J H1 => ∀ D, H1 D = none → ∃ W : Nat → Nat → Hp → Prop, (∃ m, W 0 m (upd H1 D (o0 D))) ∧ ∀ i m H, W i m H →
  (J.stop i H ∧ Q (.ref D) H) ∨ (J.go i H ∧ ∃ Nx : Hp → Prop, (∀ H', Nx H' → ∃ m', m' < m ∧ W (i + 1) m' H') ∧ ∀ x H', J.yld i H x H' → g x (wipe σ vs) H' fun σ2 H2 => wipe σ2 vs = wipe σ vs ∧ tt σ2 H2 fun b H3 => if b = true then st D σ2 H3 Nx else Nx H3)) : tAcc o0 wi g tt st vs σ H Q := h
theorem lock_open {t : TS} {D : Ends} {σ : St} {H : Hp} (d : Addr) (u : HO) (h : H d = some u) (m : Mut (some u)) (q : ∀ od, t ⟨fun σ' H' => H' d = some (.frz od u) ∧ D.nx σ' (upd H' d u), fun v H' => H' d = some (.frz od u) ∧ D.rt v (upd H' d u), fun σ' H' => H' d = some (.frz od u) ∧ D.bk σ' (upd H' d u), fun σ' H' => H' d = some (.frz od u) ∧ D.ct σ' (upd H' d u)⟩ σ (upd H d (.frz od u))) : tLock t D σ H := ⟨d, u, h, m, q⟩
theorem lockE_open {t : TE} {σ : St} {H : Hp} {Q : VK} (d : Addr) (u : HO) (h : H d = some u) (m : Mut (some u)) (q : ∀ od, t σ (upd H d (.frz od u)) fun v H' => H' d = some (.frz od u) ∧ Q v (upd H' d u)) : tLockE t σ H Q := ⟨d, u, h, m, q⟩
end L2
end B4_part
section B5_part
set_option Elab.async false
set_option linter.all false
set_option maxRecDepth 100000
set_option maxHeartbeats 1000000
set_option pp.deepTerms true
open PySem PySem.Spec PyProof.Rows L2
/-- go on as far as nothing is open -/
local macro_rules | `(tactic| walk_at "go") => `(tactic| repeat (first
  | with_reducible refine w_seq ?_ | with_reducible refine w_next ?_ | with_reducible refine w_set ?_ | with_reducible refine w_drop ?_ | with_reducible refine w_ret ?_ | with_reducible refine w_retN ?_
  | with_reducible refine w_if ?_ | ((with_reducible refine' w_var ?hv ?_); (case hv => exact rfl)) | with_reducible refine w_c ?_ | with_reducible refine w_nil ?_ | with_reducible refine w_cons ?_ | with_reducible refine w_op ?_ | with_reducible refine w_un ?_
  | with_reducible refine w_test ?_ | with_reducible refine w_tB ?_ | with_reducible refine w_not ?_ | with_reducible refine w_and ?_ | with_reducible refine w_or ?_ | with_reducible refine w_bl ?_
  | with_reducible refine w_andV ?_ | with_reducible refine w_orV ?_ | with_reducible refine w_notV ?_ | with_reducible refine w_ifE ?_ | with_reducible refine w_chain ?_ | with_reducible refine w_i0 ?_
  | with_reducible refine w_call ?_ | with_reducible refine w_callS ?_ | with_reducible refine w_cB ?_ | with_reducible refine w_tup ?_ | with_reducible refine w_lst ?_ | with_reducible refine w_fldV ?_
  | with_reducible refine w_neF ?_ | with_reducible refine w_neT ?_ | with_reducible refine w_notN ?_ | with_reducible refine w_isN ?_ | with_reducible refine w_gname ?_ | with_reducible refine w_gsub ?_ | with_reducible refine w_asg ?_ | with_reducible refine w_sl ?_ | with_reducible refine w_noP ?_ | with_reducible refine w_int1 ?_ | with_reducible refine w_part ?_ | with_reducible refine w_yes ?_ | with_reducible refine w_nT ?_ | with_reducible refine w_nF ?_ | with_reducible refine w_iteT ?_ | with_reducible refine w_iteF ?_))
namespace LZ
open PySem PySem.Spec PyProof.Rows L2
/-! ### list(zip(a, b)) of two lists of one length: new tuples in a new list -/
abbrev ZipB (h : Heap) (z TI TO T : Addr) (f : Bool) : Prop :=
  h.get? z = some { cls := .type "zip", dict := none, data := .fields #[rawInt T, .bool f, .bool false, .ref TI, .ref TO], slots := #[] }
theorem zip_no_len : typeLookup (.type "zip") "__len__" = pure none := by rw [typeLookup_type, builtinLookup_eq_fast]; kernel_rfl
theorem zip_no_hint : typeLookup (.type "zip") "__length_hint__" = pure none := by rw [typeLookup_type, builtinLookup_eq_fast]; kernel_rfl
section
variable {prog : Program} {w : World} {A : Around} {E : Value → Shared → Prop} {s : Shared} {z TI TO i1 i2 l1 l2 T : Addr} {xs ys : Array Value}
theorem zipB_held {M : Model} {f : Bool} {Q : Bool → Shared → Prop} (hz : ZipB s.heap z TI TO T f) (hT : ∃ o, s.heap.get? T = some o) (h : ∀ h₀, ZipB h₀ z TI TO T true → Heap.SameBut z s.heap h₀ → Q false { s with heap := h₀ }) :
    wpAny (model prog w) A (Builtin.SmallTypes.ownedTupleIsFree (.ref z)) Q E s := by
  obtain ⟨oT, hoT⟩ := hT
  unfold Builtin.SmallTypes.ownedTupleIsFree
  refine wpAny_bind (wpAny_field hz rfl (x := rawInt T) rfl ?_)
  show wpAny _ _ (loadIfAlive ((T : Int).toNat) >>= _) _ _ _
  rw [Int.toNat_natCast]
  refine wpAny_bind (PySem.W.kdx_alive hoT ?_)
  simp only [Option.isNone_some, Bool.false_eq_true, if_false]
  refine wpAny_bind (wpAny_field hz rfl (x := .bool f) rfl ?_)
  cases f with
  | true =>
    rw [if_neg (show ¬ ((Value.bool true != Value.bool true) = true) from Bool.false_ne_true)]
    exact wpAny_pure (h _ hz (Heap.SameBut.refl _ _))
  | false =>
    rw [if_pos (show (Value.bool false != Value.bool true) = true from rfl)]
    exact wpAny_bind (wpAny_setField_rec hz (by simp) fun h₃ he₃ hs₃ => wpAny_pure (h h₃ he₃ hs₃))
theorem zipB_next {f : Bool} {k : Nat} {x y : Value} {Q : Option Value → Shared → Prop} (D : ZipApart z TI TO i1 i2 l1 l2)
    (hz : ZipB s.heap z TI TO T f) (hT : ∃ o, s.heap.get? T = some o) (hTI : IsPair s.heap TI (.ref i1) (.ref i2))
    (h1 : s.heap.IsListIter i1 l1 k) (h2 : s.heap.IsListIter i2 l2 k) (hl1 : s.heap.IsList l1 xs) (hl2 : s.heap.IsList l2 ys) (hx : xs[k]? = some x) (hy : ys[k]? = some y)
    (hQ : ∀ h', ZipB h' z TI TO T true → h'.IsListIter i1 l1 (k + 1) → h'.IsListIter i2 l2 (k + 1) → IsPair h' s.heap.objs.size x y → h'.objs.size = s.heap.objs.size + 1 →
      (∀ c o, c ≠ z → c ≠ i1 → c ≠ i2 → s.heap.get? c = some o → h'.get? c = some o) → Q (some (.ref s.heap.objs.size)) { s with heap := h' }) :
    wpAny (model prog w) A (pyNext (.ref z)) Q E s := by
  have hty : s.TypeIs (.ref z) "zip" := ⟨_, hz, rfl⟩
  unfold pyNext
  refine wpAny_bind (wpAny_attempt (wpAny_callSpecial?_slot (name := Str.ofString "__next__") hty PySem.F.slot_zip_next
    (wpAny_call_entry PySem.F.slot_zip_next hty PySem.F.entry_zip_next ?_ (PySem.F.args_zip_next_1 _))))
  show wpAny _ _ (field (.ref z) 2 >>= _) _ _ _
  refine wpAny_bind (wpAny_field hz rfl (x := .bool false) rfl ?_)
  show wpAny _ _ (field (.ref z) 3 >>= _) _ _ _
  refine wpAny_bind (wpAny_field hz rfl (x := .ref TI) rfl ?_)
  refine wpAny_bind (wpAny_seqItems hTI rfl ?_)
  show wpAny _ _ (Builtin.SmallTypes.ownedTupleIsFree (.ref z) >>= _) _ _ _
  refine wpAny_bind (zipB_held (M := model prog w) hz hT fun h₀ hz₀ hs₀ => ?_)
  simp only [Bool.false_eq_true, if_false]
  refine wpAny_bind ?_
  rw [← Array.forIn_toList]
  simp only [List.forIn_cons, List.forIn_nil]
  refine wpAny_bind (wpAny_bind (wpAny_holding ?_))
  show wpAny _ _ (Builtin.SmallTypes.nextOf (.ref i1) >>= _) _ _ _
  refine wpAny_bind (wpAny_nextOf_list_item (h1.extBut hs₀.extBut D.i1z) (hl1.extBut hs₀.extBut D.l1z) hx fun h₂ h1₂ hs₂ => wpAny_pure ?_)
  refine wpAny_pure ?_
  refine wpAny_bind (wpAny_bind (wpAny_holding ?_))
  show wpAny _ _ (Builtin.SmallTypes.nextOf (.ref i2) >>= _) _ _ _
  refine wpAny_bind (wpAny_nextOf_list_item ((h2.extBut hs₀.extBut D.i2z).extBut hs₂.extBut D.i12.symm) ((hl2.extBut hs₀.extBut D.l2z).extBut hs₂.extBut D.l2i1) hy fun h₄ h2₄ hs₄ => wpAny_pure ?_)
  refine wpAny_pure (wpAny_pure ?_)
  refine wpAny_bind (wpAny_newTuple ?_ (by show 2 ≤ sizeLine; decide))
  have hsz : h₄.objs.size = s.heap.objs.size := by rw [hs₄.1, hs₂.1, hs₀.1]
  have up : ∀ c o, c ≠ z → c ≠ i1 → c ≠ i2 → s.heap.get? c = some o → h₄.get? c = some o := fun c o c1 c2 c3 e => hs₄.extBut _ _ c3 (hs₂.extBut _ _ c2 (hs₀.extBut _ _ c1 e))
  refine wpAny_pure ⟨_, rfl, wpAny_pure ?_⟩
  have hz₄ : ZipB h₄ z TI TO T true := hs₄.extBut _ _ D.i2z.symm (hs₂.extBut _ _ D.i1z.symm hz₀)
  show Q (some (.ref h₄.objs.size)) _
  rw [hsz]
  refine hQ _ (Heap.get?_push_of_some _ hz₄) ((h1₂.extBut hs₄.extBut D.i12).at fun o e => Heap.get?_push_of_some _ e) (h2₄.at fun o e => Heap.get?_push_of_some _ e) ?_ (by rw [Heap.size_push, hsz]) fun c o c1 c2 c3 e => Heap.get?_push_of_some _ (up c o c1 c2 c3 e)
  rw [← hsz]
  exact Heap.get?_push_size _ rfl
theorem zipB_end {f : Bool} {k : Nat} {Q : Option Value → Shared → Prop} (hh : A.handled = none) (D : ZipApart z TI TO i1 i2 l1 l2)
    (hz : ZipB s.heap z TI TO T f) (hT : ∃ o, s.heap.get? T = some o) (hTI : IsPair s.heap TI (.ref i1) (.ref i2))
    (h1 : s.heap.IsListIter i1 l1 k) (hl1 : s.heap.IsList l1 xs) (hx : xs[k]? = none)
    (hQ : ∀ h', (∀ c o, c ≠ z → c ≠ i1 → c ≠ i2 → s.heap.get? c = some o → h'.get? c = some o) → Q none { s with heap := h' }) :
    wpAny (model prog w) A (pyNext (.ref z)) Q E s := by
  have hty : s.TypeIs (.ref z) "zip" := ⟨_, hz, rfl⟩
  unfold pyNext
  refine wpAny_bind (wpAny_attempt (wpAny_callSpecial?_slot (name := Str.ofString "__next__") hty PySem.F.slot_zip_next
    (wpAny_call_entry PySem.F.slot_zip_next hty PySem.F.entry_zip_next ?_ (PySem.F.args_zip_next_1 _))))
  show wpAny _ _ (field (.ref z) 2 >>= _) _ _ _
  refine wpAny_bind (wpAny_field hz rfl (x := .bool false) rfl ?_)
  show wpAny _ _ (field (.ref z) 3 >>= _) _ _ _
  refine wpAny_bind (wpAny_field hz rfl (x := .ref TI) rfl ?_)
  refine wpAny_bind (wpAny_seqItems hTI rfl ?_)
  show wpAny _ _ (Builtin.SmallTypes.ownedTupleIsFree (.ref z) >>= _) _ _ _
  refine wpAny_bind (zipB_held (M := model prog w) hz hT fun h₀ hz₀ hs₀ => ?_)
  simp only [Bool.false_eq_true, if_false]
  refine wpAny_bind ?_
  rw [← Array.forIn_toList]
  simp only [List.forIn_cons, List.forIn_nil]
  refine wpAny_bind (wpAny_bind (wpAny_holding ?_))
  show wpAny _ _ (Builtin.SmallTypes.nextOf (.ref i1) >>= _) _ _ _
  refine wpAny_bind (wpAny_nextOf_list_end hh (h1.extBut hs₀.extBut D.i1z) (hl1.extBut hs₀.extBut D.l1z) hx fun h₂ e hs₂ he => ?_)
  refine wpAny_bind (wpAny_isInstance (T := "StopIteration") (b := true) he isSubtype_stop ?_)
  exact wpAny_pure (hQ _ fun c o c1 c2 c3 q => hs₂ _ _ c2 (hs₀.extBut _ _ c1 q))
/-- what the tuples made so far are -/
structure Gd (xs ys : Array Value) (lo : Addr) (h : Heap) (as : List Addr) : Prop where
  rise : as.Pairwise (· < ·)
  above : ∀ a ∈ as, lo < a
  pairs : ∀ (j : Nat) (a : Addr), as[j]? = some a → ∃ x y, xs[j]? = some x ∧ ys[j]? = some y ∧ IsPair h a x y
theorem Gd.there {lo : Addr} {h : Heap} {as : List Addr} (g : Gd xs ys lo h as) {a : Addr} (ha : a ∈ as) : a < h.objs.size := by
  obtain ⟨j, hj⟩ := List.mem_iff_getElem?.mp ha
  obtain ⟨_, _, _, _, e⟩ := g.pairs j a hj
  exact Heap.lt_size e
/-- where the zip stands -/
def ZSt (h : Heap) (z TI TO i1 i2 S : Addr) (l1 l2 : Addr) (k : Nat) : Prop := IsPair h TI (.ref i1) (.ref i2) ∧ h.IsListIter i1 l1 k ∧ h.IsListIter i2 l2 k ∧
  ((k = 0 ∧ IsZip h z TI TO .none ∧ ∃ a b, IsPair h TO a b) ∨ ∃ T f, ZipB h z TI TO T f ∧ (∃ o, h.get? T = some o) ∧ S < T)
theorem ZSt.keep {h h' : Heap} {S : Addr} {k : Nat} (x : ZSt h z TI TO i1 i2 S l1 l2 k) (hk : ∀ b o, b ≠ S → h.get? b = some o → h'.get? b = some o) (n1 : z < S) (n2 : TI < S) (n3 : TO < S) (n4 : i1 < S) (n5 : i2 < S) : ZSt h' z TI TO i1 i2 S l1 l2 k := by
  obtain ⟨a, b, c, d⟩ := x
  refine ⟨hk _ _ (Nat.ne_of_lt n2) a, b.at fun o e => hk _ _ (Nat.ne_of_lt n4) e, c.at fun o e => hk _ _ (Nat.ne_of_lt n5) e, ?_⟩
  rcases d with ⟨e, d1, _, _, d2⟩ | ⟨T, f, d1, ⟨o, d2⟩, d3⟩
  · exact .inl ⟨e, hk _ _ (Nat.ne_of_lt n1) d1, _, _, hk _ _ (Nat.ne_of_lt n3) d2⟩
  · exact .inr ⟨T, f, hk _ _ (Nat.ne_of_lt n1) d1, ⟨o, hk _ _ (Nat.ne_of_gt d3) d2⟩, d3⟩
theorem z_item {S : Addr} {k : Nat} {x y : Value} {Q : Option Value → Shared → Prop} (D : ZipApart z TI TO i1 i2 l1 l2) (n1 : z < S) (n4 : i1 < S) (n5 : i2 < S) (hS : S < s.heap.objs.size) (st : ZSt s.heap z TI TO i1 i2 S l1 l2 k) (hl1 : s.heap.IsList l1 xs) (hl2 : s.heap.IsList l2 ys) (hx : xs[k]? = some x) (hy : ys[k]? = some y)
    (hQ : ∀ h', ZSt h' z TI TO i1 i2 S l1 l2 (k + 1) → IsPair h' s.heap.objs.size x y → h'.objs.size = s.heap.objs.size + 1 → (∀ c o, c ≠ z → c ≠ TO → c ≠ i1 → c ≠ i2 → s.heap.get? c = some o → h'.get? c = some o) → Q (some (.ref s.heap.objs.size)) { s with heap := h' }) :
    wpAny (model prog w) A (pyNext (.ref z)) Q E s := by
  obtain ⟨a, b, c, d⟩ := st
  rcases d with ⟨rfl, d1, _, _, d2⟩ | ⟨T, f, d1, ⟨o, d2⟩, d3⟩
  · refine wpAny_pyNext_zip_item D d1 a d2 b c hl1 hl2 hx hy fun h' e1 e2 e3 e4 e5 e6 e7 => hQ h' ⟨?_, e3, e4, .inr ⟨_, false, e1, ⟨_, e5⟩, hS⟩⟩ e5 e6 e7
    exact e7 _ _ D.TIz D.TITO D.TIi1 D.TIi2 a
  · refine zipB_next D d1 ⟨o, d2⟩ a b c hl1 hl2 hx hy fun h' e1 e2 e3 e4 e5 e6 => hQ h' ⟨?_, e2, e3, .inr ⟨T, true, e1, ⟨o, e6 _ _ ?_ ?_ ?_ d2⟩, d3⟩⟩ e4 e5 fun c o c1 _ c3 c4 => e6 c o c1 c3 c4
    · exact e6 _ _ D.TIz D.TIi1 D.TIi2 a
    · exact Nat.ne_of_gt (Nat.lt_trans n1 d3)
    · exact Nat.ne_of_gt (Nat.lt_trans n4 d3)
    · exact Nat.ne_of_gt (Nat.lt_trans n5 d3)
theorem z_done {S : Addr} {k : Nat} {Q : Option Value → Shared → Prop} (hh : A.handled = none) (D : ZipApart z TI TO i1 i2 l1 l2) (st : ZSt s.heap z TI TO i1 i2 S l1 l2 k) (hl1 : s.heap.IsList l1 xs) (hl2 : s.heap.IsList l2 ys) (hx : xs[k]? = none)
    (hQ : ∀ h', (∀ c o, c ≠ z → c ≠ TO → c ≠ i1 → c ≠ i2 → s.heap.get? c = some o → h'.get? c = some o) → Q none { s with heap := h' }) : wpAny (model prog w) A (pyNext (.ref z)) Q E s := by
  obtain ⟨a, b, c, d⟩ := st
  rcases d with ⟨rfl, d1, _, _, d2⟩ | ⟨T, f, d1, d2, d3⟩
  · exact wpAny_pyNext_zip_end hh D d1 a d2 b c hl1 hl2 (.inl hx) hQ
  · exact zipB_end hh D d1 d2 a b hl1 hx fun h' e => hQ h' fun c o c1 _ c3 c4 => e c o c1 c3 c4
end
section
variable {prog : Program} {w : World} {A : Around} {s : Shared} {R : Result → Shared → Prop} {z TI TO i1 i2 l1 l2 : Addr} {xs ys : Array Value}
theorem z_loop {S : Addr} (hh : A.handled = none) (D : ZipApart z TI TO i1 i2 l1 l2) (n1 : z < S) (n2 : TI < S) (n3 : TO < S) (n4 : i1 < S) (n5 : i2 < S) (n6 : l1 < S) (n7 : l2 < S) (hxy : xs.size = ys.size) (hn : xs.size ≤ sizeLine) (res : Value) {h₁ : Heap}
    (hR : ∀ h' tk acc c as, (∀ b o, b ≠ S → b ≠ z → b ≠ TO → b ≠ i1 → b ≠ i2 → h₁.get? b = some o → h'.get? b = some o) → h'.get? S = some { cls := .type "list", dict := none, data := .seq acc c, slots := #[] } → as.length = xs.size → Gd xs ys S h' as →
      acc.toList = as.map Value.ref → R (.ok (.ret res)) { s with heap := h', toks := tk }) :
    ∀ (k i : Nat) (h : Heap) (tk c : Nat) (acc : Array Value) (as : List Addr), xs.size - i = k → i ≤ xs.size → ZSt h z TI TO i1 i2 S l1 l2 i → h.IsList l1 xs → h.IsList l2 ys → (∀ b o, b ≠ S → b ≠ z → b ≠ TO → b ≠ i1 → b ≠ i2 → h₁.get? b = some o → h.get? b = some o) →
      h.get? S = some { cls := .type "list", dict := none, data := .seq acc c, slots := #[] } → acc.toList = as.map Value.ref → as.length = i → Gd xs ys S h as →
      codeAny (model prog w) A (.builtin "list.extend.loop" ⟨[.ref S, .ref z, res], []⟩) R { s with heap := h, toks := tk } := by
  have gt : ∀ {a b : Addr}, a < b → b ≠ a := fun h => Nat.ne_of_gt h
  intro k
  induction k with
  | zero =>
    intro i h tk c acc as hk hi hst hL1 hL2 hkeep hS hacc hal hG
    refine codeAny_builtin PySem.F.entry_extend_loop ?_
    rw [Around.under_plainId PySem.F.plain_extend_loop _]
    show wpAny _ A.in1 (pyNext (.ref z) >>= _) _ _ _
    refine wpAny_bind (z_done (s := { s with heap := h, toks := tk }) (A := A.in1) hh D hst hL1 hL2 (Array.getElem?_eq_none (by omega)) fun h' he => ?_)
    refine wpAny_pure (hR h' tk acc c as (fun b o h1 h2 h3 h4 h5 e => he b o h2 h3 h4 h5 (hkeep b o h1 h2 h3 h4 h5 e)) (he S _ (gt n1) (gt n3) (gt n4) (gt n5) hS) (by omega) ⟨hG.rise, hG.above, fun j a hj => ?_⟩ hacc)
    obtain ⟨x, y, e1, e2, e3⟩ := hG.pairs j a hj
    have ha := hG.above a (List.mem_of_getElem? hj)
    exact ⟨x, y, e1, e2, he a _ (gt (Nat.lt_trans n1 ha)) (gt (Nat.lt_trans n3 ha)) (gt (Nat.lt_trans n4 ha)) (gt (Nat.lt_trans n5 ha)) e3⟩
  | succ k ih =>
    intro i h tk c acc as hk hi hst hL1 hL2 hkeep hS hacc hal hG
    have hlt : i < xs.size := by omega
    have hx : xs[i]? = some xs[i] := Array.getElem?_eq_getElem hlt
    have hy : ys[i]? = some (ys[i]'(by omega)) := Array.getElem?_eq_getElem (by omega)
    have hsz : acc.size = i := by rw [← Array.length_toList, hacc, List.length_map, hal]
    refine codeAny_builtin PySem.F.entry_extend_loop ?_
    rw [Around.under_plainId PySem.F.plain_extend_loop _]
    show wpAny _ A.in1 (pyNext (.ref z) >>= _) _ _ _
    refine wpAny_bind (z_item (s := { s with heap := h, toks := tk }) (S := S) D n1 n4 n5 (Heap.lt_size hS) hst hL1 hL2 hx hy fun h' hst' ht hz hkp => ?_)
    dsimp only at ht hz hkp ⊢
    have hS' := hkp S _ (gt n1) (gt n3) (gt n4) (gt n5) hS
    have up : ∀ b o, b ≠ S → h'.get? b = some o → (h'.update S (Obj.mapSeq (·.push (Value.ref h.objs.size)))).get? b = some o := fun b o hb e => (Heap.get?_update_other _ _ (Ne.symm hb)).trans e
    have hSl : S < h.objs.size := Heap.lt_size hS
    have L1 : (h'.update S (Obj.mapSeq (·.push (Value.ref h.objs.size)))).IsList l1 xs := hL1.at fun o e => up _ o (Nat.ne_of_lt n6) (hkp _ o D.l1z D.l1TO D.l1i1 D.l1i2 e)
    have L2 : (h'.update S (Obj.mapSeq (·.push (Value.ref h.objs.size)))).IsList l2 ys := hL2.at fun o e => up _ o (Nat.ne_of_lt n7) (hkp _ o D.l2z D.l2TO D.l2i1 D.l2i2 e)
    show wpAny _ A.in1 (updateSeq S (·.push (Value.ref h.objs.size)) >>= _) _ _ _
    refine wpAny_bind ?_
    refine wpAny_updateSeq hS' rfl (wpAny_pure ⟨plainId_quiet PySem.F.plain_extend_loop _, ih (i + 1) _ tk _ (acc.push (Value.ref h.objs.size)) (as ++ [h.objs.size]) (by omega) hlt (hst'.keep up n1 n2 n3 n4 n5) L1 L2
      (fun b o h1 h2 h3 h4 h5 e => up b o h1 (hkp b o h2 h3 h4 h5 (hkeep b o h1 h2 h3 h4 h5 e))) (Heap.get?_update_self _ hS' rfl) (by rw [Array.toList_push, hacc, List.map_append]; rfl) (by rw [List.length_append, hal]; rfl) ⟨?_, ?_, ?_⟩⟩) (by rw [hsz]; omega) (by show (acc.push (Value.ref h.objs.size)).size ≤ sizeLine + 1; rw [Array.size_push, hsz]; omega)
    · refine List.pairwise_append.mpr ⟨hG.rise, List.pairwise_singleton _ _, fun a ha b hb => ?_⟩
      rw [List.mem_singleton.mp hb]
      exact hG.there ha
    · intro a ha
      rcases List.mem_append.mp ha with ha | ha
      · exact hG.above a ha
      · rw [List.mem_singleton.mp ha]; exact hSl
    · intro j b hj
      rcases Nat.lt_trichotomy j as.length with h1 | h1 | h1
      · rw [List.getElem?_append_left h1] at hj
        obtain ⟨x, y, e1, e2, e3⟩ := hG.pairs j b hj
        have hb := hG.above b (List.mem_of_getElem? hj)
        exact ⟨x, y, e1, e2, up b _ (gt hb) (hkp b _ (gt (Nat.lt_trans n1 hb)) (gt (Nat.lt_trans n3 hb)) (gt (Nat.lt_trans n4 hb)) (gt (Nat.lt_trans n5 hb)) e3)⟩
      · subst h1
        have hb : h.objs.size = b := by simpa using hj
        subst hb
        exact ⟨_, _, by rw [hal]; exact hx, by rw [hal]; exact hy, up _ _ (gt hSl) ht⟩
      · have hnone : (as ++ [h.objs.size])[j]? = none := List.getElem?_eq_none (by rw [List.length_append, List.length_singleton]; omega)
        rw [hnone] at hj; cases hj
end
section
variable {prog : Program} {w : World} {A : Around} {E : Value → Shared → Prop} {s : Shared} {z TI TO i1 i2 l1 l2 : Addr} {xs ys : Array Value}
theorem z_hint (hT : s.TypeIs (.ref z) "zip") {Q : Bool → Shared → Prop} (h : Q true s) : wpAny (model prog w) A (Builtin.List.listLengthHint (.ref z)) Q E s := by
  unfold Builtin.List.listLengthHint
  refine wpAny_bind (wpAny_specialOf hT zip_no_len ?_)
  show wpAny _ A (specialOf (Value.ref z) (Str.ofString "__length_hint__") >>= _) _ _ _
  refine wpAny_bind (wpAny_specialOf hT zip_no_hint ?_)
  exact wpAny_pure h
theorem z_extend {R : Result → Shared → Prop} (hh : A.handled = none) (D : ZipApart z TI TO i1 i2 l1 l2) {S : Addr} (n1 : z < S) (n2 : TI < S) (n3 : TO < S) (n4 : i1 < S) (n5 : i2 < S) (n6 : l1 < S) (n7 : l2 < S) (hxy : xs.size = ys.size) (hn : xs.size ≤ sizeLine) (res : Value) (c₀ : Nat)
    (hz : IsZip s.heap z TI TO .none) (hTI : IsPair s.heap TI (.ref i1) (.ref i2)) (hTO : IsPair s.heap TO .none .none) (h1 : s.heap.IsListIter i1 l1 0) (h2 : s.heap.IsListIter i2 l2 0) (hl1 : s.heap.IsList l1 xs) (hl2 : s.heap.IsList l2 ys)
    (hS : s.heap.get? S = some { cls := .type "list", data := .seq #[] c₀ })
    (hR : ∀ h' tk acc c as, (∀ b o, b ≠ S → b ≠ z → b ≠ TO → b ≠ i1 → b ≠ i2 → s.heap.get? b = some o → h'.get? b = some o) → h'.get? S = some { cls := .type "list", dict := none, data := .seq acc c, slots := #[] } → as.length = xs.size → Gd xs ys S h' as →
      acc.toList = as.map Value.ref → R (.ok (.ret res)) { s with heap := h', toks := tk }) :
    wpAny (model prog w) A.in1 (Builtin.List.listExtendWith (.ref S) (.ref z) res)
      (fun fin s' => match fin with | .done f => R (.ok f) s' | .again c' => c'.quiet = true ∧ codeAny (model prog w) A c' R s') (fun e s' => R (.error e) s') s := by
  have hSr : S ≠ z := Nat.ne_of_gt n1
  have hT : s.TypeIs (.ref z) "zip" := ⟨_, hz, rfl⟩
  unfold Builtin.List.listExtendWith
  refine wpAny_bind (wpAny_typeOf (T := "zip") hT ?_)
  have g1 : Builtin.List.listSameRef (.ref S) (.ref z) = false := by simp [Builtin.List.listSameRef, hSr]
  have g2 : (Value.type "zip" == Value.type "list") = false := by decide
  have g3 : (Value.type "zip" == Value.type "tuple") = false := by decide
  simp only [g1, g2, g3, Bool.or_false, Bool.false_eq_true, if_false]
  refine wpAny_bind (wpAny_pyIter_zip hz ?_)
  refine wpAny_bind (wpAny_holding (z_hint hT ?_))
  simp only [Bool.true_or, if_true]
  refine wpAny_bind (wpAny_rule ?_)
  refine wpAny_bind ?_
  show wpAny _ _ (updateSeq S (·.push .none) >>= fun _ => updateSeq S (·.pop)) _ _ _
  refine wpAny_bind (wpAny_updateSeq hS rfl ?_)
  have hS₂ := Heap.get?_update_self (Obj.mapSeq (·.push Value.none)) hS rfl
  refine wpAny_updateSeq (hz := by seq_fits) hS₂ rfl ?_
  have hS₃ := Heap.get?_update_self (Obj.mapSeq (·.pop)) hS₂ rfl
  have oth : ∀ b o, b ≠ S → s.heap.get? b = some o → ((s.heap.update S (Obj.mapSeq (·.push Value.none))).update S (Obj.mapSeq (·.pop))).get? b = some o :=
    fun b o hb e => (Heap.get?_update_other _ _ (Ne.symm hb)).trans ((Heap.get?_update_other _ _ (Ne.symm hb)).trans e)
  refine wpAny_pure ⟨plainId_quiet PySem.F.plain_extend_loop _, z_loop (s := s) (xs := xs) (ys := ys) (h₁ := s.heap) hh D n1 n2 n3 n4 n5 n6 n7 hxy hn res hR xs.size 0 _ _ _ #[] [] (Nat.sub_zero _) (Nat.zero_le _) ?_ (hl1.at fun o e => oth _ o (Nat.ne_of_lt n6) e) (hl2.at fun o e => oth _ o (Nat.ne_of_lt n7) e)
    (fun b o hb _ _ _ _ e => oth b o hb e) hS₃ rfl rfl ⟨List.Pairwise.nil, (fun _ ha => nomatch ha), (fun j a hj => by simp at hj)⟩⟩
  exact (show ZSt s.heap z TI TO i1 i2 S l1 l2 0 from ⟨hTI, h1, h2, .inl ⟨rfl, hz, _, _, hTO⟩⟩).keep oth n1 n2 n3 n4 n5
theorem z_init {R : Result → Shared → Prop} (hh : A.handled = none) (D : ZipApart z TI TO i1 i2 l1 l2) {S : Addr} (n1 : z < S) (n2 : TI < S) (n3 : TO < S) (n4 : i1 < S) (n5 : i2 < S) (n6 : l1 < S) (n7 : l2 < S) (hxy : xs.size = ys.size) (hn : xs.size ≤ sizeLine)
    (hz : IsZip s.heap z TI TO .none) (hTI : IsPair s.heap TI (.ref i1) (.ref i2)) (hTO : IsPair s.heap TO .none .none) (h1 : s.heap.IsListIter i1 l1 0) (h2 : s.heap.IsListIter i2 l2 0) (hl1 : s.heap.IsList l1 xs) (hl2 : s.heap.IsList l2 ys)
    (hS : s.heap.get? S = some { cls := .type "list", data := .seq #[] })
    (hR : ∀ h' tk acc c as, (∀ b o, b ≠ S → b ≠ z → b ≠ TO → b ≠ i1 → b ≠ i2 → s.heap.get? b = some o → h'.get? b = some o) → h'.get? S = some { cls := .type "list", dict := none, data := .seq acc c, slots := #[] } → as.length = xs.size → Gd xs ys S h' as →
      acc.toList = as.map Value.ref → R (.ok (.ret .none)) { s with heap := h', toks := tk }) :
    wpAny (model prog w) A.in1 (Builtin.«list.__init__» ⟨[.ref S, .ref z], []⟩)
      (fun fin s' => match fin with | .done f => R (.ok f) s' | .again c' => c'.quiet = true ∧ codeAny (model prog w) A c' R s') (fun e s' => R (.error e) s') s := by
  show wpAny _ _ (do let old ← Builtin.List.listItems (.ref S); Builtin.List.listUpdate (.ref S) (fun _ => #[]); letGo old.toList.reverse; Builtin.List.listExtendWith (.ref S) (.ref z) .none) _ _ s
  refine wpAny_bind ?_
  unfold Builtin.List.listItems
  refine wpAny_bind (wpAny_seqItems hS rfl (wpAny_pure ?_))
  show wpAny _ _ (updateSeq S (fun _ => #[]) >>= fun _ => letGo (#[] : Array Value).toList.reverse >>= fun _ => Builtin.List.listExtendWith (.ref S) (.ref z) .none) _ _ s
  refine wpAny_bind (wpAny_updateSeq hS rfl ?_)
  have hS₂ := Heap.get?_update_self (Obj.mapSeq (fun _ => (#[] : Array Value))) hS rfl
  have oth : ∀ b o, b ≠ S → s.heap.get? b = some o → (s.heap.update S (Obj.mapSeq (fun _ => (#[] : Array Value)))).get? b = some o :=
    fun b o hb e => (Heap.get?_update_other _ _ (Ne.symm hb)).trans e
  refine wpAny_bind (wpAny_letGo ?_)
  refine z_extend (xs := xs) (ys := ys) hh D n1 n2 n3 n4 n5 n6 n7 hxy hn .none _ (oth _ _ (Nat.ne_of_lt n1) hz) (oth _ _ (Nat.ne_of_lt n2) hTI) (oth _ _ (Nat.ne_of_lt n3) hTO) (h1.at fun o e => oth _ o (Nat.ne_of_lt n4) e) (h2.at fun o e => oth _ o (Nat.ne_of_lt n5) e)
    (hl1.at fun o e => oth _ o (Nat.ne_of_lt n6) e) (hl2.at fun o e => oth _ o (Nat.ne_of_lt n7) e) hS₂ fun h' tk acc c as hk hS' hl hG hacc => ?_
  exact hR h' tk acc c as (fun b o hb b1 b2 b3 b4 e => hk b o hb b1 b2 b3 b4 (oth b o hb e)) hS' hl hG hacc
theorem z_call {Q : Value → Shared → Prop} (hh : A.handled = none) (D : ZipApart z TI TO i1 i2 l1 l2) (hxy : xs.size = ys.size) (hn : xs.size ≤ sizeLine)
    (hz : IsZip s.heap z TI TO .none) (hTI : IsPair s.heap TI (.ref i1) (.ref i2)) (hTO : IsPair s.heap TO .none .none) (h1 : s.heap.IsListIter i1 l1 0) (h2 : s.heap.IsListIter i2 l2 0) (hl1 : s.heap.IsList l1 xs) (hl2 : s.heap.IsList l2 ys)
    (hQ : ∀ h' tk acc c as, (∀ b o, b ≠ z → b ≠ TO → b ≠ i1 → b ≠ i2 → s.heap.get? b = some o → h'.get? b = some o) → h'.get? s.heap.objs.size = some { cls := .type "list", dict := none, data := .seq acc c, slots := #[] } → as.length = xs.size → Gd xs ys s.heap.objs.size h' as →
      acc.toList = as.map Value.ref → Q (.ref s.heap.objs.size) { s with heap := h', toks := tk }) :
    wpAny (model prog w) A (call (.type "list") [.ref z]) Q E s := by
  have lt : ∀ {b : Addr} {o : Obj}, s.heap.get? b = some o → b < s.heap.objs.size := fun e => Heap.lt_size e
  have li1 : i1 < s.heap.objs.size := let ⟨_, e, _⟩ := h1; lt e
  have li2 : i2 < s.heap.objs.size := let ⟨_, e, _⟩ := h2; lt e
  have ll1 : l1 < s.heap.objs.size := let ⟨_, e, _⟩ := hl1; lt e
  have ll2 : l2 < s.heap.objs.size := let ⟨_, e, _⟩ := hl2; lt e
  refine callType_codes (Q₁ := fun obj s₁ => obj = .ref s.heap.objs.size ∧ s₁ = { s with heap := s.heap.push { cls := .type "list", data := .seq #[] } }) PySem.F.called_list (PySem.F.typeCall_list_1 _) PySem.F.entry_list_init
    (code_list_new _ ⟨rfl, rfl⟩) fun obj s₁ h₁ => ?_
  obtain ⟨rfl, rfl⟩ := h₁
  have hS : (s.heap.push { cls := .type "list", data := .seq #[] }).get? s.heap.objs.size = some { cls := .type "list", data := .seq #[] } := Heap.get?_push_size _ rfl
  refine ⟨⟨_, hS, rfl⟩, PySem.F.args_list_init_2 _ _, z_init (xs := xs) (ys := ys) (A := A.in1) hh D (lt hz) (lt hTI) (lt hTO) li1 li2 ll1 ll2 hxy hn (Heap.get?_push_of_some _ hz) (Heap.get?_push_of_some _ hTI) (Heap.get?_push_of_some _ hTO)
    (h1.at fun o e => Heap.get?_push_of_some _ e) (h2.at fun o e => Heap.get?_push_of_some _ e) (hl1.at fun o e => Heap.get?_push_of_some _ e) (hl2.at fun o e => Heap.get?_push_of_some _ e) hS fun h' tk acc c as hk hS' hl hG hacc => ?_⟩
  exact ⟨rfl, hQ h' tk acc c as (fun b o b1 b2 b3 b4 e => hk b o (Nat.ne_of_lt (lt e)) b1 b2 b3 b4 (Heap.get?_push_of_some _ e)) hS' hl hG hacc⟩
end
/-- the tuples tracked at their addresses -/
def putP : Hp → List Addr → List (V × V) → Hp
  | H, a :: as, p :: kvs => putP (upd H a (.tup [p.1, p.2])) as kvs
  | H, _, _ => H
theorem putP_off {b : Addr} : ∀ (as : List Addr) (kvs : List (V × V)) (H : Hp), b ∉ as → putP H as kvs b = H b
  | [], _, _, _ => rfl
  | _ :: _, [], _, _ => rfl
  | a :: as, p :: kvs, H, h => by
    show putP (upd H a (.tup [p.1, p.2])) as kvs b = H b
    rw [putP_off as kvs _ (fun z => h (List.mem_cons_of_mem _ z)), upd_ne (fun z => h (by rw [z]; exact List.mem_cons_self))]
theorem putP_at : ∀ (as : List Addr) (kvs : List (V × V)) (H : Hp), as.length = kvs.length → as.Nodup → Paired (fun (t : Addr) (p : V × V) => putP H as kvs t = some (.tup [p.1, p.2])) as kvs
  | [], [], _, _, _ => .nil
  | [], _ :: _, _, h, _ => by cases h
  | _ :: _, [], _, h, _ => by cases h
  | a :: as, p :: kvs, H, h, hn => by
    have hn' := List.nodup_cons.mp hn
    have ih := putP_at as kvs (upd H a (.tup [p.1, p.2])) (Nat.succ.inj h) hn'.2
    refine .cons ?_ ih
    show putP (upd H a (.tup [p.1, p.2])) as kvs a = some (.tup [p.1, p.2])
    rw [putP_off as kvs _ hn'.1, upd_same]
section
variable {X : Cx}
theorem pairs_laid {pins : List (Addr × Obj)} {σ : L2.St} {H : Hp} {s : Shared} {h' : Heap} {tk : Nat} {vs ws : List V} {us us2 : List Value} {acc : Array Value} {c : Nat} {as : List Addr} {L : Addr} (I : Inv X pins σ H s) (hL : s.heap.objs.size ≤ L) (rv : Vals vs us) (rw_ : Vals ws us2) (hz : vs.length ≤ sizeLine) (hvw : vs.length = ws.length)
    (hk : ∀ b o, s.heap.get? b = some o → h'.get? b = some o) (hS : h'.get? L = some { cls := .type "list", dict := none, data := .seq acc c, slots := #[] }) (hl : as.length = vs.length) (hG : Gd us.toArray us2.toArray L h' as) (hacc : acc.toList = as.map Value.ref) :
    ∃ H' : Hp, (∀ b o, H b = some o → H' b = some o) ∧ H L = none ∧ (∀ t ∈ as, H t = none) ∧ L ∉ as ∧ H' L = some (.lst (as.map V.ref)) ∧ Paired (fun (t : Addr) (q : V × V) => H' t = some (.tup [q.1, q.2])) as (vs.zip ws) ∧ Inv X pins σ H' { s with heap := h', toks := tk } := by
  have hSn : L ∉ as := fun z => Nat.lt_irrefl _ (hG.above _ z)
  have nd : as.Nodup := List.Pairwise.imp (fun {a b} (h : a < b) => Nat.ne_of_lt h) hG.rise
  have new : ∀ t ∈ as, H t = none := fun t ht => I.hok.fresh (Nat.le_trans hL (Nat.le_of_lt (hG.above t ht)))
  have newS : H L = none := I.hok.fresh hL
  have lz : (vs.zip ws).length = vs.length := by rw [List.length_zip]; omega
  have atP := putP_at as (vs.zip ws) (upd H L (.lst (as.map V.ref))) (by omega) nd
  have off : ∀ b, b ∉ as → b ≠ L → putP (upd H L (.lst (as.map V.ref))) as (vs.zip ws) b = H b := fun b h1 h2 => by rw [putP_off as _ _ h1, upd_ne h2]
  have low : ∀ b o, s.heap.get? b = some o → b ∉ as ∧ b ≠ L := fun b o e => ⟨fun z => absurd (Heap.lt_size e) (Nat.not_lt.mpr (Nat.le_trans hL (Nat.le_of_lt (hG.above b z)))), Nat.ne_of_lt (Nat.lt_of_lt_of_le (Heap.lt_size e) hL)⟩
  have kp : ∀ b u, H b = some u → (putP (upd H L (.lst (as.map V.ref))) as (vs.zip ws)) b = some u := fun b u e => by
    rw [off b (fun z => by rw [new b z] at e; cases e) (fun z => by rw [z, newS] at e; cases e)]
    exact e
  have eS : putP (upd H L (.lst (as.map V.ref))) as (vs.zip ws) L = some (.lst (as.map V.ref)) := by rw [putP_off as _ _ hSn, upd_same]
  refine ⟨putP (upd H L (.lst (as.map V.ref))) as (vs.zip ws), kp, newS, new, hSn, eS, atP, ?_⟩
  refine I.call' (ch := []) rfl ⟨fun b o q _ _ _ => hk b o q, fun b o q _ _ _ => ⟨o.slots, hk b o q⟩, fun b o q n _ => ?_, fun b o q _ => ⟨o, hk b o q⟩, fun b xs q => kp b _ q, fun b o u q => kp b _ q, fun b ps q => ⟨#[], by rw [kp b _ q]; simp⟩⟩ (fun b u q => ?_) I.bare fun b z => by simp at z
  · obtain ⟨z1, z2⟩ := low b o q
    rw [off b z1 z2]
    exact n
  · by_cases hb : b ∈ as
    · obtain ⟨j, pk, e1, e2, e3⟩ := LiI.paired_ix atP hb
      rw [e3] at q
      cases q
      obtain ⟨x, y, f1, f2, f3⟩ := hG.pairs j b e1
      obtain ⟨g1, g2⟩ := List.getElem?_zip_eq_some.mp e2
      obtain ⟨u1, a1, a2⟩ := LiI.paired_get rv g1
      obtain ⟨u2, b1, b2⟩ := LiI.paired_get rw_ g2
      have f1' : us[j]? = some x := by simpa using f1
      have f2' : us2[j]? = some y := by simpa using f2
      rw [f1'] at a1
      rw [f2'] at b1
      cases a1
      cases b1
      exact ⟨by show 2 ≤ sizeLine; decide, [x, y], .cons a2 (.cons b2 .nil), ⟨_, f3, rfl, _, rfl⟩⟩
    · by_cases hb2 : b = L
      · rw [hb2] at q ⊢
        rw [eS] at q
        cases q
        refine ⟨by rw [List.length_map]; omega, acc.toList, c, by rw [hacc]; exact LiI.vals_refs as, ?_⟩
        rw [Array.toArray_toList]
        exact hS
      · rw [off b hb hb2] at q
        exact (I.hok b u q).stay (fun d v _ y => hk d v y) (fun d y => kp d _ y) fun d xs y => kp d _ y
end
def rZipL (K : PySem.W.Frag) : List V → Hp → VK → Prop := fun us H Q => ∃ (a b : Addr) (xs ys : List V), us = [.ref a, .ref b] ∧ SqL K H a xs ∧ SqL K H b ys ∧ xs.length = ys.length ∧
  ∀ (H' : Hp) (p : Addr) (ts : List Addr), (∀ c o, H c = some o → H' c = some o) → H p = none → H' p = some (.lst (ts.map V.ref)) → Paired (fun (t : Addr) (q : V × V) => H' t = some (.tup [q.1, q.2])) ts (xs.zip ys) → Q (.ref p) H'
def tZipL (K : PySem.W.Frag) (ta : TA) : TE := fun σ H Q => ta σ H fun us H1 => rZipL K us H1 Q
theorem w_zipL {K : PySem.W.Frag} {ta : TA} {σ : L2.St} {H : Hp} {Q : VK} (h : ta σ H fun us H1 => rZipL K us H1 Q) : tZipL K ta σ H Q := h
theorem pe_zipL {X : Cx} {e e2 : Expr} {ta : TA} {p p2 pos2 pos : Pos} (hc : X.calm = true) (hg : Gl X "list") (hm : X.mg "list" = none) (hg2 : Gl X "zip") (hm2 : X.mg "zip" = none) (ha : PA X [e, e2] ta)
    (hs : starEach [e, e2] X.env = (false, eval e X.env) :: starEach [e2] X.env := by rfl) (hpl : (backTo pos2 (starEach [e2] X.env)).any (·.1) = false := by rfl)
    (na : starEach [.Call (.Name "zip" p2) [e, e2] [] pos2] X.env = (false, eval (.Call (.Name "zip" p2) [e, e2] [] pos2) X.env) :: starEach [] X.env := by rfl) :
    PE X (.Call (.Name "list" p) [.Call (.Name "zip" p2) [e, e2] [] pos2] [] pos) (tZipL X.K ta) := by
  refine ⟨fun pins s σ H Q I h => ?_⟩
  refine Call_ (ld_blt I hg hm boot_list (PyProof.Rows.callWith_type1 (args_cons (Call_ (ld_blt I hg2 hm2 PyProof.Rows.boot_zip (PyProof.Rows.callWith_type1 (thn (ha.run pos2 pins s σ H _ I h) fun us s1 ⟨vs, H1, I1, r1, q1⟩ => ?_) hs hpl))) na) na))
  obtain ⟨a, b, xs, ys, ex, hqx, hqy, hl, q⟩ := q1
  subst ex
  cases r1 with
  | cons r rr =>
    cases rr with
    | cons r' rr =>
      cases rr
      cases r
      cases r'
      obtain ⟨its, rv, p1, hz1⟩ := I1.list hqx
      obtain ⟨its2, rv2, p2', hz2⟩ := I1.list hqy
      have la : a < s1.heap.objs.size := p1.lt
      have lb : b < s1.heap.objs.size := p2'.lt
      refine call_zip_2 p1.isList p2'.isList fun h' hz hTI hTO h1 h2 hsz hk => args_nil ?_
      have I2 : Inv X pins σ H1 { s1 with heap := h' } := I1.kept (t' := s1.toks) hk
      have L1 : h'.IsList a its.toArray := p1.isList.at fun o e => hk _ o e
      have L2 : h'.IsList b its2.toArray := p2'.isList.at fun o e => hk _ o e
      have n1 : xs.length = its.length := Paired.length rv
      have n2 : ys.length = its2.length := Paired.length rv2
      refine z_call (s := { s1 with heap := h' }) (xs := its.toArray) (ys := its2.toArray) (I1.ok.hd hc) (PySem.W.ktu_apart s1.heap.objs.size a b la lb) (by simp; omega) (by simp; omega) hz hTI hTO h1 h2 L1 L2 fun h2 tk acc c as hk2 hS hal hG hacc => ?_
      have hL : s1.heap.objs.size ≤ h'.objs.size := by rw [hsz]; omega
      have lt : ∀ {c : Addr} {o : Obj}, s1.heap.get? c = some o → c < s1.heap.objs.size := fun e => Heap.lt_size e
      have hk3 : ∀ c o, s1.heap.get? c = some o → h2.get? c = some o := fun c o e => hk2 c o (Nat.ne_of_lt (Nat.lt_of_lt_of_le (lt e) (Nat.le_add_right _ _))) (Nat.ne_of_lt (Nat.lt_of_lt_of_le (lt e) (Nat.le_add_right _ _))) (Nat.ne_of_lt (lt e)) (Nat.ne_of_lt (Nat.lt_of_lt_of_le (lt e) (Nat.le_add_right _ _))) (hk c o e)
      obtain ⟨H', k1, k2, k3, k4, k5, k6, J⟩ := pairs_laid (tk := tk) I1 hL rv rv2 (by rw [n1]; omega) hl hk3 hS (by rw [hal]; simp; omega) hG hacc
      exact ⟨.ref _, H', J, rfl, q H' _ as k1 k2 k5 k6⟩
end LZ
end B5_part
section Q0_part
set_option Elab.async false
set_option linter.all false
set_option maxRecDepth 100000
set_option maxHeartbeats 1000000
set_option pp.deepTerms.threshold 5
open PySem PySem.Spec PyProof.Rows L2
/-- go on as far as nothing is open -/
local macro_rules | `(tactic| walk_at "go") => `(tactic| repeat (first
  | with_reducible refine w_seq ?_ | with_reducible refine w_next ?_ | with_reducible refine w_set ?_ | with_reducible refine w_drop ?_ | with_reducible refine w_ret ?_ | with_reducible refine w_retN ?_
  | with_reducible refine w_if ?_ | ((with_reducible refine' w_var ?hv ?_); (case hv => exact rfl)) | with_reducible refine w_c ?_ | with_reducible refine w_nil ?_ | with_reducible refine w_cons ?_ | with_reducible refine w_op ?_ | with_reducible refine w_un ?_
  | with_reducible refine w_test ?_ | with_reducible refine w_tB ?_ | with_reducible refine w_not ?_ | with_reducible refine w_and ?_ | with_reducible refine w_or ?_ | with_reducible refine w_bl ?_
  | with_reducible refine w_andV ?_ | with_reducible refine w_orV ?_ | with_reducible refine w_notV ?_ | with_reducible refine w_ifE ?_ | with_reducible refine w_chain ?_ | with_reducible refine w_i0 ?_
  | with_reducible refine w_call ?_ | with_reducible refine w_callS ?_ | with_reducible refine w_cB ?_ | with_reducible refine w_tup ?_ | with_reducible refine w_lst ?_ | with_reducible refine w_fldV ?_
  | with_reducible refine w_neF ?_ | with_reducible refine w_neT ?_ | with_reducible refine w_notN ?_ | with_reducible refine w_isN ?_ | with_reducible refine w_gname ?_ | with_reducible refine w_gsub ?_ | with_reducible refine w_asg ?_ | with_reducible refine w_sl ?_ | with_reducible refine w_noP ?_ | with_reducible refine w_int1 ?_ | with_reducible refine w_part ?_ | with_reducible refine w_meth ?_ | with_reducible refine w_din ?_ | with_reducible refine w_dnotin ?_ | with_reducible refine w_dgt ?_ | with_reducible refine w_dget1 ?_ | with_reducible refine w_dget2 ?_ | with_reducible refine w_dput ?_ | with_reducible refine w_yes ?_ | with_reducible refine w_nT ?_ | with_reducible refine w_nF ?_ | with_reducible refine w_iteT ?_ | with_reducible refine w_iteF ?_))
namespace L2
open PySem PySem.Spec PyProof.Rows
section
variable {X : Cx} {k : Nat} {f C : Addr} {ps : List Str} {sp : Sp} {m : Str} {o e : Expr} {es : List Expr} {apos pos : Pos} {t : TA} {ta : TE}
/-- o.m(e, ..) of an own instance, nothing is raised -/
theorem pe_mO {pl : Sem Bool} (O : Ok X.prog X.w X.K X.mg X.base k f ps sp) (hr : Room k X.A) (c : Cls X.K C) (hm : Meth X.K C m f) (he : PE X o ta) (ha : PA X (e :: es) t)
    (hst : starEach (e :: es) X.env = (false, eval e X.env) :: starEach es X.env := by rfl) (hpl : (backTo pos (starEach es X.env)).any (·.1) = false := by rfl)
    (ht : eval (.Call (.Attribute o m apos) (e :: es) [] pos) X.env = (do
      let ov ← eval o X.env
      standAt apos.atName
      let (f, first) ← holding [ov] (getMethod ov m pl)
      callWith pos f first (backTo pos (starEach (e :: es) X.env)) (backToKw pos (keywordEach [] X.env))) := by rfl) :
    PE X (.Call (.Attribute o m apos) (e :: es) [] pos) (tMeth C m sp [] E0 ta t) := by
  obtain ⟨fd, F, b, kp⟩ := O.run
  exact pe_meth he c hm F hr b .nil passL ha hst hpl ht
theorem pe_mO0 {pl : Sem Bool} (O : Ok X.prog X.w X.K X.mg X.base k f ps sp) (hr : Room k X.A) (c : Cls X.K C) (hm : Meth X.K C m f) (he : PE X o ta)
    (ht : eval (.Call (.Attribute o m apos) [] [] pos) X.env = (do
      let ov ← eval o X.env
      standAt apos.atName
      let (f, first) ← holding [ov] (getMethod ov m pl)
      callWith pos f first (backTo pos (starEach [] X.env)) (backToKw pos (keywordEach [] X.env))) := by rfl) :
    PE X (.Call (.Attribute o m apos) [] [] pos) (tMeth C m sp [] E0 ta tNil) := by
  obtain ⟨fd, F, b, kp⟩ := O.run
  exact pe_meth0 he c hm F hr b .nil passL ht
end
/-- x in t, t a tuple of data -/
def rInTD (K : PySem.W.Frag) : R2 := fun x y H Q => ∃ d ds, Dp K H x d ∧ Dp K H y (.tuple ds) ∧ SeqAt.shaped d = true ∧ SeqAt.shaped (.tuple ds) = true ∧ Q (.bl (ds.any fun z => PyData.eqv z d)) H
theorem op_inTD {X : Cx} (hu : X.A.units + 65 < cLine) : OpR X (compareOp .In) (rInTD X.K) := by
  intro pins s σ H x y v u Q I rx ry ⟨d, ds, hd, he, sd, se, q⟩
  obtain ⟨as, r1⟩ := Dp.reads I d x v hd rx
  obtain ⟨bs, r2⟩ := Dp.reads I (.tuple ds) y u he ry
  exact SeqAt.in_tuple_reads r2 r1 (SeqAt.canLay_of_shaped se) (SeqAt.canLay_of_shaped sd) (room_in_shaped sd hu) ⟨.bl _, H, I, rfl, q⟩
section
variable {σ : St} {H : Hp} {ta : TE} {t : TA} {Q : VK}
theorem w_din {ty td : TE} (h : ty σ H fun y H1 => td σ H1 fun x H2 => ∃ a o, x = .ref a ∧ DGet H2 a y o ∧ Q (.bl o.isSome) H2) : tDIn ty td σ H Q := h
theorem w_dnotin {ty td : TE} (h : ty σ H fun y H1 => td σ H1 fun x H2 => ∃ a o, x = .ref a ∧ DGet H2 a y o ∧ Q (.bl (!o.isSome)) H2) : tDNotIn ty td σ H Q := h
theorem w_dgt {td ty : TE} (h : td σ H fun x H1 => ty σ H1 fun y H2 => ∃ a v, x = .ref a ∧ DGet H2 a y (some v) ∧ Q v H2) : tDGet td ty σ H Q := h
theorem w_dget1 {td ty : TE} (h : td σ H fun x H1 => ∃ a, x = .ref a ∧ IsD H1 a ∧ ty σ H1 fun y H2 => ∃ o, DGet H2 a y o ∧ Q (o.getD .non) H2) : tDGet1 td ty σ H Q := h
theorem w_dget2 {td ty tx : TE} (h : td σ H fun x H1 => ∃ a, x = .ref a ∧ IsD H1 a ∧ ty σ H1 fun y H2 => tx σ H2 fun z H3 => ∃ o, DGet H3 a y o ∧ Q (o.getD z) H3) : tDGet2 td ty tx σ H Q := h
theorem w_dput {td ty tv : TE} {D : Ends} (h : tv σ H fun v H1 => td σ H1 fun x H2 => ty σ H2 fun y H3 => ∃ a H4, x = .ref a ∧ DPut H3 a y v H4 ∧ D.nx σ H4) : sDPut td ty tv D σ H := h
theorem w_meth {C : Addr} {m : Str} {sp : Sp} {dvs : List V} {E : XK} (h : ta σ H fun x H1 => ∃ a dx fs, x = .ref a ∧ H1 a = some (.ins C dx fs) ∧ fs.lookup m = none ∧ t σ H1 fun vs H2 => sp (x :: (vs ++ dvs)) H2 Q E) : tMeth C m sp dvs E ta t σ H Q := h
end
end L2
namespace K3
theorem Room.units70 {k : Nat} {A : Around} (h : Room k A) : A.units + 70 < cLine := Nat.lt_of_le_of_lt (by omega) h.un
theorem Room.units4 {k : Nat} {A : Around} (h : Room k A) : A.units + 4 < cLine := Nat.lt_of_le_of_lt (by omega) h.un
/-! ### answers: any text, number, truth, None or tuple of texts -/
inductive An where
  | str (z : Str)
  | int (i : Int)
  | bl (b : Bool)
  | non
  | tup (zs : List Str)
deriving DecidableEq
inductive AnO (H : Hp) : V → An → Prop where
  | str (z) : AnO H (.str z) (.str z)
  | int (i) : AnO H (.int i) (.int i)
  | bl (b) : AnO H (.bl b) (.bl b)
  | non : AnO H .non .non
  | tup {p zs} : H p = some (.tup (List.map V.str zs)) → AnO H (.ref p) (.tup zs)
theorem AnO.same {H H' : Hp} (e : Same H H') {v : V} {x : An} (h : AnO H v x) : AnO H' v x := by
  cases h with
  | str => exact .str _
  | int => exact .int _
  | bl => exact .bl _
  | non => exact .non
  | tup h => exact .tup (e _ _ h)
def An.data : An → PyData
  | .str z => .str z | .int i => .int i | .bl b => .bool b | .non => .none | .tup zs => .tuple (zs.map PyData.str)
theorem strs_dp {K : PySem.W.Frag} {H : Hp} : ∀ zs : List Str, DpAll K H (zs.map V.str) (zs.map PyData.str)
  | [] => .nil
  | z :: zs => .cons (.str z) (strs_dp zs)
theorem AnO.dp {K : PySem.W.Frag} {H : Hp} {v : V} {x : An} (h : AnO H v x) : Dp K H v x.data := by
  cases h with
  | str => exact .str _
  | int => exact .int _
  | bl => exact .bl _
  | non => exact .non
  | tup h => exact .tup (SqT.of h) (strs_dp _)
/-- texts are of signs that there are -/
def An.ok : An → Prop
  | .str z => PySem.PyData.strOk z = true
  | .tup zs => zs.length ≤ 1000 ∧ ∀ z ∈ zs, PySem.PyData.strOk z = true
  | _ => True
theorem strs_lay : ∀ {zs : List Str}, (∀ z ∈ zs, PySem.PyData.strOk z = true) → PyData.canLayAll0 (zs.map PyData.str) = true ∧ PyData.depthAll (zs.map PyData.str) ≤ 0
  | [], _ => ⟨rfl, Nat.le_refl _⟩
  | z :: zs, h => by
    obtain ⟨a, b⟩ := strs_lay fun y hy => h y (List.mem_cons_of_mem _ hy)
    simp only [List.map_cons, PyData.canLayAll0, PyData.canLay0, PyData.depthAll, PyData.depth]
    exact ⟨by rw [a, h z (List.mem_cons_self ..)]; rfl, by omega⟩
theorem shaped_of {d : PyData} (h : d.canLay0 = true) (k : d.depth ≤ 64) : SeqAt.shaped d = true := Bool.and_eq_true_iff.mpr ⟨h, decide_eq_true k⟩
theorem strs_shaped {zs : List Str} (h : ∀ z ∈ zs, PySem.PyData.strOk z = true) : SeqAt.shaped (.tuple (zs.map PyData.str)) = true ∧ SeqAt.shaped (.list (zs.map PyData.str)) = true := by
  obtain ⟨a, b⟩ := strs_lay h
  exact ⟨shaped_of (by simpa [PyData.canLay0] using a) (by simp only [PyData.depth]; omega), shaped_of (by simpa [PyData.canLay0] using a) (by simp only [PyData.depth]; omega)⟩
theorem str_shaped {z : Str} (h : PySem.PyData.strOk z = true) : SeqAt.shaped (.str z) = true := shaped_of (by simpa [PyData.canLay0] using h) (by simp [PyData.depth])
theorem An.shaped {x : An} (h : x.ok) : SeqAt.shaped x.data = true := by
  cases x with
  | str z => exact str_shaped h
  | tup zs => exact (strs_shaped h.2).1
  | _ => rfl
theorem eqv_strs : ∀ {xs ys : List Str}, PyData.eqvAll (xs.map PyData.str) (ys.map PyData.str) = decide (xs = ys)
  | [], [] => by simp [PyData.eqvAll]
  | [], y :: ys => by simp [PyData.eqvAll]
  | x :: xs, [] => by simp [PyData.eqvAll]
  | x :: xs, y :: ys => by
    have ih := eqv_strs (xs := xs) (ys := ys)
    simp only [List.map_cons, PyData.eqvAll, ih, PyData.eqv, List.cons.injEq, Bool.decide_and]
    congr 1
def An.isInt : An → Bool
  | .int _ => true
  | _ => false
def Rw.ans : Rw → An → Bool
  | .one _ os _, .str z => decide (z ∈ os)
  | .some _ os _, .tup zs => decide (zs = os.filter fun o => decide (o ∈ zs))
  | .number _ lo hi _, .int i => decide (lo ≤ i) && decide (i ≤ hi)
  | _, _ => false
def spAnB (f : An → Bool) (_ : PySem.W.Frag) : Sp := fun vs H Q _ => ∃ (v : V) (x : An), vs = [v] ∧ AnO H v x ∧ ∀ H', Same H H' → Q (.bl (f x)) H'
def spChosen (K : PySem.W.Frag) : Sp := fun vs H Q _ => ∃ (t p : Addr) (os zs : List Str), vs = [.ref t, .ref p] ∧ SqT K H t (os.map V.str) ∧ H p = some (.tup (zs.map V.str)) ∧ os.length ≤ 1000 ∧
  ∀ q H', Same H H' → H q = none → H' q = some (.lst ((os.filter fun o => decide (o ∈ zs)).map V.str)) → Q (.ref q) H'
def spIsAns (K : PySem.W.Frag) : Sp := fun vs H Q _ => ∃ (qv v : V) (r : Rw) (x : An), vs = [qv, v] ∧ RO K H qv r ∧ r.isQ = true ∧ AnO H v x ∧ x.ok ∧ r.opts.length ≤ 1000 ∧ (∀ o ∈ r.opts, PySem.PyData.strOk o = true) ∧ ∀ H', Same H H' → Q (.bl (r.ans x)) H'
def An.tyn : An → String
  | .str _ => "str" | .int _ => "int" | .bl _ => "bool" | .non => "NoneType" | .tup _ => "tuple"
theorem An.ty {K : PySem.W.Frag} {H : Hp} {v : V} {x : An} (h : AnO H v x) : TyX K H v (.type x.tyn) := by
  cases h with
  | str => exact .base (.str _)
  | int => exact .base (.int _)
  | bl => exact .base (.bl _)
  | non => exact .base .non
  | tup h => exact .base (.tup h)
theorem isB {y : String} {x : An} {K : PySem.W.Frag} {H : Hp} {v : V} {b : Bool} {Q : VK} (h : AnO H v x) (k : kitB x.tyn y = some b) (q : Q (.bl b) H) : rIsi K [v, .ty y] H Q :=
  ⟨v, .ty y, _, .type y, b, rfl, .ty y, An.ty h, kit_ty k, q⟩
theorem kii : kitB "int" "int" = some true := by decide +kernel
theorem kib : kitB "int" "bool" = some false := by decide +kernel
theorem kbi : kitB "bool" "int" = some true := by decide +kernel
theorem kbb : kitB "bool" "bool" = some true := by decide +kernel
theorem ksi : kitB "str" "int" = some false := by decide +kernel
theorem kni : kitB "NoneType" "int" = some false := by decide +kernel
theorem kti : kitB "tuple" "int" = some false := by decide +kernel
theorem kst : kitB "str" "tuple" = some false := by decide +kernel
theorem kit2 : kitB "int" "tuple" = some false := by decide +kernel
theorem kbt : kitB "bool" "tuple" = some false := by decide +kernel
theorem knt : kitB "NoneType" "tuple" = some false := by decide +kernel
theorem ktt : kitB "tuple" "tuple" = some true := by decide +kernel
def An.isTup : An → Bool
  | .tup _ => true | _ => false
theorem kit_tup : ∀ (x : An), kitB x.tyn "tuple" = some x.isTup
  | .str _ => kst | .int _ => kit2 | .bl _ => kbt | .non => knt | .tup _ => ktt
theorem filter_take {os : List Str} {zs : List Str} {i : Nat} {o : Str} (h : os[i]? = some o) : ((os.take (i + 1)).filter fun o => decide (o ∈ zs)) = ((os.take i).filter fun o => decide (o ∈ zs)) ++ if o ∈ zs then [o] else [] := by
  rw [List.take_add_one, h, List.filter_append]
  congr 1
  by_cases c : o ∈ zs <;> simp [c]
theorem any_str {os : List Str} {x : An} : ((os.map PyData.str).any fun z => PyData.eqv z x.data) = (match x with | .str z => decide (z ∈ os) | _ => false) := by
  induction os with
  | nil => cases x <;> rfl
  | cons o os ih =>
    rw [List.map_cons, List.any_cons, ih]
    cases x with
    | str z =>
      show ((o == z) || decide (z ∈ os)) = decide (z ∈ o :: os)
      by_cases e : o = z
      · rw [e]; simp
      · rw [beq_false_of_ne e, Bool.false_or]
        exact decide_eq_decide.mpr ⟨fun h => List.mem_cons_of_mem _ h, fun h => (List.mem_cons.mp h).resolve_left fun q => e q.symm⟩
    | _ => rfl
end K3
end Q0_part
section Q1_part
set_option Elab.async false
set_option linter.all false
set_option maxRecDepth 100000
set_option maxHeartbeats 1000000
set_option pp.deepTerms.threshold 5
open PySem PySem.Spec PyProof.Rows L2
/-- go on as far as nothing is open -/
local macro_rules | `(tactic| walk_at "go") => `(tactic| repeat (first
  | with_reducible refine w_seq ?_ | with_reducible refine w_next ?_ | with_reducible refine w_set ?_ | with_reducible refine w_drop ?_ | with_reducible refine w_ret ?_ | with_reducible refine w_retN ?_
  | with_reducible refine w_if ?_ | ((with_reducible refine' w_var ?hv ?_); (case hv => exact rfl)) | with_reducible refine w_c ?_ | with_reducible refine w_nil ?_ | with_reducible refine w_cons ?_ | with_reducible refine w_op ?_ | with_reducible refine w_un ?_
  | with_reducible refine w_test ?_ | with_reducible refine w_tB ?_ | with_reducible refine w_not ?_ | with_reducible refine w_and ?_ | with_reducible refine w_or ?_ | with_reducible refine w_bl ?_
  | with_reducible refine w_andV ?_ | with_reducible refine w_orV ?_ | with_reducible refine w_notV ?_ | with_reducible refine w_ifE ?_ | with_reducible refine w_chain ?_ | with_reducible refine w_i0 ?_
  | with_reducible refine w_call ?_ | with_reducible refine w_callS ?_ | with_reducible refine w_cB ?_ | with_reducible refine w_tup ?_ | with_reducible refine w_lst ?_ | with_reducible refine w_fldV ?_
  | with_reducible refine w_neF ?_ | with_reducible refine w_neT ?_ | with_reducible refine w_notN ?_ | with_reducible refine w_isN ?_ | with_reducible refine w_gname ?_ | with_reducible refine w_gsub ?_ | with_reducible refine w_asg ?_ | with_reducible refine w_sl ?_ | with_reducible refine w_noP ?_ | with_reducible refine w_int1 ?_ | with_reducible refine w_part ?_ | with_reducible refine w_meth ?_ | with_reducible refine w_din ?_ | with_reducible refine w_dnotin ?_ | with_reducible refine w_dgt ?_ | with_reducible refine w_dget1 ?_ | with_reducible refine w_dget2 ?_ | with_reducible refine w_dput ?_ | with_reducible refine w_yes ?_ | with_reducible refine w_nT ?_ | with_reducible refine w_nF ?_ | with_reducible refine w_iteT ?_ | with_reducible refine w_iteF ?_))
namespace K3
section
variable {P : Program} {w : World} {K : PySem.W.Frag} {mg : Str → Option Value} {base : Heap}
theorem sc_is_number : FnScope ["answer"] ["answer"] (defScope s_is_number) := ⟨rfl, rfl, rfl, by decide +kernel, rfl, by decide +kernel, by decide +kernel⟩
theorem ok_is_number (T : Tx K mg) : Ok P w K mg base 1 (He.ga K "is_number") ["answer"] (spAnB An.isInt K) := by
  obtain ⟨fd, F⟩ := T.f_is_number
  refine ⟨fd, F.ok (k := 0) sc_is_number (fun vs H Q E h => ?_) (fun cdv A outer s_ H vs Q E hr h => ?_), F.bindsN fun _ _ _ _ _ _ us hl => match us, hl with | [_], _ => rfl, F.kp⟩
  · obtain ⟨v, x, rfl, hx, q⟩ := h
    rfl
  obtain ⟨v, x, rfl, hx, q⟩ := h
  have hu65 := K3.Room.units65 hr
  have hu70 := K3.Room.units70 hr
  have hu4 := K3.Room.units4 hr
  have hu64 := Nat.lt_of_succ_lt hu65
  have hu0 := Nat.lt_of_le_of_lt (Nat.le_add_right _ 65) hu65
  have hu1 := Nat.lt_of_le_of_lt (Nat.add_le_add_left (show 1 ≤ 65 by decide) _) hu65
  refine ⟨_, pss_one (ps_ret (pe_and (pe_callB call_isi (by rfl) T.z_isinstance (by decide +kernel) (pa_cons (pv 0) (pa_cons (pe_bltn (v := .ty "int") (u := .type "int") (by rfl) T.z_int (by decide +kernel) rfl) pa_nil))) (pe_one (pe_not (pe_callB call_isi (by rfl) T.z_isinstance (by decide +kernel) (pa_cons (pv 0) (pa_cons (pe_bltn (v := .ty "bool") (u := .type "bool") (by rfl) T.z_bool (by decide +kernel) rfl) pa_nil))))))), ?_⟩
  walk_at "go"
  cases hx with
  | int i =>
    refine isB (.int i) kii ⟨_, rfl, ?_⟩
    walk_at "go"
    exact isB (.int i) kib ⟨_, rfl, q _ (Same.refl _)⟩
  | bl b =>
    refine isB (.bl b) kbi ⟨_, rfl, ?_⟩
    walk_at "go"
    exact isB (.bl b) kbb ⟨_, rfl, q _ (Same.refl _)⟩
  | str z => exact isB (.str z) ksi ⟨_, rfl, q _ (Same.refl _)⟩
  | non => exact isB .non kni ⟨_, rfl, q _ (Same.refl _)⟩
  | tup h => exact isB (.tup h) kti ⟨_, rfl, q _ (Same.refl _)⟩
theorem sc_chosen_in_order : FnScope ["options", "answer", "option"] ["options", "answer"] (defScope s_chosen_in_order) := ⟨rfl, rfl, rfl, by decide +kernel, rfl, by decide +kernel, by decide +kernel⟩
theorem ok_chosen_in_order (T : Tx K mg) : Ok P w K mg base 1 (He.ga K "chosen_in_order") ["options", "answer"] (spChosen K) := by
  obtain ⟨fd, F⟩ := T.f_chosen_in_order
  refine ⟨fd, F.ok (k := 0) sc_chosen_in_order (fun vs H Q E h => ?_) (fun cdv A outer s_ H vs Q E hr h => ?_), F.bindsN fun _ _ _ _ _ _ us hl => match us, hl with | [_, _], _ => rfl, F.kp⟩
  · obtain ⟨t, p, os, zs, rfl, ht, hp, lo, q⟩ := h
    rfl
  obtain ⟨t, p, os, zs, rfl, ht, hp, lo, q⟩ := h
  have hu65 := K3.Room.units65 hr
  have hu70 := K3.Room.units70 hr
  have hu4 := K3.Room.units4 hr
  have hu64 := Nat.lt_of_succ_lt hu65
  have hu0 := Nat.lt_of_le_of_lt (Nat.le_add_right _ 65) hu65
  have hu1 := Nat.lt_of_le_of_lt (Nat.add_le_add_left (show 1 ≤ 65 by decide) _) hu65
  refine ⟨_, pss_one (ps_ret (by exact pe_lc (own := [("option", 2)]) (g := gName 2) (tt := (tTest (tOp (rIn K false) (tVar 2) (tVar 1)))) (te := (tVar 2)) (by rfl) sc_chosen_in_order.nd (pi_tup (pv 0)) (blkOk_by (own := [("option", 2)]) (N := ["options", "answer", "option"]) (sc := defScope s_chosen_in_order) (by decide +kernel)) (fun _ _ _ _ _ => (pg_name (i := 2) sc_chosen_in_order.nd rfl (Or.inl rfl))) (fun _ _ _ _ _ => (pts_one (pt_cmpR op_in_seq (pv 2) (pv 1) (by rfl)))) (fun _ _ _ _ _ => (pv 2)))), ?_⟩
  walk_at "go"
  refine ⟨_, rfl, t, rfl, ⟨_, ht⟩, fun D hD => ?_⟩
  refine lc_it (walk_tup (K := K) (a := t) (xs := os.map V.str)) (fun i H' => Same H H' ∧ H' D = some (.lst (((os.take i).filter fun o => decide (o ∈ zs)).map V.str))) ⟨Same.new hD _, upd_same⟩ (fun i H' _ z => z.1.sqt ht) ?_ ?_
  · rintro i v H1 H1' hi ⟨e1, h1⟩ ⟨rfl, hv⟩
    rw [List.getElem?_map] at hv
    obtain ⟨o, ho, rfl⟩ := Option.map_eq_some_iff.mp hv
    walk_at "go"
    refine ⟨rfl, ?_⟩
    walk_at "go"
    refine ⟨p, _, rfl, .inr (SqT.of (e1 _ _ hp)), rfl, flat_strs zs, ?_⟩
    refine ⟨_, rfl, ?_⟩
    show if inV (.str o) (zs.map V.str) = true then _ else _
    rw [inV_strs]
    by_cases c : o ∈ zs
    · rw [decide_eq_true c]
      walk_at "go"
      refine ⟨_, h1, ?_, e1.mut hD, ?_⟩
      · rw [List.length_map]
        refine Nat.lt_of_le_of_lt (Nat.le_trans (List.length_filter_le _ _) (List.length_take_le _ _)) ?_
        rw [List.length_map] at hi
        exact Nat.lt_of_lt_of_le hi (Nat.le_trans lo (by decide))
      · rw [upd_same, filter_take ho, if_pos c, List.map_append]
        rfl
    · rw [decide_eq_false c]
      walk_at "go"
      refine ⟨e1, ?_⟩
      rw [h1, filter_take ho, if_neg c, List.append_nil]
  · rintro H1 ⟨e1, h1⟩
    refine q D H1 e1 hD ?_
    rw [h1, List.length_map, List.take_length]
theorem sc_is_answer : FnScope ["question", "answer"] ["question", "answer"] (defScope s_is_answer) := ⟨rfl, rfl, rfl, by decide +kernel, rfl, by decide +kernel, by decide +kernel⟩
theorem ok_is_answer (T : Tx K mg) : Ok P w K mg base 2 (He.ga K "is_answer") ["question", "answer"] (spIsAns K) := by
  obtain ⟨fd, F⟩ := T.f_is_answer
  have Ois_number := ok_is_number (P := P) (w := w) (base := base) T
  have Ochosen_in_order := ok_chosen_in_order (P := P) (w := w) (base := base) T
  refine ⟨fd, F.ok (k := 1) sc_is_answer (fun vs H Q E h => ?_) (fun cdv A outer s_ H vs Q E hr h => ?_), F.bindsN fun _ _ _ _ _ _ us hl => match us, hl with | [_, _], _ => rfl, F.kp⟩
  · obtain ⟨qv, v, r, x, rfl, hr0, hq, hx, xo, lo, so, q⟩ := h
    rfl
  obtain ⟨qv, v, r, x, rfl, hr0, hq, hx, xo, lo, so, q⟩ := h
  have hu65 := K3.Room.units65 hr
  have hu70 := K3.Room.units70 hr
  have hu4 := K3.Room.units4 hr
  have hu64 := Nat.lt_of_succ_lt hu65
  have hu0 := Nat.lt_of_le_of_lt (Nat.le_add_right _ 65) hu65
  have hu1 := Nat.lt_of_le_of_lt (Nat.add_le_add_left (show 1 ≤ 65 by decide) _) hu65
  have ris_number : Room 1 _ := hr.mono (by decide)
  have rchosen_in_order : Room 1 _ := hr.mono (by decide)
  refine ⟨_, pss_cons (ps_if (pt_val (pe_callB call_isi (by rfl) T.z_isinstance (by decide +kernel) (pa_cons (pv 0) (pa_cons (pe_gref T.g_Some) pa_nil)))) (pss_one (ps_ret (pe_and (pe_callB call_isi (by rfl) T.z_isinstance (by decide +kernel) (pa_cons (pv 1) (pa_cons (pe_bltn (v := .ty "tuple") (u := .type "tuple") (by rfl) T.z_tuple (by decide +kernel) rfl) pa_nil))) (pe_one (pe_cmpR (op_eqD hu64) (pe_callTy call_list_of (by rfl) T.z_list (by decide +kernel) (pa_cons (pv 1) pa_nil)) (pe_f Ochosen_in_order rchosen_in_order T.g_chosen_in_order (pa_cons (pe_fld (pv 0) rfl) (pa_cons (pv 1) pa_nil))) rfl))))) pss_nil)
      (pss_cons (ps_if (pt_val (pe_callB call_isi (by rfl) T.z_isinstance (by decide +kernel) (pa_cons (pv 0) (pa_cons (pe_gref T.g_Number) pa_nil)))) (pss_one (ps_ret (pe_and (pe_f Ois_number ris_number T.g_is_number (pa_cons (pv 1) pa_nil)) (pe_one (pe_chain op_le op_le (pe_fld (pv 0) rfl) (pv 1) (pe_fld (pv 0) rfl)))))) pss_nil)
      (pss_one (ps_ret (pe_cmpR (op_inTD hu65) (pv 1) (pe_fld (pv 0) rfl) rfl)))), ?_⟩
  walk_at "go"
  refine isiR T (y := "Some") hr0 (by decide) ?_
  refine ⟨_, rfl, ?_⟩
  have kq := fun {b} (h : r.ans x = b) => (h ▸ q H (Same.refl _) : Q (.bl b) H)
  cases hr0 with
  | @some a t n os w wv hi ht hw =>
    obtain ⟨dx, hi⟩ := hi
    show if true = true then _ else _
    walk_at "go"
    refine isB hx (kit_tup x) ?_
    refine ⟨_, rfl, ?_⟩
    cases hx with
    | @tup p zs hp =>
      show if true = true then _ else _
      walk_at "go"
      refine ⟨p, _, rfl, .inr (SqT.of hp), fun l hl => ?_⟩
      have el := Same.new hl (.lst (zs.map V.str))
      walk_at "go"
      refine ⟨_, _, dx, _, _, rfl, el _ _ hi, T.cl_Some, T.n_Some_options, rfl, ?_⟩
      walk_at "go"
      refine ⟨_, p, _, zs, rfl, el.sqt ht, el _ _ hp, lo, fun q' H2 e2 hq' h2 => ?_⟩
      refine ⟨.list (zs.map PyData.str), .list ((os.filter fun o => decide (o ∈ zs)).map PyData.str), .lst (SqL.of (e2 _ _ upd_same)) (strs_dp zs), .lst (SqL.of h2) (strs_dp _), (strs_shaped xo.2).2, (strs_shaped fun o ho => so o (List.mem_filter.mp ho).1).2, ?_⟩
      rw [show PyData.eqv (.list (zs.map PyData.str)) (.list ((os.filter fun o => decide (o ∈ zs)).map PyData.str)) = decide (zs = os.filter fun o => decide (o ∈ zs)) by simp only [PyData.eqv]; exact eqv_strs]
      exact q _ (el.trans e2)
    | _ => exact kq rfl
  | @number a n lo1 hi1 w wv hi hw =>
    obtain ⟨dx, hi⟩ := hi
    show if false = true then _ else _
    walk_at "go"
    refine isiR T (y := "Number") (.number ⟨dx, hi⟩ hw) (by decide) ?_
    refine ⟨_, rfl, ?_⟩
    show if true = true then _ else _
    walk_at "go"
    refine ⟨v, x, rfl, hx, fun H1 e1 => ?_⟩
    cases hx with
    | int i =>
      refine ⟨_, rfl, ?_⟩
      show if true = true then _ else _
      walk_at "go"
      refine ⟨_, _, dx, _, _, rfl, e1 _ _ hi, T.cl_Number, T.n_Number_low, rfl, ?_⟩
      walk_at "go"
      have q1 := q H1 e1
      by_cases c : lo1 ≤ i
      · rw [decide_eq_true c]
        walk_at "go"
        refine ⟨_, _, dx, _, _, rfl, e1 _ _ hi, T.cl_Number, T.n_Number_high, rfl, ?_⟩
        walk_at "go"
        have : (Rw.number n lo1 hi1 w).ans (.int i) = decide (i ≤ hi1) := by show (decide (lo1 ≤ i) && decide (i ≤ hi1)) = _; rw [decide_eq_true c, Bool.true_and]
        rw [this] at q1
        exact q1
      · rw [decide_eq_false c]
        walk_at "go"
        have : (Rw.number n lo1 hi1 w).ans (.int i) = false := by show (decide (lo1 ≤ i) && decide (i ≤ hi1)) = _; rw [decide_eq_false c, Bool.false_and]
        rw [this] at q1
        exact q1
    | _ => exact ⟨_, rfl, q H1 e1⟩
  | @one a t n os w wv hi ht hw =>
    obtain ⟨dx, hi⟩ := hi
    show if false = true then _ else _
    walk_at "go"
    refine isiR T (y := "Number") (.one ⟨dx, hi⟩ ht hw) (by decide) ?_
    refine ⟨_, rfl, ?_⟩
    show if false = true then _ else _
    walk_at "go"
    refine ⟨_, _, dx, _, _, rfl, hi, T.cl_One, T.n_One_options, rfl, ?_⟩
    refine ⟨x.data, _, hx.dp, .tup ht (strs_dp os), An.shaped xo, (strs_shaped so).1, ?_⟩
    rw [any_str]
    cases hx <;> exact kq rfl
  | _ => cases hq
end
end K3
end Q1_part
section Q2_part
set_option Elab.async false
set_option linter.all false
set_option maxRecDepth 100000
set_option maxHeartbeats 1000000
set_option pp.deepTerms.threshold 5
open PySem PySem.Spec PyProof.Rows L2
/-- go on as far as nothing is open -/
local macro_rules | `(tactic| walk_at "go") => `(tactic| repeat (first
  | with_reducible refine w_seq ?_ | with_reducible refine w_next ?_ | with_reducible refine w_set ?_ | with_reducible refine w_drop ?_ | with_reducible refine w_ret ?_ | with_reducible refine w_retN ?_
  | with_reducible refine w_if ?_ | ((with_reducible refine' w_var ?hv ?_); (case hv => exact rfl)) | with_reducible refine w_c ?_ | with_reducible refine w_nil ?_ | with_reducible refine w_cons ?_ | with_reducible refine w_op ?_ | with_reducible refine w_un ?_
  | with_reducible refine w_test ?_ | with_reducible refine w_tB ?_ | with_reducible refine w_not ?_ | with_reducible refine w_and ?_ | with_reducible refine w_or ?_ | with_reducible refine w_bl ?_
  | with_reducible refine w_andV ?_ | with_reducible refine w_orV ?_ | with_reducible refine w_notV ?_ | with_reducible refine w_ifE ?_ | with_reducible refine w_chain ?_ | with_reducible refine w_i0 ?_
  | with_reducible refine w_call ?_ | with_reducible refine w_callS ?_ | with_reducible refine w_cB ?_ | with_reducible refine w_tup ?_ | with_reducible refine w_lst ?_ | with_reducible refine w_fldV ?_
  | with_reducible refine w_neF ?_ | with_reducible refine w_neT ?_ | with_reducible refine w_notN ?_ | with_reducible refine w_isN ?_ | with_reducible refine w_gname ?_ | with_reducible refine w_gsub ?_ | with_reducible refine w_asg ?_ | with_reducible refine w_sl ?_ | with_reducible refine w_noP ?_ | with_reducible refine w_int1 ?_ | with_reducible refine w_part ?_ | with_reducible refine w_meth ?_ | with_reducible refine w_din ?_ | with_reducible refine w_dnotin ?_ | with_reducible refine w_dgt ?_ | with_reducible refine w_dget1 ?_ | with_reducible refine w_dget2 ?_ | with_reducible refine w_dput ?_ | with_reducible refine w_yes ?_ | with_reducible refine w_nT ?_ | with_reducible refine w_nF ?_ | with_reducible refine w_iteT ?_ | with_reducible refine w_iteF ?_))
namespace L2
open PySem PySem.Spec PyProof.Rows
theorem valV_append {κ : Type} [DecidableEq κ] {a b : List (κ × V)} {k : κ} : valV (a ++ b) k = (valV a k).or (valV b k) := by
  induction a with
  | nil => rfl
  | cons p r ih =>
    by_cases e : p.1 = k
    · rw [List.cons_append, valV_pos e, valV_pos e]; rfl
    · rw [List.cons_append, valV_neg e, valV_neg e, ih]
end L2
namespace K3
/-- the question of this name among a form's rows -/
def formQ (rs : List Rw) (z : Str) : Option Rw := (qsOf (Rws.flat rs none 0)).find? fun r => decide (r.name = z)
def inRd (rs : List Rw) (z : Str) : Bool := repB (Rws.flat rs none 0) z
def qNames (rs : List Rw) : List Str := (qsOf (Rws.flat rs none 0)).map Rw.name
theorem formQ_names {rs : List Rw} {z : Str} : (formQ rs z).isSome = decide (z ∈ qNames rs) := by
  unfold formQ qNames
  induction qsOf (Rws.flat rs none 0) with
  | nil => rfl
  | cons r qs ih =>
    rw [List.find?_cons, List.map_cons]
    by_cases e : r.name = z
    · rw [e]; simp
    · rw [decide_eq_false e]
      rw [ih]
      exact decide_eq_decide.mpr ⟨fun h => List.mem_cons_of_mem _ h, fun h => (List.mem_cons.mp h).resolve_left fun q => e q.symm⟩
theorem formQ_isQ {rs : List Rw} {z : Str} {r : Rw} (h : formQ rs z = some r) : r.isQ = true ∧ r.name = z ∧ r ∈ qsOf (Rws.flat rs none 0) := by
  have h1 := List.find?_some h
  have h2 := List.mem_of_find?_eq_some h
  refine ⟨?_, of_decide_eq_true h1, h2⟩
  obtain ⟨e, _, h3⟩ := List.mem_filterMap.mp h2
  cases hq : e.1.isQ with
  | false => rw [hq] at h3; cases h3
  | true =>
    rw [hq, if_pos rfl] at h3
    rw [← Option.some.inj h3]
    exact hq
/-! ### what a form that is made has been checked for -/
theorem thenF_inv {a b : Option Flt} (h : thenF a b = none) : a = none ∧ b = none := by
  cases a with
  | none => exact ⟨rfl, h⟩
  | some f => cases h
theorem nameF_inv {z : Str} (h : nameF z = none) : isName z = true := by
  unfold nameF at h
  cases hz : isName z with
  | true => rfl
  | false => rw [hz] at h; cases h
theorem namesF_inv : ∀ {os : List Str}, namesF os = none → ∀ o ∈ os, isName o = true
  | [], _, _, h => by cases h
  | z :: r, h, o, ho => by
    obtain ⟨h1, h2⟩ := thenF_inv (show thenF (nameF z) (namesF r) = none from h)
    rcases List.mem_cons.mp ho with rfl | ho
    · exact nameF_inv h1
    · exact namesF_inv h2 o ho
theorem optF_inv {os : List Str} {m : Nat} (h : optF os m = none) : 1 ≤ os.length ∧ os.length ≤ m ∧ ∀ o ∈ os, isName o = true := by
  unfold optF at h
  split at h
  · rename_i c
    exact ⟨c.1, c.2, namesF_inv (thenF_inv h).1⟩
  · cases h
theorem ck_mem : ∀ {F : List (Rw × Option Nat)} {L : AL}, ckRows L F = none → ∀ e ∈ F, ∃ L', ckRow L' e.1 e.2 = none
  | (r, ar) :: F, L, h, e, he => by
    obtain ⟨h1, h2⟩ := thenF_inv (show thenF (ckRow L r ar) (ckRows (if r.isN then L ++ [(r.name, r, ar)] else L) F) = none from h)
    rcases List.mem_cons.mp he with rfl | he
    · exact ⟨L, h1⟩
    · exact ck_mem h2 e he
theorem formF_inv {rs : List Rw} (h : formF rs = none) : 1 ≤ Rws.cnt rs ∧ Rws.cnt rs ≤ 40 ∧ ckRows [] (Rws.flat rs none 0) = none := by
  unfold formF at h
  split at h
  · rename_i c
    exact ⟨c.1, c.2, h⟩
  · cases h
theorem form_row {rs : List Rw} (h : formF rs = none) {e : Rw × Option Nat} (he : e ∈ Rws.flat rs none 0) : (e.1.isN = true → isName e.1.name = true) ∧ e.1.opts.length ≤ 6 ∧ ∀ o ∈ e.1.opts, isName o = true := by
  obtain ⟨L, hc⟩ := ck_mem (formF_inv h).2.2 e he
  obtain ⟨h1, hc⟩ := thenF_inv (show thenF _ _ = none from hc)
  obtain ⟨h2, _⟩ := thenF_inv hc
  refine ⟨fun hn => ?_, ?_⟩
  · unfold ckName at h1
    rw [hn, if_pos rfl] at h1
    exact nameF_inv (thenF_inv h1).1
  · cases hr : e.1 with
    | one n os w =>
      rw [hr] at h2
      obtain ⟨_, b, c⟩ := optF_inv (show optF os 6 = none from h2)
      exact ⟨b, c⟩
    | some n os w =>
      rw [hr] at h2
      obtain ⟨_, b, c⟩ := optF_inv (show optF os 4 = none from h2)
      exact ⟨Nat.le_trans b (by decide), c⟩
    | _ => exact ⟨Nat.zero_le _, fun o h => nomatch h⟩
theorem name_ok {z : Str} (h : isName z = true) : PySem.PyData.strOk z = true ∧ z.length ≤ 8 := by
  unfold isName at h
  obtain ⟨_, h⟩ := Bool.and_eq_true_iff.mp h
  obtain ⟨h8, h⟩ := Bool.and_eq_true_iff.mp h
  refine ⟨?_, of_decide_eq_true h8⟩
  have key : ∀ c : Nat, (decide (c ∈ lets.cps.toList) || decide (c ∈ figs.cps.toList)) = true → c < 0x110000 := by
    have a : ∀ c ∈ lets.cps.toList ++ figs.cps.toList, c < 0x110000 := by decide +kernel
    intro c hc
    rcases Bool.or_eq_true_iff.mp hc with hc | hc
    · exact a c (List.mem_append_left _ (of_decide_eq_true hc))
    · exact a c (List.mem_append_right _ (of_decide_eq_true hc))
  have : z.cps.toList.all (fun c => decide (c < 0x110000)) = true := by
    cases hl : z.cps.toList with
    | nil => rfl
    | cons c r =>
      rw [hl] at h
      obtain ⟨_, h⟩ := Bool.and_eq_true_iff.mp h
      exact List.all_eq_true.mpr fun x hx => decide_eq_true (key x (List.all_eq_true.mp h x hx))
  unfold PySem.PyData.strOk
  rw [← Array.all_toList]
  exact this
theorem form_q {rs : List Rw} (h : formF rs = none) {z : Str} {r : Rw} (hr : formQ rs z = some r) : r.opts.length ≤ 1000 ∧ ∀ o ∈ r.opts, PySem.PyData.strOk o = true := by
  obtain ⟨_, _, hm⟩ := formQ_isQ hr
  obtain ⟨e, he, h3⟩ := List.mem_filterMap.mp hm
  have : e.1 = r := by
    split at h3
    · exact Option.some.inj h3
    · cases h3
  obtain ⟨_, b, c⟩ := form_row h he
  rw [this] at b c
  exact ⟨Nat.le_trans b (by decide), fun o ho => (name_ok (c o ho)).1⟩
/-- a form that was made of the rows rs -/
structure FormO (K : PySem.W.Frag) (H : Hp) (a : Addr) (rs : List Rw) : Prop where
  ok : formF rs = none
  at_ : ∃ dx t d d2 xs kvs kv2, H a = some (.ins (He.ga K "Form") dx [("rows", .ref t), ("questions", .ref d), ("repeated", .ref d2)]) ∧ SqT K H t xs ∧ ROs K H xs rs ∧
    H d = some (.dK kvs) ∧ Paired (QE K H) kvs (qsOf (Rws.flat rs none 0)) ∧ H d2 = some (.dK kv2) ∧ ∀ z, (valV kv2 (Sum.inr z)).isSome = inRd rs z
theorem FormO.same {K : PySem.W.Frag} {H H' : Hp} (e : Same H H') {a : Addr} {rs : List Rw} (h : FormO K H a rs) : FormO K H' a rs := by
  obtain ⟨o, dx, t, d, d2, xs, kvs, kv2, h1, h2, h3, h4, h5, h6, h7⟩ := h
  exact ⟨o, dx, t, d, d2, xs, kvs, kv2, e _ _ h1, e.sqt h2, ROs.same e h3, e _ _ h4, L2.Paired.mapP h5 fun _ _ z => ⟨z.1, RO.same e z.2⟩, e _ _ h6, h7⟩
theorem qe_val {K : PySem.W.Frag} {H : Hp} {z : Str} : ∀ {kvs : List (Key × V)} {qs : List Rw}, Paired (QE K H) kvs qs → match qs.find? fun r => decide (r.name = z) with
    | some r => ∃ v, valV kvs (Sum.inr z) = some v ∧ RO K H v r
    | none => valV kvs (Sum.inr z) = none
  | _, _, .nil => rfl
  | _, _, .cons (a := kv) (b := r) h t => by
    rw [List.find?_cons]
    by_cases e : r.name = z
    · rw [decide_eq_true e]
      exact ⟨kv.2, valV_pos (by rw [h.1, e]), h.2⟩
    · rw [decide_eq_false e]
      have ne : ¬ kv.1 = Sum.inr z := by rw [h.1]; exact fun q => e (Sum.inr.inj q)
      have ih := qe_val (z := z) t
      dsimp only
      split
      · rename_i r' hr
        rw [hr] at ih
        obtain ⟨v, h1, h2⟩ := ih
        exact ⟨v, by rw [valV_neg ne]; exact h1, h2⟩
      · rename_i hr
        rw [hr] at ih
        rw [valV_neg ne]
        exact ih
theorem qe_keys {K : PySem.W.Frag} {H : Hp} : ∀ {kvs : List (Key × V)} {qs : List Rw}, Paired (QE K H) kvs qs → kvs.map (fun kv => kV kv.1) = (qs.map Rw.name).map V.str
  | _, _, .nil => rfl
  | _, _, .cons h t => by rw [List.map_cons, List.map_cons, List.map_cons, qe_keys t, h.1]; rfl
def spNames (K : PySem.W.Frag) : Sp := fun vs H Q _ => ∃ (a : Addr) (rs : List Rw), vs = [.ref a] ∧ FormO K H a rs ∧ ∀ p H', Same H H' → H p = none → H' p = some (.lst ((qNames rs).map V.str)) → Q (.ref p) H'
def spQuestion (K : PySem.W.Frag) : Sp := fun vs H Q E => ∃ (a : Addr) (z : Str) (rs : List Rw), vs = [.ref a, .str z] ∧ FormO K H a rs ∧ match formQ rs z with
  | some r => ∀ v H', Same H H' → RO K H v r → Q v H'
  | none => ∀ cls d H', Same H H' → IsF K (.quest z) cls d H' → E cls d H'
def spInRd (K : PySem.W.Frag) : Sp := fun vs H Q _ => ∃ (a : Addr) (z : Str) (rs : List Rw), vs = [.ref a, .str z] ∧ FormO K H a rs ∧ ∀ H', Same H H' → Q (.bl (inRd rs z)) H'
def spHasQ (K : PySem.W.Frag) : Sp := fun vs H Q _ => ∃ (a : Addr) (z : Str) (rs : List Rw), vs = [.ref a, .str z] ∧ FormO K H a rs ∧ ∀ H', Same H H' → Q (.bl (formQ rs z).isSome) H'
/-- whether an answer fits the form's question at its spot -/
def belB (rs : List Rw) (n : Str) (k : Int) (x : An) : Bool := match formQ rs n with
  | none => false
  | some r => (inRd rs n == decide (k ≠ 0)) && r.ans x
def SpotAt (H : Hp) (v : V) (s : Str × Int) : Prop := ∃ p, v = .ref p ∧ H p = some (.tup [.str s.1, .int s.2])
theorem SpotAt.same {H H' : Hp} (e : Same H H') {v : V} {s : Str × Int} (h : SpotAt H v s) : SpotAt H' v s := let ⟨p, h1, h2⟩ := h; ⟨p, h1, e _ _ h2⟩
def spBelongs (K : PySem.W.Frag) : Sp := fun vs H Q _ => ∃ (sv v : V) (a : Addr) (s : Str × Int) (x : An) (rs : List Rw), vs = [sv, v, .ref a] ∧ SpotAt H sv s ∧ AnO H v x ∧ x.ok ∧ FormO K H a rs ∧ ∀ H', Same H H' → Q (.bl (belB rs s.1 s.2 x)) H'
section
variable {P : Program} {w : World} {K : PySem.W.Frag} {mg : Str → Option Value} {base : Heap}
theorem sc_Form_names : FnScope ["self"] ["self"] (defScope s_Form_names) := ⟨rfl, rfl, rfl, by decide +kernel, rfl, by decide +kernel, by decide +kernel⟩
theorem ok_Form_names (T : Tx K mg) : Ok P w K mg base 1 (He.ma K (He.ga K "Form") "names") ["self"] (spNames K) := by
  obtain ⟨fd, F⟩ := T.f_Form_names
  refine ⟨fd, F.ok (k := 0) sc_Form_names (fun vs H Q E h => ?_) (fun cdv A outer s_ H vs Q E hr h => ?_), F.bindsN fun _ _ _ _ _ _ us hl => match us, hl with | [_], _ => rfl, F.kp⟩
  · obtain ⟨a, rs, rfl, hf, q⟩ := h
    rfl
  obtain ⟨a, rs, rfl, hf, q⟩ := h
  have hu65 := K3.Room.units65 hr
  have hu70 := K3.Room.units70 hr
  have hu4 := K3.Room.units4 hr
  have hu64 := Nat.lt_of_succ_lt hu65
  have hu0 := Nat.lt_of_le_of_lt (Nat.le_add_right _ 65) hu65
  have hu1 := Nat.lt_of_le_of_lt (Nat.add_le_add_left (show 1 ≤ 65 by decide) _) hu65
  refine ⟨_, pss_one (ps_ret (pe_callTy (call_list_dK (by rfl)) (by rfl) T.z_list (by decide +kernel) (pa_cons (pe_fld (pv 0) rfl) pa_nil))), ?_⟩
  obtain ⟨hok, dx, t, d, d2, xs, kvs, kv2, h1, h2, h3, h4, h5, h6, h7⟩ := hf
  walk_at "go"
  refine ⟨a, _, dx, _, _, rfl, h1, T.cl_Form, T.n_Form_questions, rfl, ?_⟩
  walk_at "go"
  refine ⟨d, kvs, rfl, h4, fun p hp => ?_⟩
  refine q p _ (Same.new hp _) hp ?_
  rw [upd_same, qe_keys h5]
  rfl
theorem sc_Form_in_rounds : FnScope ["self", "name"] ["self", "name"] (defScope s_Form_in_rounds) := ⟨rfl, rfl, rfl, by decide +kernel, rfl, by decide +kernel, by decide +kernel⟩
theorem ok_Form_in_rounds (T : Tx K mg) : Ok P w K mg base 1 (He.ma K (He.ga K "Form") "in_rounds") ["self", "name"] (spInRd K) := by
  obtain ⟨fd, F⟩ := T.f_Form_in_rounds
  refine ⟨fd, F.ok (k := 0) sc_Form_in_rounds (fun vs H Q E h => ?_) (fun cdv A outer s_ H vs Q E hr h => ?_), F.bindsN fun _ _ _ _ _ _ us hl => match us, hl with | [_, _], _ => rfl, F.kp⟩
  · obtain ⟨a, z, rs, rfl, hf, q⟩ := h
    rfl
  obtain ⟨a, z, rs, rfl, hf, q⟩ := h
  have hu65 := K3.Room.units65 hr
  have hu70 := K3.Room.units70 hr
  have hu4 := K3.Room.units4 hr
  have hu64 := Nat.lt_of_succ_lt hu65
  have hu0 := Nat.lt_of_le_of_lt (Nat.le_add_right _ 65) hu65
  have hu1 := Nat.lt_of_le_of_lt (Nat.add_le_add_left (show 1 ≤ 65 by decide) _) hu65
  refine ⟨_, pss_one (ps_ret (pe_cmp (pc_din hu1 (pv 1) (pe_fld (pv 0) rfl)) rfl)), ?_⟩
  obtain ⟨hok, dx, t, d, d2, xs, kvs, kv2, h1, h2, h3, h4, h5, h6, h7⟩ := hf
  walk_at "go"
  refine ⟨a, _, dx, _, _, rfl, h1, T.cl_Form, T.n_Form_repeated, rfl, ?_⟩
  refine ⟨d2, _, rfl, DGet.k (k := Sum.inr z) h6, ?_⟩
  rw [h7]
  exact q _ (Same.refl _)
theorem sc_Form_question : FnScope ["self", "name"] ["self", "name"] (defScope s_Form_question) := ⟨rfl, rfl, rfl, by decide +kernel, rfl, by decide +kernel, by decide +kernel⟩
theorem ok_Form_question (T : Tx K mg) : Ok P w K mg base 3 (He.ma K (He.ga K "Form") "question") ["self", "name"] (spQuestion K) := by
  obtain ⟨fd, F⟩ := T.f_Form_question
  refine ⟨fd, F.ok (k := 2) sc_Form_question (fun vs H Q E h => ?_) (fun cdv A outer s_ H vs Q E hr h => ?_), F.bindsN fun _ _ _ _ _ _ us hl => match us, hl with | [_, _], _ => rfl, F.kp⟩
  · obtain ⟨a, z, rs, rfl, hf, q⟩ := h
    rfl
  obtain ⟨a, z, rs, rfl, hf, q⟩ := h
  have hu65 := K3.Room.units65 hr
  have hu70 := K3.Room.units70 hr
  have hu4 := K3.Room.units4 hr
  have hu64 := Nat.lt_of_succ_lt hu65
  have hu0 := Nat.lt_of_le_of_lt (Nat.le_add_right _ 65) hu65
  have hu1 := Nat.lt_of_le_of_lt (Nat.add_le_add_left (show 1 ≤ 65 by decide) _) hu65
  refine ⟨_, pss_cons (ps_if (pt_cmp (pc_dnotin hu1 (pv 1) (pe_fld (pv 0) rfl))) (pss_one (ps_err1 (T.err (x := "NoQuestion") (by decide)) T.m_NoQuestion_init (ok_NoQuestion T) (hr.mono (by omega)) T.g_NoQuestion (takes_of rfl rfl rfl rfl) (pv 1))) pss_nil)
      (pss_one (ps_ret (pe_dget hu1 (pe_fld (pv 0) rfl) (pv 1) (fun _ _ => rfl)))), ?_⟩
  obtain ⟨hok, dx, t, d, d2, xs, kvs, kv2, h1, h2, h3, h4, h5, h6, h7⟩ := hf
  have qv := qe_val (z := z) h5
  walk_at "go"
  refine ⟨a, _, dx, _, _, rfl, h1, T.cl_Form, T.n_Form_questions, rfl, ?_⟩
  refine ⟨d, _, rfl, DGet.k (k := Sum.inr z) h4, ?_⟩
  unfold formQ at q
  cases hf : (qsOf (Rws.flat rs none 0)).find? fun r => decide (r.name = z) with
  | some r =>
    rw [hf] at q qv
    obtain ⟨v, hv, hr0⟩ := qv
    rw [hv]
    refine ⟨_, rfl, ?_⟩
    show if false = true then _ else _
    walk_at "go"
    refine ⟨a, _, dx, _, _, rfl, h1, T.cl_Form, T.n_Form_questions, rfl, ?_⟩
    walk_at "go"
    refine ⟨d, v, rfl, hv ▸ DGet.k (k := Sum.inr z) h4, ?_⟩
    exact q v H (Same.refl _) hr0
  | none =>
    rw [hf] at q qv
    rw [qv]
    refine ⟨_, rfl, ?_⟩
    show if true = true then _ else _
    walk_at "go"
    refine w_err1 ?_
    walk_at "go"
    exact gErr1_of fun d' H2 e2 h2 => q _ _ H2 e2 ⟨rfl, d', rfl, h2⟩
theorem sc_has_question : FnScope ["form", "name"] ["form", "name"] (defScope s_has_question) := ⟨rfl, rfl, rfl, by decide +kernel, rfl, by decide +kernel, by decide +kernel⟩
theorem ok_has_question (T : Tx K mg) : Ok P w K mg base 2 (He.ga K "has_question") ["form", "name"] (spHasQ K) := by
  obtain ⟨fd, F⟩ := T.f_has_question
  have OMnames := ok_Form_names (P := P) (w := w) (base := base) T
  refine ⟨fd, F.ok (k := 1) sc_has_question (fun vs H Q E h => ?_) (fun cdv A outer s_ H vs Q E hr h => ?_), F.bindsN fun _ _ _ _ _ _ us hl => match us, hl with | [_, _], _ => rfl, F.kp⟩
  · obtain ⟨a, z, rs, rfl, hf, q⟩ := h
    rfl
  obtain ⟨a, z, rs, rfl, hf, q⟩ := h
  have hu65 := K3.Room.units65 hr
  have hu70 := K3.Room.units70 hr
  have hu4 := K3.Room.units4 hr
  have hu64 := Nat.lt_of_succ_lt hu65
  have hu0 := Nat.lt_of_le_of_lt (Nat.le_add_right _ 65) hu65
  have hu1 := Nat.lt_of_le_of_lt (Nat.add_le_add_left (show 1 ≤ 65 by decide) _) hu65
  have rMnames : Room 1 _ := hr.mono (by decide)
  refine ⟨_, pss_one (ps_ret (pe_cmpR op_in_seq (pv 1) (pe_mO0 OMnames rMnames T.cl_Form T.m_Form_names (pv 0)) rfl)), ?_⟩
  walk_at "go"
  obtain ⟨hok, dx, t, d, d2, xs, kvs, kv2, h1, _⟩ := id hf
  refine ⟨a, dx, _, rfl, h1, rfl, ?_⟩
  walk_at "go"
  refine ⟨a, rs, rfl, hf, fun p H1 e1 _ hp => ?_⟩
  refine ⟨p, _, rfl, .inl (SqL.of hp), rfl, flat_strs _, ?_⟩
  show Q (.bl (inV (.str z) _)) H1
  rw [inV_strs, ← formQ_names]
  exact q H1 e1
theorem sc_belongs : FnScope ["spot", "answer", "form", "name", "k"] ["spot", "answer", "form"] (defScope s_belongs) := ⟨rfl, rfl, rfl, by decide +kernel, rfl, by decide +kernel, by decide +kernel⟩
theorem ok_belongs (T : Tx K mg) : Ok P w K mg base 4 (He.ga K "belongs") ["spot", "answer", "form"] (spBelongs K) := by
  obtain ⟨fd, F⟩ := T.f_belongs
  have Ois_answer := ok_is_answer (P := P) (w := w) (base := base) T
  have Ohas_question := ok_has_question (P := P) (w := w) (base := base) T
  have OMquestion := ok_Form_question (P := P) (w := w) (base := base) T
  have OMin_rounds := ok_Form_in_rounds (P := P) (w := w) (base := base) T
  refine ⟨fd, F.ok (k := 3) sc_belongs (fun vs H Q E h => ?_) (fun cdv A outer s_ H vs Q E hr h => ?_), F.bindsN fun _ _ _ _ _ _ us hl => match us, hl with | [_, _, _], _ => rfl, F.kp⟩
  · obtain ⟨sv, v, a, s, x, rs, rfl, hs, hx, xo, hf, q⟩ := h
    rfl
  obtain ⟨sv, v, a, s, x, rs, rfl, hs, hx, xo, hf, q⟩ := h
  have hu65 := K3.Room.units65 hr
  have hu70 := K3.Room.units70 hr
  have hu4 := K3.Room.units4 hr
  have hu64 := Nat.lt_of_succ_lt hu65
  have hu0 := Nat.lt_of_le_of_lt (Nat.le_add_right _ 65) hu65
  have hu1 := Nat.lt_of_le_of_lt (Nat.add_le_add_left (show 1 ≤ 65 by decide) _) hu65
  have ris_answer : Room 2 _ := hr.mono (by decide)
  have rhas_question : Room 2 _ := hr.mono (by decide)
  have rMquestion : Room 3 _ := hr.mono (by decide)
  have rMin_rounds : Room 1 _ := hr.mono (by decide)
  refine ⟨_, pss_cons (ps_asg (pv 0) (pg_tup (by rfl) (pgs_cons (pg_name (i := 3) sc_belongs.nd rfl (Or.inl rfl)) (pgs_cons (pg_name (i := 4) sc_belongs.nd rfl (Or.inl rfl)) pgs_nil))))
      (pss_cons (ps_if (pt_not (pt_val (pe_f Ohas_question rhas_question T.g_has_question (pa_cons (pv 2) (pa_cons (pv 3) pa_nil))))) (pss_one (ps_ret pe_bl)) pss_nil)
      (pss_one (ps_ret (pe_and (pe_cmpR op_eq (pe_mO OMin_rounds rMin_rounds T.cl_Form T.m_Form_in_rounds (pv 2) (pa_cons (pv 3) pa_nil)) (pe_cmpR op_ne (pv 4) pe_int rfl) rfl) (pe_one (pe_f Ois_answer ris_answer T.g_is_answer (pa_cons (pe_mO OMquestion rMquestion T.cl_Form T.m_Form_question (pv 2) (pa_cons (pv 3) pa_nil)) (pa_cons (pv 1) pa_nil)))))))), ?_⟩
  walk_at "go"
  obtain ⟨p, rfl, hp⟩ := id hs
  refine ⟨p, _, rfl, SqT.of hp, rfl, _, _, rfl, ?_⟩
  walk_at "go"
  refine ⟨_, _, rfl, ?_⟩
  walk_at "go"
  refine ⟨rfl, ?_⟩
  walk_at "go"
  refine ⟨a, s.1, rs, rfl, hf, fun H1 e1 => ?_⟩
  have hf1 := hf.same e1
  obtain ⟨hok, dx, t, d, d2, xs, kvs, kv2, h1, _⟩ := id hf1
  have q1 := q H1 e1
  unfold belB at q1
  cases hq : formQ rs s.1 with
  | none =>
    rw [hq] at q1
    refine ⟨false, rfl, ?_⟩
    walk_at "go"
    exact q1
  | some r =>
    rw [hq] at q1
    refine ⟨true, rfl, ?_⟩
    walk_at "go"
    refine ⟨a, dx, _, rfl, h1, rfl, ?_⟩
    walk_at "go"
    refine ⟨a, s.1, rs, rfl, hf1, fun H2 e2 => ?_⟩
    walk_at "go"
    refine ⟨rfl, ⟨rfl, ?_⟩⟩
    have e12 := e1.trans e2
    have ek : decide (V.bl (inRd rs s.1) = V.bl (!decide (V.int s.2 = V.int 0))) = (inRd rs s.1 == decide (s.2 ≠ 0)) := by
      have : (!decide (V.int s.2 = V.int 0)) = decide (s.2 ≠ 0) := by
        by_cases c : s.2 = 0
        · rw [c]; rfl
        · rw [decide_eq_true c, decide_eq_false (fun z => c (V.int.inj z))]; rfl
      rw [this]
      cases inRd rs s.1 <;> cases decide (s.2 ≠ 0) <;> rfl
    rw [ek]
    refine ⟨_, rfl, ?_⟩
    have hf2 := hf1.same e2
    cases hb : (inRd rs s.1 == decide (s.2 ≠ 0)) with
    | false =>
      walk_at "go"
      have := q H2 e12
      unfold belB at this
      rw [hq] at this
      dsimp only at this
      rw [hb, Bool.false_and] at this
      exact this
    | true =>
      walk_at "go"
      obtain ⟨hok, dx, t, d, d2, xs, kvs, kv2, h1, _⟩ := id hf2
      refine ⟨a, dx, _, rfl, h1, rfl, ?_⟩
      walk_at "go"
      refine ⟨a, s.1, rs, rfl, hf2, ?_⟩
      rw [hq]
      intro qv H3 e3 hr3
      walk_at "go"
      obtain ⟨b1, b2⟩ := form_q hok hq
      refine ⟨qv, v, r, x, rfl, RO.same e3 hr3, (formQ_isQ hq).1, hx.same (e12.trans e3), xo, b1, b2, fun H4 e4 => ?_⟩
      have := q H4 ((e12.trans e3).trans e4)
      unfold belB at this
      rw [hq] at this
      dsimp only at this
      rw [hb, Bool.true_and] at this
      exact this
end
end K3
end Q2_part
section Q3_part
set_option Elab.async false
set_option linter.all false
set_option maxRecDepth 100000
set_option maxHeartbeats 1000000
set_option pp.deepTerms.threshold 5
open PySem PySem.Spec PyProof.Rows L2
/-- go on as far as nothing is open -/
local macro_rules | `(tactic| walk_at "go") => `(tactic| repeat (first
  | with_reducible refine w_seq ?_ | with_reducible refine w_next ?_ | with_reducible refine w_set ?_ | with_reducible refine w_drop ?_ | with_reducible refine w_ret ?_ | with_reducible refine w_retN ?_
  | with_reducible refine w_if ?_ | ((with_reducible refine' w_var ?hv ?_); (case hv => exact rfl)) | with_reducible refine w_c ?_ | with_reducible refine w_nil ?_ | with_reducible refine w_cons ?_ | with_reducible refine w_op ?_ | with_reducible refine w_un ?_
  | with_reducible refine w_test ?_ | with_reducible refine w_tB ?_ | with_reducible refine w_not ?_ | with_reducible refine w_and ?_ | with_reducible refine w_or ?_ | with_reducible refine w_bl ?_
  | with_reducible refine w_andV ?_ | with_reducible refine w_orV ?_ | with_reducible refine w_notV ?_ | with_reducible refine w_ifE ?_ | with_reducible refine w_chain ?_ | with_reducible refine w_i0 ?_
  | with_reducible refine w_call ?_ | with_reducible refine w_callS ?_ | with_reducible refine w_cB ?_ | with_reducible refine w_tup ?_ | with_reducible refine w_lst ?_ | with_reducible refine w_fldV ?_
  | with_reducible refine w_neF ?_ | with_reducible refine w_neT ?_ | with_reducible refine w_notN ?_ | with_reducible refine w_isN ?_ | with_reducible refine w_gname ?_ | with_reducible refine w_gsub ?_ | with_reducible refine w_asg ?_ | with_reducible refine w_sl ?_ | with_reducible refine w_noP ?_ | with_reducible refine w_int1 ?_ | with_reducible refine w_part ?_ | with_reducible refine w_meth ?_ | with_reducible refine w_din ?_ | with_reducible refine w_dnotin ?_ | with_reducible refine w_dgt ?_ | with_reducible refine w_dget1 ?_ | with_reducible refine w_dget2 ?_ | with_reducible refine w_dput ?_ | with_reducible refine w_yes ?_ | with_reducible refine w_nT ?_ | with_reducible refine w_nF ?_ | with_reducible refine w_iteT ?_ | with_reducible refine w_iteF ?_))
namespace K3
/-! ### answers by their spots -/
abbrev Spot := Str × Int
abbrev Ans := List (Spot × An)
def keyOf (s : Spot) : List Key := [Sum.inr s.1, Sum.inl s.2]
theorem keyOf_inj {s t : Spot} (h : keyOf s = keyOf t) : s = t := by
  unfold keyOf at h
  simp only [List.cons.injEq, Sum.inr.injEq, Sum.inl.injEq, and_true] at h
  exact Prod.ext h.1 h.2
def EN (H : Hp) (kv : List Key × V) (x : Spot × An) : Prop := kv.1 = keyOf x.1 ∧ AnO H kv.2 x.2 ∧ x.2.ok
def lookA (al : Ans) (s : Spot) : Option An := (al.find? fun y => decide (y.1 = s)).map (·.2)
def putA (al : Ans) (s : Spot) (x : An) : Ans := if (lookA al s).isSome then al.map (fun y => if y.1 = s then (y.1, x) else y) else al ++ [(s, x)]
/-- all but the tuples' dicts stands -/
def NT (H H' : Hp) : Prop := ∀ b o, (∀ kvs, o ≠ .dT kvs) → H b = some o → H' b = some o
theorem Same.nt {H H' : Hp} (e : Same H H') : NT H H' := fun b o _ h => e b o h
theorem NT.trans {H H1 H2 : Hp} (a : NT H H1) (b : NT H1 H2) : NT H H2 := fun c o n h => b c o n (a c o n h)
theorem NT.si {H H' : Hp} (e : NT H H') : SI H H' := fun b o k h => e b o (fun kvs z => by rw [z] at k; cases k) h
theorem NT.upd {H : Hp} {d : Addr} {kvs : List (List Key × V)} (h : H d = some (.dT kvs)) (o : HO) : NT H (L2.upd H d o) := fun b u n q => by
  rw [upd_ne (fun z => by rw [z, h] at q; exact n kvs (Option.some.inj q).symm)]
  exact q
theorem AnO.nt {H H' : Hp} (e : NT H H') {v : V} {x : An} (h : AnO H v x) : AnO H' v x := by
  cases h with
  | str => exact .str _
  | int => exact .int _
  | bl => exact .bl _
  | non => exact .non
  | tup h => exact .tup (e _ _ (fun _ z => nomatch z) h)
theorem AnO.keep {H H' : Hp} (k : ∀ c xs, H c = some (.tup xs) → H' c = some (.tup xs)) {v : V} {x : An} (h : AnO H v x) : AnO H' v x := by
  cases h with
  | str => exact .str _
  | int => exact .int _
  | bl => exact .bl _
  | non => exact .non
  | tup h => exact .tup (k _ _ h)
theorem SqT.nt {K : PySem.W.Frag} {H H' : Hp} (e : NT H H') {a : Addr} {xs : List V} (h : SqT K H a xs) : SqT K H' a xs := e.si.sqt h
theorem SpotAt.nt {H H' : Hp} (e : NT H H') {v : V} {s : Spot} (h : SpotAt H v s) : SpotAt H' v s := let ⟨p, h1, h2⟩ := h; ⟨p, h1, e _ _ (fun _ z => nomatch z) h2⟩
theorem FormO.nt {K : PySem.W.Frag} {H H' : Hp} (e : NT H H') {a : Addr} {rs : List Rw} (h : FormO K H a rs) : FormO K H' a rs := by
  obtain ⟨o, dx, t, d, d2, xs, kvs, kv2, h1, h2, h3, h4, h5, h6, h7⟩ := h
  exact ⟨o, dx, t, d, d2, xs, kvs, kv2, e _ _ (fun _ z => nomatch z) h1, e.si.sqt h2, ROs.si e.si h3, e _ _ (fun _ z => nomatch z) h4, L2.Paired.mapP h5 fun _ _ z => ⟨z.1, RO.si e.si z.2⟩, e _ _ (fun _ z => nomatch z) h6, h7⟩
theorem EN.keep {H H' : Hp} (k : ∀ c xs, H c = some (.tup xs) → H' c = some (.tup xs)) {kv : List Key × V} {x : Spot × An} (h : EN H kv x) : EN H' kv x := ⟨h.1, h.2.1.keep k, h.2.2⟩
theorem EN.nt {H H' : Hp} (e : NT H H') {kv : List Key × V} {x : Spot × An} (h : EN H kv x) : EN H' kv x := ⟨h.1, h.2.1.nt e, h.2.2⟩
/-- answers by their spots, in a dict at d -/
structure AD (H : Hp) (d : Addr) (kvs : List (List Key × V)) (al : Ans) : Prop where
  ents : Paired (EN H) kvs al
  nd : (al.map (·.1)).Nodup
theorem AD.nt {H H' : Hp} (e : NT H H') {d : Addr} {kvs : List (List Key × V)} {al : Ans} (h : AD H d kvs al) : AD H' d kvs al := ⟨L2.Paired.mapP h.ents fun _ _ z => z.nt e, h.nd⟩
theorem en_val {H : Hp} {s : Spot} : ∀ {kvs : List (List Key × V)} {al : Ans}, Paired (EN H) kvs al → match lookA al s with
    | some x => ∃ v, valV kvs (keyOf s) = some v ∧ AnO H v x ∧ x.ok
    | none => valV kvs (keyOf s) = none
  | _, _, .nil => rfl
  | _, _, .cons (a := kv) (b := y) h t => by
    unfold lookA
    rw [List.find?_cons]
    by_cases e : y.1 = s
    · rw [decide_eq_true e]
      exact ⟨kv.2, valV_pos (by rw [h.1, e]), h.2.1, h.2.2⟩
    · rw [decide_eq_false e]
      have ne : ¬ kv.1 = keyOf s := by rw [h.1]; exact fun q => e (keyOf_inj q)
      have ih := en_val (s := s) t
      rw [valV_neg ne]
      exact ih
theorem en_put {H : Hp} {kvs : List (List Key × V)} {al : Ans} {s : Spot} {v : V} {x : An} (h : Paired (EN H) kvs al) (hv : AnO H v x) (hx : x.ok) : Paired (EN H) (putK kvs (keyOf s) v) (putA al s x) := by
  have e : (kvs.any fun kv => decide (kv.1 = keyOf s)) = (lookA al s).isSome := by
    rw [valV_any]
    have := en_val (s := s) h
    cases hl : lookA al s with
    | none => rw [hl] at this; rw [this]; rfl
    | some y => rw [hl] at this; obtain ⟨u, hu, _⟩ := this; rw [hu]; rfl
  unfold putK putA
  rw [e]
  by_cases c : (lookA al s).isSome = true
  · rw [if_pos c, if_pos c]
    clear e c
    induction h with
    | nil => exact .nil
    | @cons kv y kvs al g _ ih =>
      rw [List.map_cons, List.map_cons]
      refine .cons ?_ ih
      by_cases k : y.1 = s
      · rw [if_pos k, if_pos (show kv.1 = keyOf s by rw [g.1, k])]
        exact ⟨g.1, hv, hx⟩
      · rw [if_neg k, if_neg (show ¬ kv.1 = keyOf s by rw [g.1]; exact fun q => k (keyOf_inj q))]
        exact g
  · rw [if_neg c, if_neg c]
    exact K3.Paired.app h (.cons ⟨rfl, hv, hx⟩ .nil)
theorem look_mem {al : Ans} {s : Spot} (h : lookA al s = none) : s ∉ al.map (·.1) := by
  intro z
  obtain ⟨y, hy, e⟩ := List.mem_map.mp z
  unfold lookA at h
  rw [Option.map_eq_none_iff, List.find?_eq_none] at h
  exact h y hy (decide_eq_true e)
theorem put_keys {al : Ans} {s : Spot} {x : An} : (putA al s x).map (·.1) = if (lookA al s).isSome then al.map (·.1) else al.map (·.1) ++ [s] := by
  unfold putA
  split
  · rw [List.map_map]
    congr 1
    funext y
    show (if y.1 = s then (y.1, x) else y).1 = y.1
    split <;> rfl
  · rw [List.map_append]
    rfl
theorem put_nd {al : Ans} {s : Spot} {x : An} (h : (al.map (·.1)).Nodup) : ((putA al s x).map (·.1)).Nodup := by
  rw [put_keys]
  split
  · exact h
  · rename_i c
    refine nodup_snoc h (look_mem ?_)
    cases e : lookA al s with
    | none => rfl
    | some y => rw [e] at c; exact absurd rfl c
theorem put_len {al : Ans} {s : Spot} {x : An} : (putA al s x).length ≤ al.length + 1 := by
  unfold putA
  split
  · rw [List.length_map]; omega
  · rw [List.length_append]; exact Nat.le_refl _
theorem look_at {al : Ans} (nd : (al.map (·.1)).Nodup) {i : Nat} {y : Spot × An} (h : al[i]? = some y) : lookA al y.1 = some y.2 := by
  induction al generalizing i with
  | nil => simp at h
  | cons z al ih =>
    rw [List.map_cons, List.nodup_cons] at nd
    unfold lookA
    rw [List.find?_cons]
    cases i with
    | zero =>
      have e : z = y := by simpa using h
      subst e
      simp
    | succ i =>
      have h' : al[i]? = some y := by simpa using h
      have ne : ¬ z.1 = y.1 := fun q => nd.1 (q ▸ List.mem_map_of_mem (List.mem_of_getElem? h'))
      rw [decide_eq_false ne]
      exact ih nd.2 h'
theorem val_at {H : Hp} {kvs : List (List Key × V)} {al : Ans} (nd : (al.map (·.1)).Nodup) (h : Paired (EN H) kvs al) {i : Nat} {k : List Key} {v : V} {y : Spot × An} (hk : kvs[i]? = some (k, v)) (hy : al[i]? = some y) : valV kvs (keyOf y.1) = some v := by
  induction h generalizing i with
  | nil => simp at hk
  | @cons kv z kvs al g _ ih =>
    rw [List.map_cons, List.nodup_cons] at nd
    cases i with
    | zero =>
      have e1 : kv = (k, v) := by simpa using hk
      have e2 : z = y := by simpa using hy
      subst e1 e2
      exact valV_pos g.1
    | succ i =>
      have h2 : al[i]? = some y := by simpa using hy
      have ne : ¬ kv.1 = keyOf y.1 := by rw [g.1]; exact fun q => nd.1 (keyOf_inj q ▸ List.mem_map_of_mem (List.mem_of_getElem? h2))
      rw [valV_neg ne]
      exact ih nd.2 (by simpa using hk) h2
theorem DGet.tf {H : Hp} {a b : Addr} {kvs : List (List Key × V)} {k : List Key} (e : Rd H a (.dT kvs)) (eb : H b = some (.tup (k.map kV))) : DGet H a (.ref b) (valV kvs k) := .inr ⟨kvs, k, b, e, rfl, eb, rfl⟩
/-- what the question old is called -/
def newOf (cs : List (Str × Str)) (z : Str) : Option Str := (cs.reverse.find? fun c => decide (c.1 = z)).map (·.2)
def stepA (cs : List (Str × Str)) (acc : Ans) (y : Spot × An) : Ans := match newOf cs y.1.1 with
  | some n => putA acc (n, y.1.2) y.2
  | none => if y.1.1 ∈ cs.map (·.2) then acc else putA acc y.1 y.2
def calledF (cs : List (Str × Str)) (al : Ans) : Ans := al.foldl (stepA cs) []
/-- an edition's number, rows and calls -/
structure Ed where
  num : Int
  rs : List Rw
  cs : List (Str × Str)
def ledF (al : Ans) (e : Ed) : Ans := (calledF e.cs al).filter fun y => belB e.rs y.1.1 y.1.2 y.2
theorem newOf_take {cs : List (Str × Str)} {i : Nat} {c : Str × Str} (h : cs[i]? = some c) (z : Str) : newOf (cs.take (i + 1)) z = if c.1 = z then some c.2 else newOf (cs.take i) z := by
  unfold newOf
  rw [List.take_add_one, h]
  show (((cs.take i ++ [c]).reverse).find? _).map _ = _
  rw [List.reverse_append, List.reverse_singleton, List.singleton_append, List.find?_cons]
  by_cases e : c.1 = z
  · rw [decide_eq_true e, if_pos e]; rfl
  · rw [decide_eq_false e, if_neg e]
structure CallsO (K : PySem.W.Frag) (H : Hp) (t : Addr) (cs : List (Str × Str)) : Prop where
  at_ : ∃ ps : List Addr, SqT K H t (ps.map V.ref) ∧ Paired (fun p c => SqT K H p [.str c.1, .str c.2]) ps cs
theorem CallsO.nt {K : PySem.W.Frag} {H H' : Hp} (e : NT H H') {t : Addr} {cs : List (Str × Str)} (h : CallsO K H t cs) : CallsO K H' t cs := let ⟨ps, h1, h2⟩ := h.at_; ⟨ps, SqT.nt e h1, L2.Paired.mapP h2 fun _ _ z => SqT.nt e z⟩
theorem CallsO.same {K : PySem.W.Frag} {H H' : Hp} (e : Same H H') {t : Addr} {cs : List (Str × Str)} (h : CallsO K H t cs) : CallsO K H' t cs := h.nt (Same.nt e)
structure EdO (K : PySem.W.Frag) (H : Hp) (a : Addr) (e : Ed) : Prop where
  at_ : ∃ dx f t, H a = some (.ins (He.ga K "Edition") dx [("number", .int e.num), ("form", .ref f), ("calls", .ref t)]) ∧ FormO K H f e.rs ∧ CallsO K H t e.cs
  few : e.cs.length ≤ 1000
theorem EdO.nt {K : PySem.W.Frag} {H H' : Hp} (k : NT H H') {a : Addr} {e : Ed} (h : EdO K H a e) : EdO K H' a e := by
  obtain ⟨⟨dx, f, t, h1, h2, h3⟩, h4⟩ := h
  exact ⟨⟨dx, f, t, k _ _ (fun _ z => nomatch z) h1, h2.nt k, h3.nt k⟩, h4⟩
theorem EdO.same {K : PySem.W.Frag} {H H' : Hp} (k : Same H H') {a : Addr} {e : Ed} (h : EdO K H a e) : EdO K H' a e := h.nt (Same.nt k)
/-- what is told is a new dict of these -/
def RetA (al : Ans) (H : Hp) (Q : VK) : Prop := ∀ p H' kvs, Same H H' → H p = none → H' p = some (.dT kvs) → AD H' p kvs al → Q (.ref p) H'
def spCalled (K : PySem.W.Frag) : Sp := fun vs H Q _ => ∃ (d t : Addr) (kvs : List (List Key × V)) (al : Ans) (cs : List (Str × Str)), vs = [.ref d, .ref t] ∧ H d = some (.dT kvs) ∧ AD H d kvs al ∧ al.length ≤ 10000 ∧ CallsO K H t cs ∧ cs.length ≤ 1000 ∧ RetA (calledF cs al) H Q
def spLed (K : PySem.W.Frag) : Sp := fun vs H Q _ => ∃ (d a : Addr) (kvs : List (List Key × V)) (al : Ans) (e : Ed), vs = [.ref d, .ref a] ∧ H d = some (.dT kvs) ∧ AD H d kvs al ∧ al.length ≤ 10000 ∧ EdO K H a e ∧ RetA (ledF al e) H Q
def spLedOver (K : PySem.W.Frag) : Sp := fun vs H Q _ => ∃ (d l : Addr) (kvs : List (List Key × V)) (al : Ans) (as : List V) (es : List Ed), vs = [.ref d, .ref l] ∧ H d = some (.dT kvs) ∧ AD H d kvs al ∧ al.length ≤ 10000 ∧ SqE K H l as ∧ Paired (fun v e => ∃ a, v = .ref a ∧ EdO K H a e) as es ∧ RetA (es.foldl ledF al) H Q
/-- a dict locked while it is walked, and free again -/
theorem Same.locked {H H' : Hp} {d : Addr} {u : HO} {od : Obj} (h : H d = some u) (e : Same (upd H d (.frz od u)) H') : Same H (upd H' d u) := fun b o q => by
  by_cases c : b = d
  · rw [c] at q ⊢
    rw [upd_same, ← q, h]
  · rw [upd_ne c]
    exact e b o (by rw [upd_ne c]; exact q)
theorem step_nd {cs : List (Str × Str)} {acc : Ans} {y : Spot × An} (h : (acc.map (·.1)).Nodup) : ((stepA cs acc y).map (·.1)).Nodup := by
  unfold stepA
  split
  · exact put_nd h
  · split
    · exact h
    · exact put_nd h
theorem called_nd {cs : List (Str × Str)} {al : Ans} : ((calledF cs al).map (·.1)).Nodup := by
  have : ∀ {al acc : Ans}, (acc.map (·.1)).Nodup → ((al.foldl (stepA cs) acc).map (·.1)).Nodup := by
    intro al
    induction al with
    | nil => exact fun h => h
    | cons y al ih => exact fun h => ih (step_nd h)
  exact this List.nodup_nil
theorem called_len {cs : List (Str × Str)} : ∀ {al acc : Ans}, (al.foldl (stepA cs) acc).length ≤ acc.length + al.length
  | [], acc => Nat.le_refl _
  | y :: al, acc => by
    have h1 := called_len (cs := cs) (al := al) (acc := stepA cs acc y)
    have h2 : (stepA cs acc y).length ≤ acc.length + 1 := by
      unfold stepA
      split
      · exact put_len
      · split
        · omega
        · exact put_len
    rw [List.foldl_cons, List.length_cons]
    omega
theorem led_len {al : Ans} {e : Ed} : (ledF al e).length ≤ al.length := by
  have := called_len (cs := e.cs) (al := al) (acc := [])
  unfold ledF calledF
  refine Nat.le_trans (List.length_filter_le _ _) ?_
  simpa using this
section
variable {P : Program} {w : World} {K : PySem.W.Frag} {mg : Str → Option Value} {base : Heap}
theorem sc_called_anew : FnScope ["answers", "calls", "called", "given", "told", "spot", "name", "k", "old", "new"] ["answers", "calls"] (defScope s_called_anew) := ⟨rfl, rfl, rfl, by decide +kernel, rfl, by decide +kernel, by decide +kernel⟩
theorem ok_called_anew (T : Tx K mg) : Ok P w K mg base 1 (He.ga K "called_anew") ["answers", "calls"] (spCalled K) := by
  obtain ⟨fd, F⟩ := T.f_called_anew
  refine ⟨fd, F.ok (k := 0) sc_called_anew (fun vs H Q E h => ?_) (fun cdv A outer s_ H vs Q E hr h => ?_), F.bindsN fun _ _ _ _ _ _ us hl => match us, hl with | [_, _], _ => rfl, F.kp⟩
  · obtain ⟨d, t, kvs, al, cs, rfl, hd, ha, la, hc, lc, q⟩ := h
    rfl
  obtain ⟨d, t, kvs, al, cs, rfl, hd, ha, la, hc, lc, q⟩ := h
  have hu65 := K3.Room.units65 hr
  have hu70 := K3.Room.units70 hr
  have hu4 := K3.Room.units4 hr
  have hu64 := Nat.lt_of_succ_lt hu65
  have hu0 := Nat.lt_of_le_of_lt (Nat.le_add_right _ 65) hu65
  have hu1 := Nat.lt_of_le_of_lt (Nat.add_le_add_left (show 1 ≤ 65 by decide) _) hu65
  refine ⟨_, pss_cons (by exact ps_setAcc (i := 2) (own := [("old", 8), ("new", 9)]) (g := gTup K 2 (gCons (gName 8) (gCons (gName 9) gNil))) (tt := tYes) (acc_dK (tk := (tVar 8)) (tv := (tVar 9)) (fun _ _ _ _ _ => (pv 8)) (fun _ _ _ _ _ => (pv 9))) (by rfl) sc_called_anew.nd rfl rfl (by rfl) (pi_tup (pv 1)) (blkOk_by (own := [("old", 8), ("new", 9)]) (N := ["answers", "calls", "called", "given", "told", "spot", "name", "k", "old", "new"]) (sc := defScope s_called_anew) (by decide +kernel)) (fun _ _ _ _ _ => (pg_tup (by rfl) (pgs_cons (pg_name (i := 8) sc_called_anew.nd rfl (Or.inl rfl)) (pgs_cons (pg_name (i := 9) sc_called_anew.nd rfl (Or.inl rfl)) pgs_nil)))) (fun _ _ _ _ _ => pts_nil))
      (pss_cons (by exact ps_setAcc (i := 3) (own := [("old", 8), ("new", 9)]) (g := gTup K 2 (gCons (gName 8) (gCons (gName 9) gNil))) (tt := tYes) (acc_sK (te := (tVar 9)) (fun _ _ _ _ _ => (pv 9))) (by rfl) sc_called_anew.nd rfl rfl (by rfl) (pi_tup (pv 1)) (blkOk_by (own := [("old", 8), ("new", 9)]) (N := ["answers", "calls", "called", "given", "told", "spot", "name", "k", "old", "new"]) (sc := defScope s_called_anew) (by decide +kernel)) (fun _ _ _ _ _ => (pg_tup (by rfl) (pgs_cons (pg_name (i := 8) sc_called_anew.nd rfl (Or.inl rfl)) (pgs_cons (pg_name (i := 9) sc_called_anew.nd rfl (Or.inl rfl)) pgs_nil)))) (fun _ _ _ _ _ => pts_nil))
      (pss_cons (ps_set (i := 4) sc_called_anew.nd rfl (Or.inl rfl) pe_dnewT)
      (pss_cons (ps_lock (ps_for (passes_of rfl) (by rfl) (pi_keys (pv 0)) (pg_name (i := 5) sc_called_anew.nd rfl (Or.inl rfl)) (pss_cons (ps_asg (pv 5) (pg_tup (by rfl) (pgs_cons (pg_name (i := 6) sc_called_anew.nd rfl (Or.inl rfl)) (pgs_cons (pg_name (i := 7) sc_called_anew.nd rfl (Or.inl rfl)) pgs_nil))))
      (pss_one (ps_if (pt_cmp (pc_din hu1 (pv 6) (pv 2))) (pss_one (ps_dput hu1 (pv 4) (pe_tup (pa_cons (pe_dget hu1 (pv 2) (pv 6) (fun _ _ => rfl)) (pa_cons (pv 7) pa_nil))) (pe_dget hu1 (pv 0) (pv 5) (fun _ _ => rfl)) rfl)) (pss_one (ps_if (pt_cmpR or_snotinK (pv 6) (pv 3) (by rfl)) (pss_one (ps_dput hu1 (pv 4) (pv 5) (pe_dget hu1 (pv 0) (pv 5) (fun _ _ => rfl)) rfl)) pss_nil)))))))
      (pss_one (ps_ret (pv 4)))))), ?_⟩
  obtain ⟨ps, ht, hps⟩ := id hc.at_
  walk_at "go"
  refine acc_open ?_
  refine ⟨_, rfl, t, rfl, ⟨_, ht⟩, fun D hD => ?_⟩
  refine acc_it (walk_tup (K := K) (a := t) (xs := ps.map V.ref)) (o0 := fun _ => .dK []) (fun i H' => Same H H' ∧ ∃ m, H' D = some (.dK m) ∧ m.length ≤ i ∧ ∀ z, valV m (Sum.inr z) = (newOf (cs.take i) z).map V.str) ⟨Same.new hD _, [], upd_same, Nat.le_refl _, fun z => rfl⟩ (fun i H' _ z => z.1.sqt ht) ?_ ?_
  · rintro i v H1 H1' hi ⟨e1, m, hm, lm, vm⟩ ⟨rfl, hv⟩
    rw [List.length_map] at hi
    obtain ⟨p, hp, rfl⟩ := map_ref hv
    obtain ⟨c, hc1, hpc⟩ := K3.Paired.get hps hp
    refine ⟨p, _, rfl, e1.sqt hpc, rfl, _, _, rfl, ?_⟩
    walk_at "go"
    refine ⟨_, _, rfl, ?_⟩
    walk_at "go"
    refine ⟨rfl, rfl, ?_⟩
    walk_at "go"
    have lcs : i < cs.length := (List.getElem?_eq_some_iff.mp hc1).1
    refine ⟨_, rfl, _, rfl, m, Sum.inr c.1, rfl, hm, Nat.lt_of_le_of_lt (show m.length ≤ 1000 by omega) (by decide), e1.mut hD, _, upd_same, Nat.le_trans (putK_len _ _ _) (Nat.succ_le_succ lm), fun z => ?_⟩
    rw [valV_put, newOf_take hc1, vm z]
    by_cases k : c.1 = z
    · rw [if_pos k, if_pos (by rw [k])]; rfl
    · rw [if_neg k, if_neg (fun q => k (Sum.inr.inj q).symm)]
  · rintro H1 ⟨e1, m, hm, lm, vm⟩
    rw [List.length_map, hps.length, List.take_length] at vm
    walk_at "go"
    refine acc_open ?_
    refine ⟨_, rfl, t, rfl, ⟨_, e1.sqt ht⟩, fun D2 hD2 => ?_⟩
    refine acc_it (walk_tup (K := K) (a := t) (xs := ps.map V.ref)) (o0 := fun D => SetK P w D (fun _ => false) 0) (fun i H' => Same H1 H' ∧ ∃ n, n ≤ i ∧ H' D2 = some (SetK P w D2 (inK ((cs.take i).map (·.2))) n)) ⟨Same.new hD2 _, 0, Nat.le_refl _, by rw [upd_same]; show _ = some (SetK P w D2 (inK []) 0); rw [inK_nil]⟩ (fun i H' _ z => (e1.trans z.1).sqt ht) ?_ ?_
    · rintro i v H2 H2' hi ⟨e2, n, ln, hn⟩ ⟨rfl, hv⟩
      rw [List.length_map] at hi
      obtain ⟨p, hp, rfl⟩ := map_ref hv
      obtain ⟨c, hc1, hpc⟩ := K3.Paired.get hps hp
      refine ⟨p, _, rfl, (e1.trans e2).sqt hpc, rfl, _, _, rfl, ?_⟩
      walk_at "go"
      refine ⟨_, _, rfl, ?_⟩
      walk_at "go"
      refine ⟨rfl, rfl, ?_⟩
      walk_at "go"
      have lcs : i < cs.length := (List.getElem?_eq_some_iff.mp hc1).1
      refine ⟨_, rfl, Sum.inr c.2, _, n, rfl, hn, (by unfold scanBound; omega), e2.mut hD2, (if inK ((cs.take i).map (·.2)) (Sum.inr c.2) = true then n else n + 1), ?_, ?_⟩
      rotate_left
      · rw [upd_same]
        have ef : (fun j : Key => inK ((cs.take i).map (·.2)) j || decide (j = Sum.inr c.2)) = inK ((cs.take (i + 1)).map (·.2)) := by
          funext j
          rw [List.take_add_one, hc1]
          cases j with
          | inl k => rfl
          | inr y =>
            show (decide (y ∈ (cs.take i).map (·.2)) || decide ((Sum.inr y : Key) = Sum.inr c.2)) = decide (y ∈ (cs.take i ++ [c]).map (·.2))
            rw [List.map_append]
            by_cases h1 : y ∈ (cs.take i).map (·.2) <;> by_cases h2 : y = c.2 <;> simp [h1, h2]
        rw [ef] <;> rfl
      · split <;> omega
    · rintro H2 ⟨e2, n, ln, hn⟩
      rw [List.length_map, hps.length, List.take_length] at hn
      have e02 := e1.trans e2
      have hm2 := e2 _ _ hm
      walk_at "go"
      intro D3 hD3
      walk_at "go"
      have e3 := Same.new hD3 (.dT [])
      have e03 := e02.trans e3
      have hd3 : (upd H2 D3 (.dT [])) d = some (.dT kvs) := e03 _ _ hd
      have hD30 : H D3 = none := e02.free hD3
      have nd3 : D3 ≠ d := fun z => by rw [z, e02 _ _ hd] at hD3; cases hD3
      refine lock_open d _ hd3 trivial fun od => ?_
      generalize hH3 : upd H2 D3 (.dT []) = H3 at e3 e03 hd3
      have hL3 : H3 D3 = some (.dT []) := by rw [← hH3]; exact upd_same
      have kf : NT H3 (upd H3 d (.frz od (.dT kvs))) := NT.upd hd3 _
      have haL : Paired (EN (upd H3 d (.frz od (.dT kvs)))) kvs al := L2.Paired.mapP ha.ents fun _ _ z => z.nt ((Same.nt e03).trans kf)
      have la2 : al.length = kvs.length := ha.ents.length.symm
      -- what holds of the locked heap, D3 apart
      refine ⟨_, rfl, d, od, rfl, .inr ⟨kvs, upd_same, ?_⟩⟩
      have fin : ∀ H', But D3 (upd H3 d (.frz od (.dT kvs))) H' → H' d = some (.frz od (.dT kvs)) ∧ Same H (upd H' d (.dT kvs)) := fun H' b => by
        refine ⟨b _ _ nd3.symm upd_same, fun c o hc => ?_⟩
        by_cases k : c = d
        · rw [k] at hc ⊢
          rw [upd_same, ← hc, hd]
        · rw [upd_ne k]
          exact b _ _ (fun z => by rw [z, hD30] at hc; cases hc) (by rw [upd_ne k]; exact e03 _ _ hc)
      refine for_it walk_keysT (fun (i : Nat) σ H' => ∃ (ms : List (List Key × V)) (o5 o6 o7 o8 o9 : Option V), σ = [some (.ref d), some (.ref t), some (.ref D), some (.ref D2), some (.ref D3), o5, o6, o7, o8, o9] ∧
        But D3 (upd H3 d (.frz od (.dT kvs))) H' ∧ H' D3 = some (.dT ms) ∧ Paired (EN H') ms ((al.take i).foldl (stepA cs) [])) ⟨[], none, none, none, none, none, rfl, fun _ _ _ h => h, by rw [upd_ne nd3]; exact hL3, .nil⟩
        (fun i σ H' _ ⟨_, _, _, _, _, _, _, b, _⟩ => (fin H' b).1) ?_ ?_
      · rintro i x σ H4 H4' hi ⟨ms, o5, o6, o7, o8, o9, rfl, b4, h4, hms⟩ ⟨e4', k, v, p, hkv, rfl, hp⟩
        have e4 := e4'.symm
        subst e4
        obtain ⟨y, hy, hk, hv, hok⟩ := K3.Paired.get ha.ents hkv
        dsimp only at hk hv
        subst hk
        have f4 := (fin H4 b4).1
        have lk := look_at ha.nd hy
        have hyL : valV kvs (keyOf y.1) = some v := val_at ha.nd ha.ents hkv hy
        have at4 : ∀ c o, c ≠ D3 → c ≠ d → H3 c = some o → H4 c = some o := fun c o n1 n2 q => b4 c o n1 (by rw [upd_ne n2]; exact q)
        have nDD : D ≠ D3 := fun z => by rw [← z, hm2] at hD3; cases hD3
        have nDd : D ≠ d := fun z => by rw [z, hd] at hD; cases hD
        have hm4 : H4 D = some (.dK m) := at4 _ _ nDD nDd (e3 _ _ hm2)
        have nD2 : D2 ≠ D3 := fun z => by rw [← z, hn] at hD3; cases hD3
        have nD2d : D2 ≠ d := fun z => by rw [z, e1 _ _ hd] at hD2; cases hD2
        have hn4 : H4 D2 = some (SetK P w D2 (inK (cs.map (·.2))) n) := at4 _ _ nD2 nD2d (e3 _ _ hn)
        have hvN : AnO H4 v y.2 := hv.keep fun c xs h => at4 _ _ (fun z => by rw [← z, e02 _ _ h] at hD3; cases hD3) (fun z => by rw [z, hd] at h; cases h) (e3 _ _ (e02 _ _ h))
        have lms : ms.length < sizeLine := by
          have := hms.length
          have l2 := called_len (cs := cs) (al := al.take i) (acc := [])
          rw [List.length_take] at l2
          simp only [List.length_nil] at l2
          refine Nat.lt_of_le_of_lt (show ms.length ≤ 10000 by omega) (by decide)
        walk_at "go"
        refine ⟨p, _, rfl, SqT.of hp, rfl, _, _, rfl, ?_⟩
        walk_at "go"
        refine ⟨_, _, rfl, ?_⟩
        walk_at "go"
        refine ⟨rfl, ?_⟩
        walk_at "go"
        refine ⟨D, _, rfl, DGet.k (k := Sum.inr y.1.1) hm4, ?_⟩
        rw [vm]
        have stp : (al.take (i + 1)).foldl (stepA cs) [] = stepA cs ((al.take i).foldl (stepA cs) []) y := by
          rw [List.take_add_one, hy, List.foldl_append]
          rfl
        cases hnw : newOf cs y.1.1 with
        | some n' =>
          refine ⟨true, rfl, ?_⟩
          walk_at "go"
          refine ⟨d, v, rfl, hyL ▸ DGet.tf (.inr ⟨od, f4⟩) hp, ?_⟩
          walk_at "go"
          refine ⟨D, .str n', rfl, ?_, ?_⟩
          · have := DGet.k (k := Sum.inr y.1.1) hm4
            rw [vm, hnw] at this
            exact this
          walk_at "go"
          refine ⟨(by show 2 ≤ sizeLine; decide), fun p0 hp0 => ?_⟩
          have e5 := Same.new hp0 (.tup [V.str n', V.int y.1.2])
          refine ⟨D3, _, rfl, DPut.t (k := keyOf (n', y.1.2)) (e5 _ _ h4) upd_same lms, ?_⟩
          have nt5 := (Same.nt e5).trans (NT.upd (e5 _ _ h4) (.dT (putK ms (keyOf (n', y.1.2)) v)))
          refine ⟨_, _, _, _, _, _, rfl, (b4.trans (K3.Same.but e5)).trans (But.upd _), upd_same, ?_⟩
          rw [stp]
          unfold stepA
          rw [hnw]
          exact L2.Paired.mapP (en_put hms hvN hok) fun _ _ z => z.nt nt5
        | none =>
          refine ⟨false, rfl, ?_⟩
          walk_at "go"
          refine ⟨Sum.inr y.1.1, D2, _, n, rfl, rfl, hn4, ?_⟩
          show ∃ k, V.bl (!inK (cs.map (·.2)) (Sum.inr y.1.1)) = .bl k ∧ _
          have hin : inK (cs.map (·.2)) (Sum.inr y.1.1) = decide (y.1.1 ∈ cs.map (·.2)) := rfl
          rw [hin]
          by_cases c : y.1.1 ∈ cs.map (·.2)
          · rw [decide_eq_true c]
            refine ⟨false, rfl, ?_⟩
            walk_at "go"
            refine ⟨_, _, _, _, _, _, rfl, b4, h4, ?_⟩
            rw [stp]
            unfold stepA
            rw [hnw]
            dsimp only
            rw [if_pos c]
            exact hms
          · rw [decide_eq_false c]
            refine ⟨true, rfl, ?_⟩
            walk_at "go"
            refine ⟨d, v, rfl, hyL ▸ DGet.tf (.inr ⟨od, f4⟩) hp, ?_⟩
            walk_at "go"
            refine ⟨D3, _, rfl, DPut.t (k := keyOf y.1) h4 hp lms, ?_⟩
            have nt5 := NT.upd h4 (.dT (putK ms (keyOf y.1) v))
            refine ⟨_, _, _, _, _, _, rfl, b4.trans (But.upd _), upd_same, ?_⟩
            rw [stp]
            unfold stepA
            rw [hnw]
            dsimp only
            rw [if_neg c]
            exact L2.Paired.mapP (en_put hms hvN hok) fun _ _ z => z.nt nt5
      · rintro σ H4 ⟨ms, o5, o6, o7, o8, o9, rfl, b4, h4, hms⟩
        obtain ⟨f4, s4⟩ := fin H4 b4
        refine ⟨f4, ?_⟩
        walk_at "go"
        rw [← la2, List.take_length] at hms
        have kp : ∀ c xs, H4 c = some (.tup xs) → (upd H4 d (.dT kvs)) c = some (.tup xs) := fun c xs q => by
          rw [upd_ne (fun z => by rw [z, f4] at q; cases q)]
          exact q
        exact q D3 _ ms s4 hD30 (by rw [upd_ne nd3]; exact h4) ⟨L2.Paired.mapP hms fun _ _ z => z.keep kp, called_nd⟩
end
end K3
end Q3_part
section Q4_part
set_option Elab.async false
set_option linter.all false
set_option maxRecDepth 100000
set_option maxHeartbeats 1000000
set_option pp.deepTerms.threshold 5
open PySem PySem.Spec PyProof.Rows L2
/-- go on as far as nothing is open -/
local macro_rules | `(tactic| walk_at "go") => `(tactic| repeat (first
  | with_reducible refine w_seq ?_ | with_reducible refine w_next ?_ | with_reducible refine w_set ?_ | with_reducible refine w_drop ?_ | with_reducible refine w_ret ?_ | with_reducible refine w_retN ?_
  | with_reducible refine w_if ?_ | ((with_reducible refine' w_var ?hv ?_); (case hv => exact rfl)) | with_reducible refine w_c ?_ | with_reducible refine w_nil ?_ | with_reducible refine w_cons ?_ | with_reducible refine w_op ?_ | with_reducible refine w_un ?_
  | with_reducible refine w_test ?_ | with_reducible refine w_tB ?_ | with_reducible refine w_not ?_ | with_reducible refine w_and ?_ | with_reducible refine w_or ?_ | with_reducible refine w_bl ?_
  | with_reducible refine w_andV ?_ | with_reducible refine w_orV ?_ | with_reducible refine w_notV ?_ | with_reducible refine w_ifE ?_ | with_reducible refine w_chain ?_ | with_reducible refine w_i0 ?_
  | with_reducible refine w_call ?_ | with_reducible refine w_callS ?_ | with_reducible refine w_cB ?_ | with_reducible refine w_tup ?_ | with_reducible refine w_lst ?_ | with_reducible refine w_fldV ?_
  | with_reducible refine w_neF ?_ | with_reducible refine w_neT ?_ | with_reducible refine w_notN ?_ | with_reducible refine w_isN ?_ | with_reducible refine w_gname ?_ | with_reducible refine w_gsub ?_ | with_reducible refine w_asg ?_ | with_reducible refine w_sl ?_ | with_reducible refine w_noP ?_ | with_reducible refine w_int1 ?_ | with_reducible refine w_part ?_ | with_reducible refine w_meth ?_ | with_reducible refine w_din ?_ | with_reducible refine w_dnotin ?_ | with_reducible refine w_dgt ?_ | with_reducible refine w_dget1 ?_ | with_reducible refine w_dget2 ?_ | with_reducible refine w_dput ?_ | with_reducible refine w_yes ?_ | with_reducible refine w_nT ?_ | with_reducible refine w_nF ?_ | with_reducible refine w_iteT ?_ | with_reducible refine w_iteF ?_))
namespace K3
section
variable {P : Program} {w : World} {K : PySem.W.Frag} {mg : Str → Option Value} {base : Heap}
theorem filt_take {al : Ans} {f : Spot × An → Bool} {i : Nat} {y : Spot × An} (h : al[i]? = some y) : (al.take (i + 1)).filter f = (al.take i).filter f ++ (if f y = true then [y] else []) := by
  rw [List.take_add_one, h, List.filter_append]
  congr 1
  cases hf : f y <;> simp [hf]
theorem filt_nd {al : Ans} {f : Spot × An → Bool} (h : (al.map (·.1)).Nodup) : ((al.filter f).map (·.1)).Nodup := (List.Sublist.map _ List.filter_sublist).nodup h
theorem put_new {kvs : List (List Key × V)} {k : List Key} {v : V} (h : valV kvs k = none) : putK kvs k v = kvs ++ [(k, v)] := by
  unfold putK
  rw [valV_any, h, if_neg (by decide)]
theorem en_new {H : Hp} {kvs : List (List Key × V)} {al : Ans} {s : Spot} (h : Paired (EN H) kvs al) (n : s ∉ al.map (·.1)) : valV kvs (keyOf s) = none := by
  have := en_val (s := s) h
  have e : lookA al s = none := by
    unfold lookA
    rw [Option.map_eq_none_iff, List.find?_eq_none]
    exact fun y hy z => n (of_decide_eq_true z ▸ List.mem_map_of_mem hy)
  rw [e] at this
  exact this
theorem nd_take {al : Ans} (h : (al.map (·.1)).Nodup) {i : Nat} {y : Spot × An} (hy : al[i]? = some y) {f : Spot × An → Bool} : y.1 ∉ ((al.take i).filter f).map (·.1) := by
  intro z
  obtain ⟨x, hx, e⟩ := List.mem_map.mp z
  obtain ⟨j, hj, hx2⟩ := List.mem_take_iff_getElem.mp (List.mem_filter.mp hx).1
  have li : i < al.length := (List.getElem?_eq_some_iff.mp hy).1
  have hj' : j < i := by omega
  have h1 : (al.map (·.1))[j]? = (al.map (·.1))[i]? := by
    rw [List.getElem?_map, List.getElem?_map, hy, List.getElem?_eq_getElem (show j < al.length by omega), hx2]
    exact congrArg some e
  have := List.getElem_inj h |>.mp (show (al.map (·.1))[j]'(by rw [List.length_map]; omega) = (al.map (·.1))[i]'(by rw [List.length_map]; omega) by
    rw [List.getElem?_eq_getElem (by rw [List.length_map]; omega), List.getElem?_eq_getElem (by rw [List.length_map]; omega)] at h1
    exact Option.some.inj h1)
  omega
theorem sc_led : FnScope ["answers", "edition", "renamed", "spot"] ["answers", "edition"] (defScope s_led) := ⟨rfl, rfl, rfl, by decide +kernel, rfl, by decide +kernel, by decide +kernel⟩
theorem ok_led (T : Tx K mg) : Ok P w K mg base 5 (He.ga K "led") ["answers", "edition"] (spLed K) := by
  obtain ⟨fd, F⟩ := T.f_led
  have Obelongs := ok_belongs (P := P) (w := w) (base := base) T
  have Ocalled_anew := ok_called_anew (P := P) (w := w) (base := base) T
  refine ⟨fd, F.ok (k := 4) sc_led (fun vs H Q E h => ?_) (fun cdv A outer s_ H vs Q E hr h => ?_), F.bindsN fun _ _ _ _ _ _ us hl => match us, hl with | [_, _], _ => rfl, F.kp⟩
  · obtain ⟨d, a, kvs, al, e, rfl, hd, ha, la, he, q⟩ := h
    rfl
  obtain ⟨d, a, kvs, al, e, rfl, hd, ha, la, he, q⟩ := h
  have hu65 := K3.Room.units65 hr
  have hu70 := K3.Room.units70 hr
  have hu4 := K3.Room.units4 hr
  have hu64 := Nat.lt_of_succ_lt hu65
  have hu0 := Nat.lt_of_le_of_lt (Nat.le_add_right _ 65) hu65
  have hu1 := Nat.lt_of_le_of_lt (Nat.add_le_add_left (show 1 ≤ 65 by decide) _) hu65
  have rbelongs : Room 4 _ := hr.mono (by decide)
  have rcalled_anew : Room 1 _ := hr.mono (by decide)
  refine ⟨_, pss_cons (ps_set (i := 2) sc_led.nd rfl (Or.inr rfl) (pe_f Ocalled_anew rcalled_anew T.g_called_anew (pa_cons (pv 0) (pa_cons (pe_fld (pv 1) rfl) pa_nil))))
      (pss_one (ps_ret (pe_lock (by exact pe_acc (own := [("spot", 3)]) (g := gName 3) (tt := (tB (tCall (spBelongs K) [] E0 (tCons (tVar 3) (tCons (tDGet (tVar 2) (tVar 3)) (tCons (tFld K (tVar 1) "form") tNil)))))) (acc_dT (tk := (tVar 3)) (tv := (tDGet (tVar 2) (tVar 3))) hu0 (fun _ _ _ _ _ => (pv 3)) (fun _ _ _ _ _ => (pe_dget hu1 (pv 2) (pv 3) (fun _ _ => rfl)))) (by rfl) sc_led.nd (pi_keys (pv 2)) (blkOk_by (own := [("spot", 3)]) (N := ["answers", "edition", "renamed", "spot"]) (sc := defScope s_led) (by decide +kernel)) (fun _ _ _ _ _ => (pg_name (i := 3) sc_led.nd rfl (Or.inl rfl))) (fun _ _ _ _ _ => (pts_one (pt_val (pe_f Obelongs rbelongs T.g_belongs (pa_cons (pv 3) (pa_cons (pe_dget hu1 (pv 2) (pv 3) (fun _ _ => rfl)) (pa_cons (pe_fld (pv 1) rfl) pa_nil))))))))))), ?_⟩
  obtain ⟨⟨dx, f, t, h1, h2, h3⟩, few⟩ := id he
  walk_at "go"
  refine ⟨a, _, dx, _, _, rfl, h1, T.cl_Edition, T.n_Edition_calls, rfl, ?_⟩
  walk_at "go"
  refine ⟨d, t, kvs, al, e.cs, rfl, hd, ha, la, h3, few, fun p H1 ks e1 hp0 hp1 hA => ?_⟩
  walk_at "go"
  refine lockE_open p _ hp1 trivial fun od => ?_
  refine acc_open ?_
  refine ⟨_, rfl, p, od, rfl, .inr ⟨ks, upd_same, fun D hD => ?_⟩⟩
  have kf : NT H1 (upd H1 p (.frz od (.dT ks))) := NT.upd hp1 _
  have heF := (he.same e1).nt kf
  have len : (calledF e.cs al).length = ks.length := hA.ents.length.symm
  have lc := called_len (cs := e.cs) (al := al) (acc := [])
  have entF : Paired (EN (upd H1 p (.frz od (.dT ks)))) ks (calledF e.cs al) := L2.Paired.mapP hA.ents fun _ _ z => z.nt kf
  have hpF : (upd H1 p (.frz od (.dT ks))) p = some (.frz od (.dT ks)) := upd_same
  have fin : ∀ H', Same (upd H1 p (.frz od (.dT ks))) H' → Same H (upd H' p (.dT ks)) := fun H' k => e1.trans (Same.locked hp1 k)
  have nDp : D ≠ p := fun z => by rw [z, hpF] at hD; cases hD
  have hDH : H D = none := by
    cases g : H D with
    | none => rfl
    | some o => rw [upd_ne nDp, e1 _ _ g] at hD; cases hD
  generalize hHF : upd H1 p (.frz od (.dT ks)) = HF at *
  refine acc_it walk_keysT (o0 := fun _ => .dT []) (fun i H' => Same HF H' ∧ ∃ ms, H' D = some (.dT ms) ∧ Paired (EN H') ms (((calledF e.cs al).take i).filter fun y => belB e.rs y.1.1 y.1.2 y.2)) ⟨Same.new hD _, [], upd_same, .nil⟩ (fun i H' _ z => z.1 _ _ hpF) ?_ ?_
  · rintro i x H2 H2' hi ⟨e2, ms, hm, pm⟩ ⟨e2', k, v, b, hkv, rfl, hb⟩
    have e2s := e2'.symm
    subst e2s
    obtain ⟨y, hy, hk, hv, hok⟩ := K3.Paired.get entF hkv
    dsimp only at hk hv
    subst hk
    have hval : valV ks (keyOf y.1) = some v := val_at hA.nd entF hkv hy
    have hp2 := e2 _ _ hpF
    walk_at "go"
    refine ⟨rfl, ?_⟩
    walk_at "go"
    refine ⟨p, v, rfl, hval ▸ DGet.tf (.inr ⟨od, hp2⟩) hb, ?_⟩
    have he2 := heF.same e2
    obtain ⟨⟨dx2, f2, t2, g1, g2, g3⟩, _⟩ := id he2
    walk_at "go"
    refine ⟨a, _, dx2, _, _, rfl, g1, T.cl_Edition, T.n_Edition_form, rfl, ?_⟩
    walk_at "go"
    refine ⟨.ref b, v, f2, y.1, y.2, e.rs, rfl, ⟨b, rfl, hb⟩, hv.same e2, hok, g2, fun H3 e3 => ?_⟩
    refine ⟨_, rfl, ?_⟩
    have e23 := e2.trans e3
    have ft := filt_take (f := fun y => belB e.rs y.1.1 y.1.2 y.2) hy
    cases hb2 : belB e.rs y.1.1 y.1.2 y.2 with
    | false =>
      walk_at "go"
      rw [ft, hb2, if_neg Bool.false_ne_true, List.append_nil]
      exact ⟨e23, ms, e3 _ _ hm, L2.Paired.mapP pm fun _ _ z => z.nt (Same.nt e3)⟩
    | true =>
      walk_at "go"
      have hp3 := e23 _ _ hpF
      have hb3 : H3 b = some (.tup ((keyOf y.1).map kV)) := e3 _ _ hb
      refine ⟨_, rfl, _, rfl, _, rfl, p, v, rfl, hval ▸ DGet.tf (.inr ⟨od, hp3⟩) hb3, ms, keyOf y.1, b, rfl, hb3, e3 _ _ hm, ?_, ?_⟩
      · have := pm.length
        have l2 := List.length_filter_le (fun y => belB e.rs y.1.1 y.1.2 y.2) ((calledF e.cs al).take i)
        rw [List.length_take] at l2
        have lc' : (calledF e.cs al).length ≤ al.length := by simpa [calledF] using lc
        exact Nat.lt_of_le_of_lt (show ms.length ≤ 10000 by omega) (by decide)
      · have pm3 := L2.Paired.mapP pm fun _ _ z => EN.nt (Same.nt e3) z
        have new := en_new pm3 (nd_take called_nd hy (f := fun y => belB e.rs y.1.1 y.1.2 y.2))
        rw [put_new new]
        refine ⟨e23.mut hD, _, upd_same, ?_⟩
        rw [ft, hb2, if_pos rfl]
        have nt4 := NT.upd (e3 _ _ hm) (.dT (ms ++ [(keyOf y.1, v)]))
        exact K3.Paired.app (L2.Paired.mapP pm3 fun _ _ z => z.nt nt4) (.cons ⟨rfl, (hv.same e23).nt nt4, hok⟩ .nil)
  · rintro H2 ⟨e2, ms, hm, pm⟩
    rw [← len, List.take_length] at pm
    refine ⟨e2 _ _ hpF, ?_⟩
    have kp : ∀ c xs, H2 c = some (.tup xs) → (upd H2 p (.dT ks)) c = some (.tup xs) := fun c xs q => by
      rw [upd_ne (fun z => by rw [z, e2 _ _ hpF] at q; cases q)]
      exact q
    exact q D _ ms (fin H2 e2) hDH (by rw [upd_ne nDp]; exact hm) ⟨L2.Paired.mapP pm fun _ _ z => z.keep kp, filt_nd called_nd⟩
theorem sc_led_over : FnScope ["answers", "editions", "told", "edition", "spot"] ["answers", "editions"] (defScope s_led_over) := ⟨rfl, rfl, rfl, by decide +kernel, rfl, by decide +kernel, by decide +kernel⟩
theorem ok_led_over (T : Tx K mg) : Ok P w K mg base 6 (He.ga K "led_over") ["answers", "editions"] (spLedOver K) := by
  obtain ⟨fd, F⟩ := T.f_led_over
  have Oled := ok_led (P := P) (w := w) (base := base) T
  refine ⟨fd, F.ok (k := 5) sc_led_over (fun vs H Q E h => ?_) (fun cdv A outer s_ H vs Q E hr h => ?_), F.bindsN fun _ _ _ _ _ _ us hl => match us, hl with | [_, _], _ => rfl, F.kp⟩
  · obtain ⟨d, l, kvs, al, as, es, rfl, hd, ha, la, ⟨bq, hl⟩, hes, q⟩ := h
    rfl
  obtain ⟨d, l, kvs, al, as, es, rfl, hd, ha, la, ⟨bq, hl⟩, hes, q⟩ := h
  have hu65 := K3.Room.units65 hr
  have hu70 := K3.Room.units70 hr
  have hu4 := K3.Room.units4 hr
  have hu64 := Nat.lt_of_succ_lt hu65
  have hu0 := Nat.lt_of_le_of_lt (Nat.le_add_right _ 65) hu65
  have hu1 := Nat.lt_of_le_of_lt (Nat.add_le_add_left (show 1 ≤ 65 by decide) _) hu65
  have rled : Room 5 _ := hr.mono (by decide)
  refine ⟨_, pss_cons (ps_lock (by exact ps_setAcc (i := 2) (own := [("spot", 4)]) (g := gName 4) (tt := tYes) (acc_dT (tk := (tVar 4)) (tv := (tDGet (tVar 0) (tVar 4))) hu0 (fun _ _ _ _ _ => (pv 4)) (fun _ _ _ _ _ => (pe_dget hu1 (pv 0) (pv 4) (fun _ _ => rfl)))) (by rfl) sc_led_over.nd rfl rfl (by rfl) (pi_keys (pv 0)) (blkOk_by (own := [("spot", 4)]) (N := ["answers", "editions", "told", "edition", "spot"]) (sc := defScope s_led_over) (by decide +kernel)) (fun _ _ _ _ _ => (pg_name (i := 4) sc_led_over.nd rfl (Or.inl rfl))) (fun _ _ _ _ _ => pts_nil)))
      (pss_cons (ps_for (passes_of rfl) (by rfl) (pi_seq (pv 1)) (pg_name (i := 3) sc_led_over.nd rfl (Or.inl rfl)) (pss_one (ps_set (i := 2) sc_led_over.nd rfl (Or.inl rfl) (pe_f Oled rled T.g_led (pa_cons (pv 2) (pa_cons (pv 3) pa_nil))))))
      (pss_one (ps_ret (pv 2)))), ?_⟩
  walk_at "go"
  refine lock_open d _ hd trivial fun od => ?_
  walk_at "go"
  refine acc_open ?_
  refine ⟨_, rfl, d, od, rfl, .inr ⟨kvs, upd_same, fun D hD => ?_⟩⟩
  have kf : NT H (upd H d (.frz od (.dT kvs))) := NT.upd hd _
  have len : al.length = kvs.length := ha.ents.length.symm
  have entF : Paired (EN (upd H d (.frz od (.dT kvs)))) kvs al := L2.Paired.mapP ha.ents fun _ _ z => z.nt kf
  have hpF : (upd H d (.frz od (.dT kvs))) d = some (.frz od (.dT kvs)) := upd_same
  have fin : ∀ H', Same (upd H d (.frz od (.dT kvs))) H' → Same H (upd H' d (.dT kvs)) := fun H' k => Same.locked hd k
  have nDp : D ≠ d := fun z => by rw [z, hpF] at hD; cases hD
  have hDH : H D = none := by
    cases g : H D with
    | none => rfl
    | some o => rw [upd_ne nDp, g] at hD; cases hD
  generalize hHF : upd H d (.frz od (.dT kvs)) = HF at *
  refine acc_it walk_keysT (o0 := fun _ => .dT []) (fun i H' => Same HF H' ∧ ∃ ms, H' D = some (.dT ms) ∧ Paired (EN H') ms (al.take i)) ⟨Same.new hD _, [], upd_same, .nil⟩ (fun i H' _ z => z.1 _ _ hpF) ?_ ?_
  · rintro i x H2 H2' hi ⟨e2, ms, hm, pm⟩ ⟨e2', k, v, b, hkv, rfl, hb⟩
    have e2s := e2'.symm
    subst e2s
    obtain ⟨y, hy, hk, hv, hok⟩ := K3.Paired.get entF hkv
    dsimp only at hk hv
    subst hk
    have hval : valV kvs (keyOf y.1) = some v := val_at ha.nd entF hkv hy
    have hp2 := e2 _ _ hpF
    walk_at "go"
    refine ⟨rfl, ?_⟩
    walk_at "go"
    refine ⟨_, rfl, _, rfl, _, rfl, d, v, rfl, hval ▸ DGet.tf (.inr ⟨od, hp2⟩) hb, ms, keyOf y.1, b, rfl, hb, hm, ?_, ?_⟩
    · have := pm.length
      rw [List.length_take] at this
      exact Nat.lt_of_le_of_lt (show ms.length ≤ 10000 by omega) (by decide)
    · have ft : (al.take i).filter (fun _ => true) = al.take i := List.filter_eq_self.mpr fun _ _ => rfl
      have nn := nd_take ha.nd hy (f := fun _ => true)
      rw [ft] at nn
      have new := en_new pm nn
      rw [put_new new]
      refine ⟨e2.mut hD, _, upd_same, ?_⟩
      have nt4 := NT.upd hm (.dT (ms ++ [(keyOf y.1, v)]))
      rw [List.take_add_one, hy]
      exact K3.Paired.app (L2.Paired.mapP pm fun _ _ z => z.nt nt4) (.cons ⟨rfl, (hv.same e2).nt nt4, hok⟩ .nil)
  · rintro H2 ⟨e2, ms, hm, pm⟩
    rw [← len, List.take_length] at pm
    have kp : ∀ c xs, H2 c = some (.tup xs) → (upd H2 d (.dT kvs)) c = some (.tup xs) := fun c xs q => by
      rw [upd_ne (fun z => by rw [z, e2 _ _ hpF] at q; cases q)]
      exact q
    refine ⟨e2 _ _ hpF, ?_⟩
    have e3 := fin H2 e2
    have h3 : (upd H2 d (.dT kvs)) D = some (.dT ms) := by rw [upd_ne nDp]; exact hm
    have a3 : AD (upd H2 d (.dT kvs)) D ms al := ⟨L2.Paired.mapP pm fun _ _ z => z.keep kp, ha.nd⟩
    generalize upd H2 d (.dT kvs) = H3 at e3 h3 a3
    walk_at "go"
    refine ⟨_, rfl, l, bq, rfl, ⟨_, hl.same e3⟩, ?_⟩
    refine for_it (walk_B (K := K) (a := l) (xs := as) (b := bq)) (fun (i : Nat) σ H' => ∃ (p : Addr) (ms : List (List Key × V)) (o3 o4 : Option V), σ = [some (.ref d), some (.ref l), some (.ref p), o3, o4] ∧ Same H H' ∧ H p = none ∧ H' p = some (.dT ms) ∧ AD H' p ms ((es.take i).foldl ledF al) ∧ ((es.take i).foldl ledF al).length ≤ 10000)
      ⟨D, ms, none, none, rfl, e3, hDH, h3, a3, la⟩ (fun i σ H' _ ⟨_, _, _, _, _, e, _⟩ => hl.same e) ?_ ?_
    · rintro i x σ H4 H4' hi ⟨p, ms, o3, o4, rfl, e4, hp, h4, a4, l4⟩ ⟨e4', hx⟩
      have e4s := e4'.symm
      subst e4s
      obtain ⟨e, he, a, rfl, hea⟩ := K3.Paired.get hes hx
      walk_at "go"
      refine ⟨p, a, ms, _, e, rfl, h4, a4, l4, hea.same e4, fun p5 H5 m5 e5 g5 h5 a5 => ?_⟩
      have stp : (es.take (i + 1)).foldl ledF al = ledF ((es.take i).foldl ledF al) e := by
        rw [List.take_add_one, he, List.foldl_append]
        rfl
      exact ⟨p5, m5, _, _, rfl, e4.trans e5, e4.free g5, h5, stp ▸ a5, by rw [stp]; exact Nat.le_trans led_len l4⟩
    · rintro σ H4 ⟨p, ms, o3, o4, rfl, e4, hp, h4, a4, l4⟩
      rw [hes.length, List.take_length] at a4
      walk_at "go"
      exact q p H4 ms e4 hp h4 a4
end
end K3
end Q4_part
section Q5_part
set_option Elab.async false
set_option linter.all false
set_option maxRecDepth 100000
set_option maxHeartbeats 1000000
set_option pp.deepTerms.threshold 5
open PySem PySem.Spec PyProof.Rows L2
/-- go on as far as nothing is open -/
local macro_rules | `(tactic| walk_at "go") => `(tactic| repeat (first
  | with_reducible refine w_seq ?_ | with_reducible refine w_next ?_ | with_reducible refine w_set ?_ | with_reducible refine w_drop ?_ | with_reducible refine w_ret ?_ | with_reducible refine w_retN ?_
  | with_reducible refine w_if ?_ | ((with_reducible refine' w_var ?hv ?_); (case hv => exact rfl)) | with_reducible refine w_c ?_ | with_reducible refine w_nil ?_ | with_reducible refine w_cons ?_ | with_reducible refine w_op ?_ | with_reducible refine w_un ?_
  | with_reducible refine w_test ?_ | with_reducible refine w_tB ?_ | with_reducible refine w_not ?_ | with_reducible refine w_and ?_ | with_reducible refine w_or ?_ | with_reducible refine w_bl ?_
  | with_reducible refine w_andV ?_ | with_reducible refine w_orV ?_ | with_reducible refine w_notV ?_ | with_reducible refine w_ifE ?_ | with_reducible refine w_chain ?_ | with_reducible refine w_i0 ?_
  | with_reducible refine w_call ?_ | with_reducible refine w_callS ?_ | with_reducible refine w_cB ?_ | with_reducible refine w_tup ?_ | with_reducible refine w_lst ?_ | with_reducible refine w_fldV ?_
  | with_reducible refine w_neF ?_ | with_reducible refine w_neT ?_ | with_reducible refine w_notN ?_ | with_reducible refine w_isN ?_ | with_reducible refine w_gname ?_ | with_reducible refine w_gsub ?_ | with_reducible refine w_asg ?_ | with_reducible refine w_sl ?_ | with_reducible refine w_noP ?_ | with_reducible refine w_int1 ?_ | with_reducible refine w_part ?_ | with_reducible refine w_meth ?_ | with_reducible refine w_din ?_ | with_reducible refine w_dnotin ?_ | with_reducible refine w_dgt ?_ | with_reducible refine w_dget1 ?_ | with_reducible refine w_dget2 ?_ | with_reducible refine w_dput ?_ | with_reducible refine w_yes ?_ | with_reducible refine w_nT ?_ | with_reducible refine w_nF ?_ | with_reducible refine w_iteT ?_ | with_reducible refine w_iteF ?_))
namespace L2
open PySem PySem.Spec PyProof.Rows
/-- a def whose last parameters are handed in by name, and its promise -/
structure OkK (P : Program) (w : World) (K : PySem.W.Frag) (mg : Str → Option Value) (base : Heap) (k : Nat) (f : Addr) (ps : List Str) (n : Nat) (ks : List Str) (sp : Sp) : Prop where
  run : ∃ fd, FnOk P w K mg base (L2.CX P w) k f fd ps sp ∧ KBn K fd ps n ks (fun us ws => us ++ ws) (fun vs zs => vs ++ zs) ∧ PySem.W.keepIn K (.ref f) = true
theorem kb_of {K : PySem.W.Frag} {x qual : Str} {params : Arguments} {body : List Stmt} {scope : Scope} {f : Addr} {fd : FuncData} {ps ks : List Str} {n : Nat} (F : FunD K x qual params body scope [] [] f fd)
    (h : ∀ (kV doc pm : Value) (an : Option Addr) (cdv ct : Value) (us ws : List Value), us.length = n → ws.length = ks.length → bindArgs (PySem.W.fnOf x qual params body scope .none kV doc pm an cdv ct) ⟨us, ks.zip ws⟩ = pure (ps.zip (us ++ ws))) : KBn K fd ps n ks (fun us ws => us ++ ws) (fun vs zs => vs ++ zs) := by
  obtain ⟨oc, od, dV, kV, doc, pm, an, cdv, ct, osl, rfl, lk, hcd, hD, hK⟩ := F.ex
  rcases hD with ⟨_, rfl⟩ | ⟨e, _⟩
  · exact ⟨fun s us ws _ h1 h2 => .of_eq (h kV doc pm an cdv ct us ws h1 h2), fun a b => a.append b⟩
  · exact absurd rfl e
section
variable {X : Cx} {k n : Nat} {f : Addr} {ps ks : List Str} {sp : Sp} {x : Str} {e : Expr} {es : List Expr} {kws : List Keyword} {p pos : Pos} {t tk : TA}
theorem pe_fK (O : OkK X.prog X.w X.K X.mg X.base k f ps n ks sp) (hr : Room k X.A) (hm : X.mg x = some (.ref f)) (ha : PA X (e :: es) t) (hkw : PK X kws tk) (hg : Gl X x := by rfl) (hall : (backToKw pos (keywordEach kws X.env)).all (·.1.isSome) = true := by rfl)
    (hks : (backToKw pos (keywordEach kws X.env)).filterMap (·.1) = ks := by rfl) (hdb : (x == ("__debug__" : Str)) = false := by decide) (he : starEach (e :: es) X.env = (false, eval e X.env) :: starEach es X.env := by rfl)
    (hpl : ((backTo pos (starEach (e :: es) X.env)).any (·.1) || (backToKw pos (keywordEach kws X.env)).any (·.1.isNone)) = false := by rfl) : PE X (.Call (.Name x p) (e :: es) kws pos) (tCallN n ks.length sp (fun vs zs => vs ++ zs) E0 t tk) := by
  obtain ⟨fd, F, b, kp⟩ := O.run
  exact pe_callN F hr hg hm kp b passL ha hkw hall hks hdb he hpl
theorem w_callN {σ : L2.St} {H : Hp} {Q : VK} {E : XK} {m : Nat} (h : t σ H fun vs H1 => tk σ H1 fun zs H2 => vs.length = n ∧ zs.length = m ∧ sp (vs ++ zs) H2 Q E) : tCallN n m sp (fun vs zs => vs ++ zs) E t tk σ H Q := h
end
section
variable {X : Cx} {k : Nat} {f C : Addr} {ps : List Str} {sp : Sp} {x : Str} {e : Expr} {es : List Expr} {p pos : Pos} {t : TA}
/-- C(e, ..), nothing is raised -/
theorem pe_cls (M : Mk X.K C f) (O : Ok X.prog X.w X.K X.mg X.base k f ps sp) (hr : Room (k + 1) X.A) (hm : X.mg x = some (.ref C)) (ha : PA X (e :: es) t) (hg : Gl X x := by rfl) (hdb : (x == ("__debug__" : Str)) = false := by decide)
    (he : starEach (e :: es) X.env = (false, eval e X.env) :: starEach es X.env := by rfl) (hpl : (backTo pos (starEach es X.env)).any (·.1) = false := by rfl) :
    PE X (.Call (.Name x p) (e :: es) [] pos) (tMake C sp [] E0 t) := by
  obtain ⟨fd, F, b, kp⟩ := O.run
  exact pe_make M F hr hg hm b .nil passL ha hdb he hpl
theorem w_make {C : Addr} {sp : Sp} {dvs : List V} {E : XK} {t : TA} {σ : St} {H : Hp} {Q : VK} (h : t σ H fun vs H1 => ∀ x dx, H1 x = none → H1 dx = none → dx ≠ x → sp (.ref x :: (vs ++ dvs)) (upd (upd H1 dx (.own x)) x (.ins C dx [])) (fun v H2 => v = .non ∧ Q (.ref x) H2) E) : tMake C sp dvs E t σ H Q := h
end
end L2
namespace K3
theorem w_makeK {C : Addr} {n m : Nat} {sp : Sp} {gV : List V → List V → List V} {E : XK} {t tk : TA} {σ : L2.St} {H : Hp} {Q : VK} (h : t σ H fun vs H1 => tk σ H1 fun zs H2 => vs.length = n ∧ zs.length = m ∧ ∀ x dx, H2 x = none → H2 dx = none → dx ≠ x → sp (gV (.ref x :: vs) zs) (upd (upd H2 dx (.own x)) x (.ins C dx [])) (fun v H3 => v = .non ∧ Q (.ref x) H3) E) : tMakeK C n m sp gV E t tk σ H Q := h
theorem mkIT {K : PySem.W.Frag} {x f1 f2 f3 : Str} {v1 v3 : V} {l : Addr} {xs : List V} {H1 : Hp} {Q : VK} {E : XK} (hl : H1 l = some (.lst xs)) (q : ∀ a t H', H1 a = none → Same H1 H' → Ins K H' a x [(f1, v1), (f2, .ref t), (f3, v3)] → SqT K H' t xs → Q (.ref a) H') :
    ∀ a dx, H1 a = none → H1 dx = none → dx ≠ a → spIT K x f1 f2 f3 [.ref a, v1, .ref l, v3] (upd (upd H1 dx (.own a)) a (.ins (He.ga K x) dx [])) (fun v H2 => v = .non ∧ Q (.ref a) H2) E := by
  intro a dx ha hd hne
  have st : ∀ b o, H1 b = some o → upd (upd H1 dx (.own a)) a (.ins (He.ga K x) dx []) b = some o := fun b o hb => by rw [upd_ne (ne_of_none hb ha), upd_ne (ne_of_none hb hd)]; exact hb
  exact ⟨a, dx, l, v1, v3, xs, rfl, .inl (SqL.of (st _ _ hl)), upd_same, fun t H' h1 h2 h3 => ⟨rfl, q a t H' ha (fun b o hb => h3 b o (ne_of_none hb ha) (st b o hb)) ⟨dx, h1⟩ h2⟩⟩
theorem mkIS {K : PySem.W.Frag} {v3 : V} {l : Addr} {xs : List V} {H1 : Hp} {Q : VK} {E : XK} (hl : H1 l = some (.lst xs)) (q : ∀ a t H', H1 a = none → Same H1 H' → Ins K H' a "Section" [("rows", .ref t), ("where", v3)] → SqT K H' t xs → Q (.ref a) H') :
    ∀ a dx, H1 a = none → H1 dx = none → dx ≠ a → spIS K [.ref a, .ref l, v3] (upd (upd H1 dx (.own a)) a (.ins (He.ga K "Section") dx [])) (fun v H2 => v = .non ∧ Q (.ref a) H2) E := by
  intro a dx ha hd hne
  have st : ∀ b o, H1 b = some o → upd (upd H1 dx (.own a)) a (.ins (He.ga K "Section") dx []) b = some o := fun b o hb => by rw [upd_ne (ne_of_none hb ha), upd_ne (ne_of_none hb hd)]; exact hb
  exact ⟨a, dx, l, v3, xs, rfl, .inl (SqL.of (st _ _ hl)), upd_same, fun t H' h1 h2 h3 => ⟨rfl, q a t H' ha (fun b o hb => h3 b o (ne_of_none hb ha) (st b o hb)) ⟨dx, h1⟩ h2⟩⟩
theorem mkIK {K : PySem.W.Frag} {x : Str} {fs : List Str} {ws : List V} {H1 : Hp} {Q : VK} {E : XK} (hl : ws.length = fs.length) (q : ∀ a H', H1 a = none → Same H1 H' → Ins K H' a x (fs.zip ws) → Q (.ref a) H') :
    ∀ a dx, H1 a = none → H1 dx = none → dx ≠ a → spI K x fs (.ref a :: ws) (upd (upd H1 dx (.own a)) a (.ins (He.ga K x) dx [])) (fun v H2 => v = .non ∧ Q (.ref a) H2) E := by
  intro a dx ha hd hne
  refine ⟨a, dx, ws, rfl, hl, upd_same, fun H' h1 h2 => ⟨rfl, q a H' ha (fun b o hb => ?_) ⟨dx, h1⟩⟩⟩
  have nb : b ≠ a := ne_of_none hb ha
  exact h2 b o nb (by rw [upd_ne nb, upd_ne (ne_of_none hb hd)]; exact hb)
theorem ROs.app {K : PySem.W.Frag} {B : Hp} : ∀ {xs ys : List V} {rs ss : List Rw}, ROs K B xs rs → ROs K B ys ss → ROs K B (xs ++ ys) (rs ++ ss)
  | _, _, _, _, .nil, h => h
  | _, _, _, _, .cons a t, h => .cons a (ROs.app t h)
end K3
end Q5_part
section Q6_part
set_option Elab.async false
set_option linter.all false
set_option maxRecDepth 100000
set_option maxHeartbeats 1000000
set_option pp.deepTerms.threshold 5
open PySem PySem.Spec PyProof.Rows L2
/-- go on as far as nothing is open -/
local macro_rules | `(tactic| walk_at "go") => `(tactic| repeat (first
  | with_reducible refine w_seq ?_ | with_reducible refine w_next ?_ | with_reducible refine w_set ?_ | with_reducible refine w_drop ?_ | with_reducible refine w_ret ?_ | with_reducible refine w_retN ?_
  | with_reducible refine w_if ?_ | ((with_reducible refine' w_var ?hv ?_); (case hv => exact rfl)) | with_reducible refine w_c ?_ | with_reducible refine w_nil ?_ | with_reducible refine w_cons ?_ | with_reducible refine w_op ?_ | with_reducible refine w_un ?_
  | with_reducible refine w_test ?_ | with_reducible refine w_tB ?_ | with_reducible refine w_not ?_ | with_reducible refine w_and ?_ | with_reducible refine w_or ?_ | with_reducible refine w_bl ?_
  | with_reducible refine w_andV ?_ | with_reducible refine w_orV ?_ | with_reducible refine w_notV ?_ | with_reducible refine w_ifE ?_ | with_reducible refine w_chain ?_ | with_reducible refine w_i0 ?_
  | with_reducible refine w_call ?_ | with_reducible refine w_callS ?_ | with_reducible refine w_cB ?_ | with_reducible refine w_tup ?_ | with_reducible refine w_lst ?_ | with_reducible refine w_fldV ?_
  | with_reducible refine w_neF ?_ | with_reducible refine w_neT ?_ | with_reducible refine w_notN ?_ | with_reducible refine w_isN ?_ | with_reducible refine w_gname ?_ | with_reducible refine w_gsub ?_ | with_reducible refine w_asg ?_ | with_reducible refine w_sl ?_ | with_reducible refine w_noP ?_ | with_reducible refine w_int1 ?_ | with_reducible refine w_part ?_ | with_reducible refine w_meth ?_ | with_reducible refine w_din ?_ | with_reducible refine w_dnotin ?_ | with_reducible refine w_dgt ?_ | with_reducible refine w_dget1 ?_ | with_reducible refine w_dget2 ?_ | with_reducible refine w_dput ?_ | with_reducible refine w_yes ?_ | with_reducible refine w_nT ?_ | with_reducible refine w_nF ?_ | with_reducible refine w_iteT ?_ | with_reducible refine w_iteF ?_))
namespace K3
/-! ### an edition's making -/
def pairF : List (Str × Str) → Option Flt
  | [] => none
  | c :: r => thenF (nameF c.1) (thenF (nameF c.2) (pairF r))
def questsF (rs : List Rw) : List (Str × Str) → Option Flt
  | [] => none
  | c :: r => if (formQ rs c.2).isSome then questsF rs r else some (.quest c.2)
def cntF (n : Int) (cs : List (Str × Str)) : Option Flt := if n < 1 then some (.count "edition" n) else if n = 1 ∧ 0 < cs.length then some (.count "calls" cs.length) else none
def callsF (rs : List Rw) (cs : List (Str × Str)) : Option Flt := thenF (pairF cs) (thenF (dupF (cs.map (·.1))) (thenF (dupF (cs.map (·.2))) (questsF rs cs)))
def edF (e : Ed) : Option Flt := thenF (cntF e.num e.cs) (callsF e.rs e.cs)
theorem pairF_take {cs : List (Str × Str)} : ∀ {i : Nat} {c : Str × Str}, cs[i]? = some c → pairF (cs.take i) = none → (thenF (nameF c.1) (nameF c.2) = none → pairF (cs.take (i + 1)) = none) ∧ (∀ f, thenF (nameF c.1) (nameF c.2) = some f → pairF cs = some f) := by
  induction cs with
  | nil => intro i c h; simp at h
  | cons a r ih =>
    intro i c h hn
    cases i with
    | zero =>
      have e : a = c := by simpa using h
      subst e
      refine ⟨fun z => ?_, fun f z => ?_⟩
      · show thenF (nameF a.1) (thenF (nameF a.2) none) = none
        rw [thenF_none]
        exact z
      · show thenF (nameF a.1) (thenF (nameF a.2) (pairF r)) = some f
        cases h1 : nameF a.1 with
        | some g => rw [h1] at z; exact z
        | none =>
          rw [h1] at z
          have z : nameF a.2 = some f := z
          rw [z]
          rfl
    | succ i =>
      have h' : r[i]? = some c := by simpa using h
      obtain ⟨n1, n2⟩ := thenF_inv (show thenF (nameF a.1) (thenF (nameF a.2) (pairF (r.take i))) = none from hn)
      obtain ⟨n2, n3⟩ := thenF_inv n2
      obtain ⟨q1, q2⟩ := ih h' n3
      refine ⟨fun z => ?_, fun f z => ?_⟩
      · show thenF (nameF a.1) (thenF (nameF a.2) (pairF (r.take (i + 1)))) = none
        rw [n1, n2, q1 z]
        rfl
      · show thenF (nameF a.1) (thenF (nameF a.2) (pairF r)) = some f
        rw [n1, n2, q2 f z]
        rfl
theorem questsF_take {rs : List Rw} {cs : List (Str × Str)} : ∀ {i : Nat} {c : Str × Str}, cs[i]? = some c → questsF rs (cs.take i) = none → ((formQ rs c.2).isSome = true → questsF rs (cs.take (i + 1)) = none) ∧ ((formQ rs c.2).isSome = false → questsF rs cs = some (.quest c.2)) := by
  induction cs with
  | nil => intro i c h; simp at h
  | cons a r ih =>
    intro i c h hn
    cases i with
    | zero =>
      have e : a = c := by simpa using h
      subst e
      refine ⟨fun z => ?_, fun z => ?_⟩
      · show (if (formQ rs a.2).isSome = true then none else _) = none
        rw [z]; rfl
      · show (if (formQ rs a.2).isSome = true then questsF rs r else some (.quest a.2)) = _
        rw [z]; rfl
    | succ i =>
      have h' : r[i]? = some c := by simpa using h
      have hn : (if (formQ rs a.2).isSome = true then questsF rs (r.take i) else some (.quest a.2)) = none := hn
      cases ha : (formQ rs a.2).isSome with
      | false => rw [ha] at hn; cases hn
      | true =>
        rw [ha] at hn
        obtain ⟨q1, q2⟩ := ih h' hn
        refine ⟨fun z => ?_, fun z => ?_⟩
        · show (if (formQ rs a.2).isSome = true then questsF rs (r.take (i + 1)) else some (.quest a.2)) = none
          rw [ha]; exact q1 z
        · show (if (formQ rs a.2).isSome = true then questsF rs r else some (.quest a.2)) = _
          rw [ha]; exact q2 z
def spCnt (K : PySem.W.Frag) : Sp := fun vs H Q E => ∃ (n : Int) (t : Addr) (cs : List (Str × Str)), vs = [.int n, .ref t] ∧ CallsO K H t cs ∧ End K (cntF n cs) H Q E
def spCalls (K : PySem.W.Frag) : Sp := fun vs H Q E => ∃ (t f : Addr) (cs : List (Str × Str)) (rs : List Rw), vs = [.ref t, .ref f] ∧ CallsO K H t cs ∧ cs.length ≤ 1000 ∧ (∀ c ∈ cs, c.1.length ≤ 1000 ∧ c.2.length ≤ 1000) ∧ FormO K H f rs ∧ End K (callsF rs cs) H Q E
/-- pairs, each a tuple, in a list or a tuple -/
def PairsO (K : PySem.W.Frag) (H : Hp) (a : Addr) (cs : List (Str × Str)) : Prop := ∃ ps : List Addr, SqE K H a (ps.map V.ref) ∧ Paired (fun p c => SqT K H p [.str c.1, .str c.2]) ps cs
/-- what Edition.__init__ leaves: B is what stood ahead of the new instance at x -/
def EdEnd (K : PySem.W.Frag) (e : Ed) (x dx f : Addr) (B : Hp) (Q : VK) (E : XK) : Prop := match edF e with
  | some g => ∀ cls d H', Same B H' → IsF K g cls d H' → E cls d H'
  | none => ∀ H' t, Same B H' → H' x = some (.ins (He.ga K "Edition") dx [("number", .int e.num), ("form", .ref f), ("calls", .ref t)]) → CallsO K H' t e.cs → Q .non H'
def spEd (K : PySem.W.Frag) : Sp := fun vs H Q E => ∃ (x dx f c : Addr) (e : Ed) (B : Hp), vs = [.ref x, .int e.num, .ref f, .ref c] ∧ Same B H ∧ B x = none ∧ PairsO K B c e.cs ∧ FormO K B f e.rs ∧ e.cs.length ≤ 1000 ∧ (∀ p ∈ e.cs, p.1.length ≤ 1000 ∧ p.2.length ≤ 1000) ∧
  H x = some (.ins (He.ga K "Edition") dx []) ∧ EdEnd K e x dx f B Q E
section
variable {P : Program} {w : World} {K : PySem.W.Frag} {mg : Str → Option Value} {base : Heap}
theorem lc_pairs {t D : Addr} {ps : List Addr} {cs : List (Str × Str)} {te : TE} {vs : List Nat} {σ : L2.St} {i1 i2 : Nat} {H1 : Hp} {Qd : Hp → Prop} (f : Str × Str → V)
    (ht : SqT K H1 t (ps.map V.ref)) (hps : Paired (fun p c => SqT K H1 p [.str c.1, .str c.2]) ps cs) (hD : H1 D = none) (hl : cs.length ≤ 10000)
    (hw : ∀ x y, wipe (((wipe σ vs).set i1 (some x)).set i2 (some y)) vs = wipe σ vs)
    (he : ∀ (c : Str × Str) (H' : Hp) (Q : VK), Q (f c) H' → te (((wipe σ vs).set i1 (some (.str c.1))).set i2 (some (.str c.2))) H' Q)
    (hd : ∀ H', Same H1 H' → H' D = some (.lst (cs.map f)) → Qd H') :
    ∃ W : Nat → Nat → Hp → Prop, (∃ m, W 0 m (upd H1 D (.lst []))) ∧ ∀ i m H, W i m H →
    ((Itt K t).stop i H ∧ Qd H) ∨ ((Itt K t).go i H ∧ ∃ Nx : Hp → Prop, (∀ H', Nx H' → ∃ m', m' < m ∧ W (i + 1) m' H') ∧ ∀ x H', (Itt K t).yld i H x H' → gTup K 2 (gCons (gName i1) (gCons (gName i2) gNil)) x (wipe σ vs) H' fun σ2 H2 =>
      wipe σ2 vs = wipe σ vs ∧ tYes σ2 H2 fun b H3 => if b = true then te σ2 H3 fun y H4 => ∃ acc, H4 D = some (.lst acc) ∧ acc.length < sizeLine ∧ Nx (upd H4 D (.lst (acc ++ [y]))) else Nx H3) := by
  refine lc_it (walk_tup (K := K) (a := t) (xs := ps.map V.ref)) (fun i H' => Same H1 H' ∧ H' D = some (.lst ((cs.take i).map f))) ⟨Same.new hD _, upd_same⟩ (fun i H' _ z => z.1.sqt ht) ?_ ?_
  · rintro i v H2 H2' hi ⟨e1, h1⟩ ⟨e2', hv⟩
    have e2 := e2'.symm
    subst e2
    rw [List.length_map] at hi
    obtain ⟨p, hp, rfl⟩ := map_ref hv
    obtain ⟨c, hc, hpc⟩ := K3.Paired.get hps hp
    refine ⟨p, _, rfl, e1.sqt hpc, rfl, _, _, rfl, ?_⟩
    walk_at "go"
    refine ⟨_, _, rfl, ?_⟩
    walk_at "go"
    refine ⟨rfl, hw _ _, ?_⟩
    walk_at "go"
    have lcs : i < cs.length := (List.getElem?_eq_some_iff.mp hc).1
    refine he c _ _ ⟨_, h1, ?_, e1.mut hD, ?_⟩
    · rw [List.length_map, List.length_take]
      exact Nat.lt_of_le_of_lt (show _ ≤ 10000 by omega) (by decide)
    · rw [upd_same, List.take_add_one, hc, List.map_append]
      rfl
  · rintro H2 ⟨e1, h1⟩
    rw [List.length_map, hps.length, List.take_length] at h1
    exact hd H2 e1 h1
theorem sc_refuse_counts : FnScope ["number", "calls"] ["number", "calls"] (defScope s_refuse_counts) := ⟨rfl, rfl, rfl, by decide +kernel, rfl, by decide +kernel, by decide +kernel⟩
theorem ok_refuse_counts (T : Tx K mg) : Ok P w K mg base 3 (He.ga K "refuse_counts") ["number", "calls"] (spCnt K) := by
  obtain ⟨fd, F⟩ := T.f_refuse_counts
  refine ⟨fd, F.ok (k := 2) sc_refuse_counts (fun vs H Q E h => ?_) (fun cdv A outer s_ H vs Q E hr h => ?_), F.bindsN fun _ _ _ _ _ _ us hl => match us, hl with | [_, _], _ => rfl, F.kp⟩
  · obtain ⟨n, t, cs, rfl, hc, q⟩ := h
    rfl
  obtain ⟨n, t, cs, rfl, hc, q⟩ := h
  have hu65 := K3.Room.units65 hr
  have hu70 := K3.Room.units70 hr
  have hu4 := K3.Room.units4 hr
  have hu64 := Nat.lt_of_succ_lt hu65
  have hu0 := Nat.lt_of_le_of_lt (Nat.le_add_right _ 65) hu65
  have hu1 := Nat.lt_of_le_of_lt (Nat.add_le_add_left (show 1 ≤ 65 by decide) _) hu65
  refine ⟨_, pss_cons (ps_if (pt_cmpR op_lt (pv 0) pe_int (nomark _)) (pss_one (ps_err2 (T.err (x := "BadCount") (by decide)) T.m_BadCount_init (ok_BadCount T) (hr.mono (by omega)) T.g_BadCount (takes_of rfl rfl rfl rfl) pe_str (pv 0))) pss_nil)
      (pss_one (ps_if (pw_and (pt_cmpR op_eq (pv 0) pe_int (nomark _)) (pw_and1 (pt_cmpR op_gt (pe_callB call_len_seq (by rfl) T.z_len PySem.boot_len (pa_cons (pv 1) pa_nil)) pe_int (nomark _)))).pt (pss_one (ps_err2 (T.err (x := "BadCount") (by decide)) T.m_BadCount_init (ok_BadCount T) (hr.mono (by omega)) T.g_BadCount (takes_of rfl rfl rfl rfl) pe_str (pe_callB call_len_seq (by rfl) T.z_len PySem.boot_len (pa_cons (pv 1) pa_nil)))) pss_nil)), ?_⟩
  obtain ⟨ps, ht, hps⟩ := id hc.at_
  walk_at "go"
  have lps := hps.length
  have q0 : ∀ g, cntF n cs = some g → ∀ cls d H', Same H H' → IsF K g cls d H' → E cls d H' := fun g h => by
    rw [h] at q
    exact q
  have q1 : cntF n cs = none → Q .non H := fun h => by
    rw [h] at q
    exact q H (Same.refl _)
  by_cases c1 : n < 1
  · rw [decide_eq_true c1]
    walk_at "go"
    refine w_err2 ?_
    walk_at "go"
    exact gErr2_of fun dd H4 e4 h4 => q0 (.count "edition" n) (by unfold cntF; rw [if_pos c1]) _ _ H4 e4 ⟨rfl, dd, rfl, h4⟩
  · rw [decide_eq_false c1]
    walk_at "go"
    refine ⟨rfl, ?_⟩
    rw [decV]
    walk_at "go"
    by_cases c2 : n = 1
    · rw [decide_eq_true c2]
      walk_at "go"
      refine ⟨t, _, rfl, .inr ht, ?_⟩
      rw [List.length_map, lps]
      walk_at "go"
      by_cases c3 : (0 : Int) < (cs.length : Int)
      · rw [decide_eq_true c3]
        walk_at "go"
        refine w_err2 ?_
        walk_at "go"
        refine ⟨t, _, rfl, .inr ht, ?_⟩
        rw [List.length_map, lps]
        exact gErr2_of fun dd H4 e4 h4 => q0 (.count "calls" cs.length) (by unfold cntF; rw [if_neg c1, if_pos ⟨c2, by omega⟩]) _ _ H4 e4 ⟨rfl, dd, rfl, h4⟩
      · rw [decide_eq_false c3]
        walk_at "go"
        exact q1 (by unfold cntF; rw [if_neg c1, if_neg (fun z => c3 (by have := z.2; omega))])
    · rw [decide_eq_false c2]
      walk_at "go"
      exact q1 (by unfold cntF; rw [if_neg c1, if_neg (fun z => c2 z.1)])
theorem sc_refuse_calls : FnScope ["calls", "form", "old", "new"] ["calls", "form"] (defScope s_refuse_calls) := ⟨rfl, rfl, rfl, by decide +kernel, rfl, by decide +kernel, by decide +kernel⟩
theorem ok_refuse_calls (T : Tx K mg) : Ok P w K mg base 4 (He.ga K "refuse_calls") ["calls", "form"] (spCalls K) := by
  obtain ⟨fd, F⟩ := T.f_refuse_calls
  have Ohas_question := ok_has_question (P := P) (w := w) (base := base) T
  have Orefuse_twice := ok_refuse_twice (P := P) (w := w) (base := base) T
  have Orefuse_no_name := ok_refuse_no_name (P := P) (w := w) (base := base) T
  refine ⟨fd, F.ok (k := 3) sc_refuse_calls (fun vs H Q E h => ?_) (fun cdv A outer s_ H vs Q E hr h => ?_), F.bindsN fun _ _ _ _ _ _ us hl => match us, hl with | [_, _], _ => rfl, F.kp⟩
  · obtain ⟨t, f, cs, rs, rfl, hc, lc, ln, hf, q⟩ := h
    rfl
  obtain ⟨t, f, cs, rs, rfl, hc, lc, ln, hf, q⟩ := h
  have hu65 := K3.Room.units65 hr
  have hu70 := K3.Room.units70 hr
  have hu4 := K3.Room.units4 hr
  have hu64 := Nat.lt_of_succ_lt hu65
  have hu0 := Nat.lt_of_le_of_lt (Nat.le_add_right _ 65) hu65
  have hu1 := Nat.lt_of_le_of_lt (Nat.add_le_add_left (show 1 ≤ 65 by decide) _) hu65
  have rhas_question : Room 2 _ := hr.mono (by decide)
  have rrefuse_twice : Room 3 _ := hr.mono (by decide)
  have rrefuse_no_name : Room 3 _ := hr.mono (by decide)
  refine ⟨_, pss_cons (ps_for (passes_of rfl) (by rfl) (pi_tup (pv 0)) (pg_tup (by rfl) (pgs_cons (pg_name (i := 2) sc_refuse_calls.nd rfl (Or.inl rfl)) (pgs_cons (pg_name (i := 3) sc_refuse_calls.nd rfl (Or.inl rfl)) pgs_nil))) (pss_cons (ps_expr (pe_fE (takes_of rfl rfl rfl rfl) Orefuse_no_name rrefuse_no_name T.g_refuse_no_name (pa_cons (pv 2) pa_nil)))
      (pss_one (ps_expr (pe_fE (takes_of rfl rfl rfl rfl) Orefuse_no_name rrefuse_no_name T.g_refuse_no_name (pa_cons (pv 3) pa_nil))))))
      (pss_cons (ps_expr (pe_fE (takes_of rfl rfl rfl rfl) Orefuse_twice rrefuse_twice T.g_refuse_twice (pa_cons (by exact pe_lc (own := [("old", 2), ("new", 3)]) (g := gTup K 2 (gCons (gName 2) (gCons (gName 3) gNil))) (tt := tYes) (te := (tVar 2)) (by rfl) sc_refuse_calls.nd (pi_tup (pv 0)) (blkOk_by (own := [("old", 2), ("new", 3)]) (N := ["calls", "form", "old", "new"]) (sc := defScope s_refuse_calls) (by decide +kernel)) (fun _ _ _ _ _ => (pg_tup (by rfl) (pgs_cons (pg_name (i := 2) sc_refuse_calls.nd rfl (Or.inl rfl)) (pgs_cons (pg_name (i := 3) sc_refuse_calls.nd rfl (Or.inl rfl)) pgs_nil)))) (fun _ _ _ _ _ => pts_nil) (fun _ _ _ _ _ => (pv 2))) pa_nil)))
      (pss_cons (ps_expr (pe_fE (takes_of rfl rfl rfl rfl) Orefuse_twice rrefuse_twice T.g_refuse_twice (pa_cons (by exact pe_lc (own := [("old", 2), ("new", 3)]) (g := gTup K 2 (gCons (gName 2) (gCons (gName 3) gNil))) (tt := tYes) (te := (tVar 3)) (by rfl) sc_refuse_calls.nd (pi_tup (pv 0)) (blkOk_by (own := [("old", 2), ("new", 3)]) (N := ["calls", "form", "old", "new"]) (sc := defScope s_refuse_calls) (by decide +kernel)) (fun _ _ _ _ _ => (pg_tup (by rfl) (pgs_cons (pg_name (i := 2) sc_refuse_calls.nd rfl (Or.inl rfl)) (pgs_cons (pg_name (i := 3) sc_refuse_calls.nd rfl (Or.inl rfl)) pgs_nil)))) (fun _ _ _ _ _ => pts_nil) (fun _ _ _ _ _ => (pv 3))) pa_nil)))
      (pss_one (ps_for (passes_of rfl) (by rfl) (pi_tup (pv 0)) (pg_tup (by rfl) (pgs_cons (pg_name (i := 2) sc_refuse_calls.nd rfl (Or.inl rfl)) (pgs_cons (pg_name (i := 3) sc_refuse_calls.nd rfl (Or.inl rfl)) pgs_nil))) (pss_one (ps_if (pt_not (pt_val (pe_f Ohas_question rhas_question T.g_has_question (pa_cons (pv 1) (pa_cons (pv 3) pa_nil))))) (pss_one (ps_err1 (T.err (x := "NoQuestion") (by decide)) T.m_NoQuestion_init (ok_NoQuestion T) (hr.mono (by omega)) T.g_NoQuestion (takes_of rfl rfl rfl rfl) (pv 3))) pss_nil)))))), ?_⟩
  obtain ⟨ps, ht, hps⟩ := id hc.at_
  walk_at "go"
  have lps := hps.length
  refine ⟨_, rfl, t, rfl, ⟨_, ht⟩, ?_⟩
  refine for_it (walk_tup (K := K) (a := t) (xs := ps.map V.ref)) (fun (i : Nat) σ H' => ∃ o2 o3 : Option V, σ = [some (.ref t), some (.ref f), o2, o3] ∧ Same H H' ∧ pairF (cs.take i) = none) ⟨none, none, rfl, Same.refl _, rfl⟩ (fun i σ H' _ ⟨_, _, _, e, _⟩ => e.sqt ht) ?_ ?_
  · rintro i x σ H1 H1' hi ⟨o2, o3, rfl, e1, hn⟩ ⟨e1', hx⟩
    have e1s := e1'.symm
    subst e1s
    obtain ⟨p, hp, rfl⟩ := map_ref hx
    obtain ⟨c, hcc, hpc⟩ := K3.Paired.get hps hp
    obtain ⟨l1, l2⟩ := ln c (List.mem_of_getElem? hcc)
    obtain ⟨g1, g2⟩ := pairF_take hcc hn
    have bad : ∀ g, thenF (nameF c.1) (nameF c.2) = some g → ∀ cls d H', Same H H' → IsF K g cls d H' → E cls d H' := fun g h => by
      have : callsF rs cs = some g := by unfold callsF; rw [g2 g h]; rfl
      rw [this] at q
      exact q
    refine ⟨p, _, rfl, e1.sqt hpc, rfl, _, _, rfl, ?_⟩
    walk_at "go"
    refine ⟨_, _, rfl, ?_⟩
    walk_at "go"
    refine ⟨rfl, ?_⟩
    walk_at "go"
    refine ⟨c.1, rfl, l1, ?_⟩
    cases h1 : nameF c.1 with
    | some g => exact fun cls d H2 e2 h2 => bad g (by rw [h1]; rfl) cls d H2 (e1.trans e2) h2
    | none =>
      intro H2 e2
      walk_at "go"
      refine ⟨c.2, rfl, l2, ?_⟩
      cases h2 : nameF c.2 with
      | some g => exact fun cls d H3 e3 h3 => bad g (by rw [h1, h2]; rfl) cls d H3 ((e1.trans e2).trans e3) h3
      | none =>
        intro H3 e3
        exact ⟨_, _, rfl, (e1.trans e2).trans e3, g1 (by rw [h1, h2]; rfl)⟩
  · rintro σ H1 ⟨o2, o3, rfl, e1, hn⟩
    rw [List.length_map, lps, List.take_length] at hn
    have q2 : End K (thenF (dupF (cs.map (·.1))) (thenF (dupF (cs.map (·.2))) (questsF rs cs))) H1 Q E := by
      have : callsF rs cs = thenF (dupF (cs.map (·.1))) (thenF (dupF (cs.map (·.2))) (questsF rs cs)) := by unfold callsF; rw [hn]; rfl
      rw [this] at q
      exact q.mono e1
    have ht1 := e1.sqt ht
    have hps1 : Paired (fun p c => SqT K H1 p [.str c.1, .str c.2]) ps cs := L2.Paired.mapP hps fun _ _ z => e1.sqt z
    walk_at "go"
    refine lc_open ?_
    refine ⟨_, rfl, t, rfl, ⟨_, ht1⟩, fun D hD => ?_⟩
    refine lc_pairs (fun c => .str c.1) ht1 hps1 hD (by omega) (fun _ _ => rfl) (fun c H' Q h => ?_) fun H2 e2 h2 => ?_
    · walk_at "go"
      exact h
    walk_at "go"
    refine ⟨D, cs.map (·.1), rfl, .lst (by rw [h2, List.map_map]; rfl), by rw [List.length_map]; exact lc, ?_⟩
    refine End_seq (q2.mono e2) fun H3 e3 q3 => ?_
    have e23 := e2.trans e3
    have ht3 := e23.sqt ht1
    have hps3 : Paired (fun p c => SqT K H3 p [.str c.1, .str c.2]) ps cs := L2.Paired.mapP hps1 fun _ _ z => e23.sqt z
    walk_at "go"
    refine lc_open ?_
    refine ⟨_, rfl, t, rfl, ⟨_, ht3⟩, fun D2 hD2 => ?_⟩
    refine lc_pairs (fun c => .str c.2) ht3 hps3 hD2 (by omega) (fun _ _ => rfl) (fun c H' Q h => ?_) fun H4 e4 h4 => ?_
    · walk_at "go"
      exact h
    walk_at "go"
    refine ⟨D2, cs.map (·.2), rfl, .lst (by rw [h4, List.map_map]; rfl), by rw [List.length_map]; exact lc, ?_⟩
    refine End_seq (q3.mono e4) fun H5 e5 q5 => ?_
    have e05 := (e1.trans e23).trans (e4.trans e5)
    have hf5 := hf.same e05
    walk_at "go"
    refine ⟨_, rfl, t, rfl, ⟨_, e05.sqt ht⟩, ?_⟩
    refine for_it (walk_tup (K := K) (a := t) (xs := ps.map V.ref)) (fun (i : Nat) σ H' => ∃ o2 o3 : Option V, σ = [some (.ref t), some (.ref f), o2, o3] ∧ Same H5 H' ∧ questsF rs (cs.take i) = none) ⟨_, _, rfl, Same.refl _, rfl⟩ (fun i σ H' _ ⟨_, _, _, e, _⟩ => (e05.trans e).sqt ht) ?_ ?_
    · rintro i x σ H6 H6' hi ⟨o4, o5, rfl, e6, hn6⟩ ⟨e6', hx⟩
      have e6s := e6'.symm
      subst e6s
      obtain ⟨p, hp, rfl⟩ := map_ref hx
      obtain ⟨c, hcc, hpc⟩ := K3.Paired.get hps hp
      obtain ⟨g1, g2⟩ := questsF_take (rs := rs) hcc hn6
      refine ⟨p, _, rfl, (e05.trans e6).sqt hpc, rfl, _, _, rfl, ?_⟩
      walk_at "go"
      refine ⟨_, _, rfl, ?_⟩
      walk_at "go"
      refine ⟨rfl, ?_⟩
      walk_at "go"
      refine ⟨f, c.2, rs, rfl, hf5.same e6, fun H7 e7 => ?_⟩
      cases hq : (formQ rs c.2).isSome with
      | true =>
        walk_at "go"
        exact ⟨_, _, rfl, e6.trans e7, g1 hq⟩
      | false =>
        walk_at "go"
        refine w_err1 ?_
        walk_at "go"
        have := g2 hq
        rw [this] at q5
        exact gErr1_of fun dd H8 e8 h8 => q5 _ _ H8 ((e6.trans e7).trans e8) ⟨rfl, dd, rfl, h8⟩
    · rintro σ H6 ⟨o4, o5, rfl, e6, hn6⟩
      rw [List.length_map, lps, List.take_length] at hn6
      rw [hn6] at q5
      exact q5 H6 e6
theorem sc_Edition_init : FnScope ["self", "number", "form", "calls", "pairs", "old", "new"] ["self", "number", "form", "calls"] (defScope s_Edition_init) := ⟨rfl, rfl, rfl, by decide +kernel, rfl, by decide +kernel, by decide +kernel⟩
theorem ok_Edition (T : Tx K mg) {fd : FuncData} (F : FunD K "__init__" "Edition.__init__" (defArgs s_Edition_init) (defBody s_Edition_init) (defScope s_Edition_init) [] [] (He.ma K (He.ga K "Edition") "__init__") fd) : FnOk P w K mg base (L2.CX P w) 5 (He.ma K (He.ga K "Edition") "__init__") fd ["self", "number", "form", "calls"] (spEd K) := by
  have Orefuse_counts := ok_refuse_counts (P := P) (w := w) (base := base) T
  have Orefuse_calls := ok_refuse_calls (P := P) (w := w) (base := base) T
  refine F.ok (k := 4) sc_Edition_init (fun vs H Q E h => ?_) (fun cdv A outer s_ H vs Q E hr h => ?_)
  · obtain ⟨x, dx, f, c, e, B, rfl, _⟩ := h
    rfl
  obtain ⟨x, dx, f, c, e, B, rfl, e0, hBx, ⟨ps, ⟨bq, hc⟩, hps⟩, hf, lc, ln, hx, q⟩ := h
  have rrefuse_counts : Room 3 _ := hr.mono (by decide)
  have rrefuse_calls : Room 4 _ := hr
  refine ⟨_, pss_cons (ps_set (i := 4) sc_Edition_init.nd rfl (Or.inl rfl) (pe_callTy call_tuple_of (by rfl) T.z_tuple (by decide +kernel) (pa_cons (by exact pe_lc (own := [("old", 5), ("new", 6)]) (g := gTup K 2 (gCons (gName 5) (gCons (gName 6) gNil))) (tt := tYes) (te := (tTup (tCons (tVar 5) (tCons (tVar 6) tNil)))) (by rfl) sc_Edition_init.nd (pi_seq (pv 3)) (blkOk_by (own := [("old", 5), ("new", 6)]) (N := ["self", "number", "form", "calls", "pairs", "old", "new"]) (sc := defScope s_Edition_init) (by decide +kernel)) (fun _ _ _ _ _ => (pg_tup (by rfl) (pgs_cons (pg_name (i := 5) sc_Edition_init.nd rfl (Or.inl rfl)) (pgs_cons (pg_name (i := 6) sc_Edition_init.nd rfl (Or.inl rfl)) pgs_nil)))) (fun _ _ _ _ _ => pts_nil) (fun _ _ _ _ _ => (pe_tup (pa_cons (pv 5) (pa_cons (pv 6) pa_nil))))) pa_nil)))
      (pss_cons (ps_expr (pe_fE (takes_of rfl rfl rfl rfl) Orefuse_counts rrefuse_counts T.g_refuse_counts (pa_cons (pv 1) (pa_cons (pv 4) pa_nil))))
      (pss_cons (ps_expr (pe_fE (takes_of rfl rfl rfl rfl) Orefuse_calls rrefuse_calls T.g_refuse_calls (pa_cons (pv 4) (pa_cons (pv 2) pa_nil))))
      (pss_cons (ps_fld (pv 0) (pv 1) rfl)
      (pss_cons (ps_fld (pv 0) (pv 2) rfl)
      (pss_one (ps_fld (pv 0) (pv 4) rfl)))))), ?_⟩
  walk_at "go"
  have hc0 : SqB K H bq c (ps.map V.ref) := hc.same e0
  have hps0 : Paired (fun p c => SqT K H p [.str c.1, .str c.2]) ps e.cs := L2.Paired.mapP hps fun _ _ z => e0.sqt z
  have lps := hps.length
  refine lc_open ?_
  refine ⟨_, rfl, c, bq, rfl, ⟨_, hc0⟩, fun D hD => ?_⟩
  refine lc_it (walk_B (K := K) (a := c) (xs := ps.map V.ref) (b := bq)) (fun i H' => Same H H' ∧ ∃ ws : List Addr, H' D = some (.lst (ws.map V.ref)) ∧ Paired (fun p c => H' p = some (.tup [.str c.1, .str c.2])) ws (e.cs.take i)) ⟨Same.new hD _, [], upd_same, .nil⟩ (fun i H' _ z => hc0.same z.1) ?_ ?_
  · rintro i v H2 H2' hi ⟨e1, ws, h1, hws⟩ ⟨e2', hv⟩
    have e2 := e2'.symm
    subst e2
    rw [List.length_map] at hi
    obtain ⟨p, hp, rfl⟩ := map_ref hv
    obtain ⟨c', hc', hpc⟩ := K3.Paired.get hps0 hp
    refine ⟨p, _, rfl, e1.sqt hpc, rfl, _, _, rfl, ?_⟩
    walk_at "go"
    refine ⟨_, _, rfl, ?_⟩
    walk_at "go"
    refine ⟨rfl, rfl, ?_⟩
    walk_at "go"
    refine ⟨(by show 2 ≤ sizeLine; decide), fun p0 hp0 => ?_⟩
    have s2 := Same.new hp0 (.tup [V.str c'.1, V.str c'.2])
    have lcs : i < e.cs.length := (List.getElem?_eq_some_iff.mp hc').1
    have lw := hws.length
    rw [List.length_take] at lw
    refine ⟨_, s2 _ _ h1, ?_, (e1.trans s2).mut hD, ws ++ [p0], ?_, ?_⟩
    · rw [List.length_map]
      exact Nat.lt_of_le_of_lt (show _ ≤ 1000 by omega) (by decide)
    · rw [upd_same, List.map_append]
      rfl
    · rw [List.take_add_one, hc']
      have nD : ∀ b, (upd H2 p0 (.tup [V.str c'.1, V.str c'.2])) b = some (.tup [V.str c'.1, V.str c'.2]) → b ≠ D := fun b hb z => by rw [z, s2 _ _ h1] at hb; cases hb
      refine K3.Paired.app (L2.Paired.mapP hws fun b cc hb => ?_) (.cons ?_ .nil)
      · rw [upd_ne (fun z => by rw [z, h1] at hb; cases hb)]
        exact s2 _ _ hb
      · rw [upd_ne (nD _ upd_same)]
        exact upd_same
  · rintro H2 ⟨e1, ws, h1, hws⟩
    rw [List.length_map, lps, List.take_length] at hws
    walk_at "go"
    refine ⟨D, _, rfl, .inl ⟨SqL.of h1, fun t ht => ?_⟩⟩
    have s2 := Same.new ht (.tup (ws.map V.ref))
    have e12 := e1.trans s2
    have hcO : CallsO K (upd H2 t (.tup (ws.map V.ref))) t e.cs := ⟨⟨ws, SqT.of upd_same, L2.Paired.mapP hws fun _ _ z => SqT.of (s2 _ _ z)⟩⟩
    generalize upd H2 t (.tup (ws.map V.ref)) = H3 at s2 e12 hcO
    have q0 : ∀ g, edF e = some g → ∀ cls d H', Same B H' → IsF K g cls d H' → E cls d H' := fun g h => by
      unfold EdEnd at q
      rw [h] at q
      exact q
    have e03 := e0.trans e12
    walk_at "go"
    refine ⟨e.num, t, e.cs, rfl, hcO, ?_⟩
    cases h1 : cntF e.num e.cs with
    | some g => exact fun cls d H4 e4 h4 => q0 g (by unfold edF; rw [h1]; rfl) cls d H4 (e03.trans e4) h4
    | none =>
      intro H4 e4
      walk_at "go"
      have hf4 := hf.same (e03.trans e4)
      refine ⟨t, f, e.cs, e.rs, rfl, hcO.same e4, lc, ln, hf4, ?_⟩
      cases h2 : callsF e.rs e.cs with
      | some g => exact fun cls d H5 e5 h5 => q0 g (by unfold edF; rw [h1, h2]; rfl) cls d H5 ((e03.trans e4).trans e5) h5
      | none =>
        intro H5 e5
        have e45 := e4.trans e5
        have hx5 := (e12.trans e45) _ _ hx
        have hcO5 := hcO.same e45
        have q1 : ∀ H' t, Same B H' → H' x = some (.ins (He.ga K "Edition") dx [("number", .int e.num), ("form", .ref f), ("calls", .ref t)]) → CallsO K H' t e.cs → Q .non H' := by
          unfold EdEnd at q
          rw [show edF e = none by unfold edF; rw [h1, h2]; rfl] at q
          exact q
        walk_at "go"
        refine ⟨_, rfl, _, rfl, x, _, dx, _, rfl, hx5, T.cl_Edition, T.n_Edition_number, (by show 0 < 1000; decide), ?_⟩
        refine ⟨_, rfl, _, rfl, x, _, dx, _, rfl, upd_same, T.cl_Edition, T.n_Edition_form, (by show 1 < 1000; decide), ?_⟩
        refine ⟨_, rfl, _, rfl, x, _, dx, _, rfl, upd_same, T.cl_Edition, T.n_Edition_calls, (by show 2 < 1000; decide), ?_⟩
        refine q1 _ t ?_ upd_same ?_
        · exact Same.mut (Same.mut (Same.mut (e03.trans e45) hBx) hBx) hBx
        · obtain ⟨ws5, g1, g2⟩ := hcO5.at_
          have far : ∀ {H : Hp} {o o' : HO} {a : Addr} {C : Addr} {fs : List (Str × V)} {ys : List V}, H x = some (.ins C dx fs) → SqT K H a ys → SqT K (upd H x o) a ys := fun h g => SqT.far h g
          exact ⟨⟨ws5, SqT.far upd_same (SqT.far upd_same (SqT.far hx5 g1)), L2.Paired.mapP g2 fun _ _ z => SqT.far upd_same (SqT.far upd_same (SqT.far hx5 z))⟩⟩
end
end K3
end Q6_part
section W1_part
set_option Elab.async false
set_option linter.all false
set_option maxRecDepth 100000
set_option maxHeartbeats 1000000
set_option pp.deepTerms.threshold 5
open PySem PySem.Spec PyProof.Rows L2
/-- go on as far as nothing is open -/
local macro_rules | `(tactic| walk_at "go") => `(tactic| repeat (first
  | with_reducible refine w_seq ?_ | with_reducible refine w_next ?_ | with_reducible refine w_set ?_ | with_reducible refine w_drop ?_ | with_reducible refine w_ret ?_ | with_reducible refine w_retN ?_
  | with_reducible refine w_if ?_ | ((with_reducible refine' w_var ?hv ?_); (case hv => exact rfl)) | with_reducible refine w_c ?_ | with_reducible refine w_nil ?_ | with_reducible refine w_cons ?_ | with_reducible refine w_op ?_ | with_reducible refine w_un ?_
  | with_reducible refine w_test ?_ | with_reducible refine w_tB ?_ | with_reducible refine w_not ?_ | with_reducible refine w_and ?_ | with_reducible refine w_or ?_ | with_reducible refine w_bl ?_
  | with_reducible refine w_andV ?_ | with_reducible refine w_orV ?_ | with_reducible refine w_notV ?_ | with_reducible refine w_ifE ?_ | with_reducible refine w_chain ?_ | with_reducible refine w_i0 ?_
  | with_reducible refine w_call ?_ | with_reducible refine w_callS ?_ | with_reducible refine w_cB ?_ | with_reducible refine w_tup ?_ | with_reducible refine w_lst ?_ | with_reducible refine w_fldV ?_
  | with_reducible refine w_neF ?_ | with_reducible refine w_neT ?_ | with_reducible refine w_notN ?_ | with_reducible refine w_isN ?_ | with_reducible refine w_gname ?_ | with_reducible refine w_gsub ?_ | with_reducible refine w_asg ?_ | with_reducible refine w_sl ?_ | with_reducible refine w_noP ?_ | with_reducible refine w_int1 ?_ | with_reducible refine w_part ?_ | with_reducible refine w_meth ?_ | with_reducible refine w_din ?_ | with_reducible refine w_dnotin ?_ | with_reducible refine w_dgt ?_ | with_reducible refine w_dget1 ?_ | with_reducible refine w_dget2 ?_ | with_reducible refine w_dput ?_ | with_reducible refine w_yes ?_ | with_reducible refine w_nT ?_ | with_reducible refine w_nF ?_ | with_reducible refine w_iteT ?_ | with_reducible refine w_iteF ?_))
namespace L2
open PySem PySem.Spec PyProof.Rows
def rIxA (K : PySem.W.Frag) : R2 := fun x y H Q => rIxE K x y H Q ∨ rIxS x y H Q
theorem ix_a {X : Cx} : IxR X (rIxA X.K) := by
  intro value slice pins s σ H x y v u Q I rx ry h hs
  rcases h with h | h
  · exact ix_e value slice pins s σ H x y v u Q I rx ry h hs
  · exact ix_str value slice pins s σ H x y v u Q I rx ry h hs
end L2
namespace K3
/-- the well of draws: at most n draws were counted -/
def Well (H : Hp) (s : Addr) (n : Nat) : Prop := ∃ a b c : Int, H s = some (.lst [.int a, .int b, .int c]) ∧ 0 ≤ b ∧ b < 2147483647 ∧ 0 ≤ c ∧ c ≤ (n : Int)
theorem Well.same {H H' : Hp} {s : Addr} {n : Nat} (h : Well H s n) (e : Same H H') : Well H' s n := let ⟨a, b, c, q, r⟩ := h; ⟨a, b, c, e _ _ q, r⟩
theorem Well.src {H : Hp} {s : Addr} {n : Nat} (h : Well H s n) : Src H s := let ⟨a, b, c, q, _⟩ := h; ⟨a, b, c, q⟩
theorem Well.upd {H : Hp} {s p : Addr} {n : Nat} (hs : Well H s n) (ne : p ≠ s) (o : HO) : Well (L2.upd H p o) s n := let ⟨a, b, c, h, r⟩ := hs; ⟨a, b, c, by rw [upd_ne ne.symm]; exact h, r⟩
theorem Well.mono {H : Hp} {s : Addr} {n m : Nat} (h : Well H s n) (k : n ≤ m) : Well H s m := let ⟨a, b, c, q, r1, r2, r3, r4⟩ := h; ⟨a, b, c, q, r1, r2, r3, by omega⟩
theorem Well.ne {H : Hp} {s p : Addr} {n : Nat} (h : Well H s n) (hp : H p = none) : p ≠ s := src_ne h.src hp
def most : Nat := 1000000000
def spWell (K : PySem.W.Frag) : Sp := fun vs H Q _ => ∃ c : Int, vs = [.int c] ∧ ∀ p H', H p = none → Same H H' → Well H' p 0 → Q (.ref p) H'
def spDrawW (K : PySem.W.Frag) : Sp := fun vs H Q _ => ∃ (s : Addr) (m : Int) (n : Nat), vs = [.ref s, .int m] ∧ Well H s n ∧ n ≤ most ∧ 0 < m ∧ m < 2 ^ 62 ∧ ∀ (r : Nat) H', (r : Int) < m → BM [s] H H' → Well H' s (n + 1) → Q (.int (r : Int)) H'
def spPickW (K : PySem.W.Frag) : Sp := fun vs H Q _ => ∃ (s : Addr) (n : Nat) (y : V), vs = [.ref s, y] ∧ Well H s n ∧ n ≤ most ∧
  ((∃ (l : Addr) (xs : List V), y = .ref l ∧ l ≠ s ∧ SqE K H l xs ∧ xs ≠ [] ∧ xs.length ≤ 100000 ∧ ∀ v H', v ∈ xs → BM [s] H H' → Well H' s (n + 1) → Q v H') ∨
   (∃ z : Str, y = .str z ∧ z.length ≤ 1000 ∧ z.cps.toList ≠ [] ∧ ∀ c H', c ∈ z.cps.toList → BM [s] H H' → Well H' s (n + 1) → Q (.str ⟨#[c]⟩) H'))
def spCellAt (K : PySem.W.Frag) : Sp := fun vs H Q _ => ∃ (a : Addr) (ns : List Int) (k : Nat), vs = [.ref a, .int (k : Int)] ∧ SqL K H a (ns.map V.int) ∧ Q (.int (ns.getD k 0)) H
theorem sql_bm {K : PySem.W.Frag} {H H' : Hp} {s a : Addr} (e : BM [s] H H') (ne : a ≠ s) {xs : List V} (h : SqL K H a xs) : SqL K H' a xs := by
  have n : a ∉ [s] := fun z => ne (List.mem_singleton.mp z)
  rcases h with (h | ⟨o, h⟩) | h
  · exact .inl (.inl (e.at h n))
  · exact .inl (.inr ⟨o, e.at h n⟩)
  · exact .inr h
theorem sqt_bm {K : PySem.W.Frag} {H H' : Hp} {s a : Addr} (e : BM [s] H H') (ne : a ≠ s) {xs : List V} (h : SqT K H a xs) : SqT K H' a xs := by
  have n : a ∉ [s] := fun z => ne (List.mem_singleton.mp z)
  rcases h with (h | ⟨o, h⟩) | h
  · exact .inl (.inl (e.at h n))
  · exact .inl (.inr ⟨o, e.at h n⟩)
  · exact .inr h
theorem sqe_bm {K : PySem.W.Frag} {H H' : Hp} {s a : Addr} (e : BM [s] H H') (ne : a ≠ s) {xs : List V} (h : SqE K H a xs) : SqE K H' a xs := by
  rcases h with ⟨_ | _, h⟩
  · exact ⟨false, sql_bm e ne h⟩
  · exact ⟨true, sqt_bm e ne h⟩
theorem mul01 (x : Int) (z : Bool) : CMul x (if z = true then 1 else 0) := .inr (by cases z <;> decide)
section
variable {P : Program} {w : World} {K : PySem.W.Frag} {mg : Str → Option Value} {base : Heap}
theorem sc_cell_at : FnScope ["_law_script", "_law_k"] ["_law_script", "_law_k"] (defScope s__law_cell_at) := ⟨rfl, rfl, rfl, by decide +kernel, rfl, by decide +kernel, by decide +kernel⟩
theorem ok_cell_at (T : Tx K mg) : Ok P w K mg base 1 (He.ga K "_law_cell_at") ["_law_script", "_law_k"] (spCellAt K) := by
  obtain ⟨fd, F⟩ := T.f__law_cell_at
  refine ⟨fd, F.ok (k := 0) sc_cell_at (fun vs H Q E h => ?_) (fun cdv A outer s_ H vs Q E hr h => ?_), F.bindsN fun _ _ _ _ _ _ us hl => match us, hl with | [_, _], _ => rfl, F.kp⟩
  · obtain ⟨a, ns, k, rfl, ha, q⟩ := h
    rfl
  obtain ⟨a, ns, k, rfl, ha, q⟩ := h
  have hu65 := K3.Room.units65 hr
  have hu70 := K3.Room.units70 hr
  have hu4 := K3.Room.units4 hr
  have hu64 := Nat.lt_of_succ_lt hu65
  have hu0 := Nat.lt_of_le_of_lt (Nat.le_add_right _ 65) hu65
  have hu1 := Nat.lt_of_le_of_lt (Nat.add_le_add_left (show 1 ≤ 65 by decide) _) hu65
  refine ⟨_, pss_cons (ps_if (pt_cmpR op_lt (pv 1) (pe_callB call_len_seq (by rfl) T.z_len PySem.boot_len (pa_cons (pv 0) pa_nil)) (nomark _)) (pss_one (ps_ret (pe_ix ix_list (pv 0) (pv 1) (fun _ _ => rfl)))) pss_nil)
      (pss_one (ps_ret pe_int)), ?_⟩
  walk_at "go"
  refine ⟨a, _, rfl, .inl ha, ?_⟩
  rw [List.length_map]
  walk_at "go"
  by_cases c : (k : Int) < (ns.length : Int)
  · rw [decide_eq_true c]
    walk_at "go"
    refine ⟨a, _, (k : Int), _, rfl, rfl, ha, at_getD (show k < ns.length by omega), q⟩
  · rw [decide_eq_false c]
    walk_at "go"
    rw [List.getD_eq_getElem?_getD, List.getElem?_eq_none (by omega)] at q
    exact q
theorem sc_well : FnScope ["_law_cell"] ["_law_cell"] (defScope s__law_well) := ⟨rfl, rfl, rfl, by decide +kernel, rfl, by decide +kernel, by decide +kernel⟩
theorem ok_well (T : Tx K mg) : Ok P w K mg base 1 (He.ga K "_law_well") ["_law_cell"] (spWell K) := by
  obtain ⟨fd, F⟩ := T.f__law_well
  refine ⟨fd, F.ok (k := 0) sc_well (fun vs H Q E h => ?_) (fun cdv A outer s_ H vs Q E hr h => ?_), F.bindsN fun _ _ _ _ _ _ us hl => match us, hl with | [_], _ => rfl, F.kp⟩
  · obtain ⟨c, rfl, q⟩ := h
    rfl
  obtain ⟨c, rfl, q⟩ := h
  have hu65 := K3.Room.units65 hr
  have hu70 := K3.Room.units70 hr
  have hu4 := K3.Room.units4 hr
  have hu64 := Nat.lt_of_succ_lt hu65
  have hu0 := Nat.lt_of_le_of_lt (Nat.le_add_right _ 65) hu65
  have hu1 := Nat.lt_of_le_of_lt (Nat.add_le_add_left (show 1 ≤ 65 by decide) _) hu65
  refine ⟨_, pss_one (ps_ret (pe_lst (pa_cons (pe_op op_mul (pv 0) (pe_callTy call_int1 (by rfl) T.z_int (by decide +kernel) (pa_cons (pe_cmpR op_ge (pv 0) (pe_op op_pow pe_int pe_int) rfl) pa_nil))) (pa_cons (pe_op op_mod (pv 0) pe_int) (pa_cons pe_int pa_nil))))), ?_⟩
  walk_at "go"
  refine w_i (by refine ⟨?_, ?_, ?_⟩ <;> decide) ?_
  walk_at "go"
  refine .inr ⟨_, rfl, ?_⟩
  refine w_i (mul01 _ _) ?_
  walk_at "go"
  refine w_i (by decide) ?_
  walk_at "go"
  have m1 := Int.emod_nonneg c (show (2147483647 : Int) ≠ 0 by decide)
  have m2 := Int.emod_lt_of_pos c (show (0 : Int) < 2147483647 by decide)
  exact ⟨(by show 3 ≤ sizeLine; decide), fun p hp => q p _ hp (Same.new hp _) ⟨_, _, _, upd_same, m1, m2, Int.le_refl _, Int.le_refl _⟩⟩
theorem sc_draw : FnScope ["_law_well_here", "_law_many", "_law_found", "_law_number"] ["_law_well_here", "_law_many"] (defScope s__law_draw) := ⟨rfl, rfl, rfl, by decide +kernel, rfl, by decide +kernel, by decide +kernel⟩
theorem ok_draw (T : Tx K mg) : Ok P w K mg base 1 (He.ga K "_law_draw") ["_law_well_here", "_law_many"] (spDrawW K) := by
  obtain ⟨fd, F⟩ := T.f__law_draw
  refine ⟨fd, F.ok (k := 0) sc_draw (fun vs H Q E h => ?_) (fun cdv A outer s_ H vs Q E hr h => ?_), F.bindsN fun _ _ _ _ _ _ us hl => match us, hl with | [_, _], _ => rfl, F.kp⟩
  · obtain ⟨s, m, n, rfl, ⟨a, b, c, hs, b0, b1, c0, c1⟩, n0, m0, m1, q⟩ := h
    rfl
  obtain ⟨s, m, n, rfl, ⟨a, b, c, hs, b0, b1, c0, c1⟩, n0, m0, m1, q⟩ := h
  have hu65 := K3.Room.units65 hr
  have hu70 := K3.Room.units70 hr
  have hu4 := K3.Room.units4 hr
  have hu64 := Nat.lt_of_succ_lt hu65
  have hu0 := Nat.lt_of_le_of_lt (Nat.le_add_right _ 65) hu65
  have hu1 := Nat.lt_of_le_of_lt (Nat.add_le_add_left (show 1 ≤ 65 by decide) _) hu65
  refine ⟨_, pss_cons (ps_if (pt_cmpR op_gt (pe_ix ix_list (pv 0) pe_int (fun _ _ => rfl)) pe_int (nomark _)) (pss_cons (ps_set (i := 2) sc_draw.nd rfl (Or.inl rfl) (pe_op op_mod (pe_ix ix_list (pv 0) pe_int (fun _ _ => rfl)) (pv 1)))
      (pss_cons (ps_asg (pe_op op_fdivW (pe_ix ix_list (pv 0) pe_int (fun _ _ => rfl)) (pv 1)) (pg_sub (pv 0) pe_int set_list))
      (pss_one (ps_ret (pv 2))))) pss_nil)
      (pss_cons (ps_asg (pe_op op_add (pe_ix ix_list (pv 0) pe_int (fun _ _ => rfl)) pe_int) (pg_sub (pv 0) pe_int set_list))
      (pss_cons (ps_set (i := 3) sc_draw.nd rfl (Or.inl rfl) (pe_op op_mod (pe_op op_pow (pe_op op_add (pe_op op_add (pe_ix ix_list (pv 0) pe_int (fun _ _ => rfl)) (pe_op op_mul pe_int (pe_ix ix_list (pv 0) pe_int (fun _ _ => rfl)))) pe_int) pe_int) pe_int))
      (pss_cons (ps_set (i := 3) sc_draw.nd rfl (Or.inl rfl) (pe_op op_mod (pe_op op_mul (pv 3) (pe_op op_add (pe_op op_fdiv (pv 3) pe_int) pe_int)) pe_int))
      (pss_one (ps_ret (pe_op op_mod (pe_op op_mod (pe_op op_mul (pv 3) (pe_op op_add (pe_op op_fdiv (pv 3) pe_int) pe_int)) pe_int) (pv 1))))))), ?_⟩
  have dv : CDivW a m := wide_div (b := 64) m0 (by omega) (by decide) (by decide)
  have qq : ∀ {r : Int} {H' : Hp}, 0 ≤ r → r < m → BM [s] H H' → Well H' s (n + 1) → Q (.int r) H' := fun {r H'} r0 r1 hb hs => by
    obtain ⟨n, rfl⟩ : ∃ n : Nat, r = (n : Int) := ⟨r.toNat, by omega⟩
    exact q n H' r1 hb hs
  walk_at "go"
  refine w_ixL hs rfl ?_
  walk_at "go"
  by_cases a0 : (0 : Int) < a
  · rw [show decide (a > 0) = true from decide_eq_true a0]
    walk_at "go"
    refine w_ixL hs rfl ?_
    walk_at "go"
    refine w_i m0 ?_
    walk_at "go"
    refine w_ixL hs rfl ?_
    walk_at "go"
    refine w_i dv ?_
    walk_at "go"
    refine w_setL hs rfl ?_
    walk_at "go"
    exact qq (Int.emod_nonneg _ (by omega)) (Int.emod_lt_of_pos _ m0) (BM.upd (List.mem_singleton.mpr rfl) _) ⟨_, _, _, upd_same, b0, b1, c0, by omega⟩
  · rw [show decide (a > 0) = false from decide_eq_false a0]
    walk_at "go"
    refine w_ixL hs rfl ?_
    walk_at "go"
    refine w_setL hs rfl ?_
    have hs2 : (upd H s (.lst ([V.int a, V.int b, V.int c].set 2 (V.int (c + 1))))) s = some (.lst [.int a, .int b, .int (c + 1)]) := upd_same
    have e2 : BM [s] H (upd H s (.lst ([V.int a, V.int b, V.int c].set 2 (V.int (c + 1))))) := BM.upd (List.mem_singleton.mpr rfl) _
    show tSeq _ _ _ _ (upd H s (.lst ([V.int a, V.int b, V.int c].set 2 (V.int (c + 1)))))
    generalize upd H s (.lst ([V.int a, V.int b, V.int c].set 2 (V.int (c + 1)))) = H2 at hs2 e2
    have nm : n ≤ 1000000000 := n0
    walk_at "go"
    refine w_ixL hs2 rfl ?_
    walk_at "go"
    refine w_ixL hs2 rfl ?_
    walk_at "go"
    refine w_i (.inl (by decide)) ?_
    walk_at "go"
    refine w_i (by refine ⟨?_, ?_, ?_⟩ <;> first | decide | omega) ?_
    walk_at "go"
    refine w_i (by decide) ?_
    walk_at "go"
    generalize hn : (b + 7919 * (c + 1) + 1) ^ (3 : Int).toNat % 2147483647 = num
    have hn0 : 0 ≤ num := by rw [← hn]; exact Int.emod_nonneg _ (by decide)
    have hn1 : num < 2147483647 := by rw [← hn]; exact Int.emod_lt_of_pos _ (by decide)
    refine w_i (by refine ⟨?_, ?_⟩ <;> decide) ?_
    walk_at "go"
    refine w_i (.inl ⟨by omega, by omega⟩) ?_
    walk_at "go"
    refine w_i (by decide) ?_
    walk_at "go"
    generalize hn2 : num * (num / 1009 + 69621) % 2147483629 = num2
    have hn20 : 0 ≤ num2 := by rw [← hn2]; exact Int.emod_nonneg _ (by decide)
    have hn21 : num2 < 2147483629 := by rw [← hn2]; exact Int.emod_lt_of_pos _ (by decide)
    refine w_i (by refine ⟨?_, ?_⟩ <;> decide) ?_
    walk_at "go"
    refine w_i (.inl ⟨by omega, by omega⟩) ?_
    walk_at "go"
    refine w_i (by decide) ?_
    walk_at "go"
    refine w_i m0 ?_
    exact qq (Int.emod_nonneg _ (by omega)) (Int.emod_lt_of_pos _ m0) e2 ⟨_, _, _, hs2, b0, b1, by omega, by omega⟩
theorem sc_pick : FnScope ["_law_well_here", "_law_some"] ["_law_well_here", "_law_some"] (defScope s__law_pick) := ⟨rfl, rfl, rfl, by decide +kernel, rfl, by decide +kernel, by decide +kernel⟩
theorem ok_pick (T : Tx K mg) : Ok P w K mg base 2 (He.ga K "_law_pick") ["_law_well_here", "_law_some"] (spPickW K) := by
  obtain ⟨fd, F⟩ := T.f__law_pick
  have O_law_draw := ok_draw (P := P) (w := w) (base := base) T
  refine ⟨fd, F.ok (k := 1) sc_pick (fun vs H Q E h => ?_) (fun cdv A outer s_ H vs Q E hr h => ?_), F.bindsN fun _ _ _ _ _ _ us hl => match us, hl with | [_, _], _ => rfl, F.kp⟩
  · obtain ⟨s, n, y, rfl, hs, n0, h⟩ := h
    rfl
  obtain ⟨s, n, y, rfl, hs, n0, h⟩ := h
  have hu65 := K3.Room.units65 hr
  have hu70 := K3.Room.units70 hr
  have hu4 := K3.Room.units4 hr
  have hu64 := Nat.lt_of_succ_lt hu65
  have hu0 := Nat.lt_of_le_of_lt (Nat.le_add_right _ 65) hu65
  have hu1 := Nat.lt_of_le_of_lt (Nat.add_le_add_left (show 1 ≤ 65 by decide) _) hu65
  have r_law_draw : Room 1 _ := hr.mono (by decide)
  refine ⟨_, pss_one (ps_ret (pe_ix ix_a (pv 1) (pe_f O_law_draw r_law_draw T.g__law_draw (pa_cons (pv 0) (pa_cons (pe_callB (cr_or call_len_seq call_len_str) (by rfl) T.z_len PySem.boot_len (pa_cons (pv 1) pa_nil)) pa_nil))) (fun _ _ => rfl))), ?_⟩
  rcases h with ⟨l, xs, rfl, nl, hl, ne, lm, q⟩ | ⟨z, rfl, hz, ne, q⟩
  · have l0 : 0 < xs.length := List.length_pos_iff.mpr ne
    walk_at "go"
    refine .inl ⟨l, xs, rfl, hl.either, ?_⟩
    walk_at "go"
    refine ⟨s, _, n, rfl, hs, n0, by omega, by omega, fun r H1 hr b1 w1 => ?_⟩
    have lr : r < xs.length := by omega
    exact .inl (w_ixE (sqe_bm b1 nl hl) (atI_nat (List.getElem?_eq_getElem lr)) (q _ H1 (List.getElem_mem lr) b1 w1))
  · have l0 : 0 < z.cps.toList.length := List.length_pos_iff.mpr ne
    have lz : z.length = z.cps.toList.length := (Array.length_toList).symm
    walk_at "go"
    refine .inr ⟨z, rfl, Nat.le_trans hz (by decide), ?_⟩
    walk_at "go"
    refine ⟨s, _, n, rfl, hs, n0, by omega, by omega, fun r H1 hr b1 w1 => ?_⟩
    have lr : r < z.cps.toList.length := by omega
    exact .inr ⟨z, (r : Int), _, rfl, rfl, Nat.le_trans hz (by decide), atI_nat (List.getElem?_eq_getElem lr), q _ H1 (List.getElem_mem lr) b1 w1⟩
end
end K3
end W1_part
section W2_part
set_option Elab.async false
set_option linter.all false
set_option maxRecDepth 100000
set_option maxHeartbeats 1000000
set_option pp.deepTerms true
open PySem PySem.Spec PyProof.Rows L2
/-- go on as far as nothing is open -/
local macro_rules | `(tactic| walk_at "go") => `(tactic| repeat (first
  | with_reducible refine w_seq ?_ | with_reducible refine w_next ?_ | with_reducible refine w_set ?_ | with_reducible refine w_drop ?_ | with_reducible refine w_ret ?_ | with_reducible refine w_retN ?_
  | with_reducible refine w_if ?_ | ((with_reducible refine' w_var ?hv ?_); (case hv => exact rfl)) | with_reducible refine w_c ?_ | with_reducible refine w_nil ?_ | with_reducible refine w_cons ?_ | with_reducible refine w_op ?_ | with_reducible refine w_un ?_
  | with_reducible refine w_test ?_ | with_reducible refine w_tB ?_ | with_reducible refine w_not ?_ | with_reducible refine w_and ?_ | with_reducible refine w_or ?_ | with_reducible refine w_bl ?_
  | with_reducible refine w_andV ?_ | with_reducible refine w_orV ?_ | with_reducible refine w_notV ?_ | with_reducible refine w_ifE ?_ | with_reducible refine w_chain ?_ | with_reducible refine w_i0 ?_
  | with_reducible refine w_call ?_ | with_reducible refine w_callS ?_ | with_reducible refine w_cB ?_ | with_reducible refine w_tup ?_ | with_reducible refine w_lst ?_ | with_reducible refine w_fldV ?_
  | with_reducible refine w_neF ?_ | with_reducible refine w_neT ?_ | with_reducible refine w_notN ?_ | with_reducible refine w_isN ?_ | with_reducible refine w_gname ?_ | with_reducible refine w_gsub ?_ | with_reducible refine w_asg ?_ | with_reducible refine w_sl ?_ | with_reducible refine w_noP ?_ | with_reducible refine w_int1 ?_ | with_reducible refine w_part ?_ | with_reducible refine w_meth ?_ | with_reducible refine w_din ?_ | with_reducible refine w_dnotin ?_ | with_reducible refine w_dgt ?_ | with_reducible refine w_dget1 ?_ | with_reducible refine w_dget2 ?_ | with_reducible refine w_dput ?_ | with_reducible refine w_yes ?_ | with_reducible refine w_nT ?_ | with_reducible refine w_nF ?_ | with_reducible refine w_iteT ?_ | with_reducible refine w_iteF ?_))
namespace L2
open PySem PySem.Spec PyProof.Rows
theorem nodup_le {α : Type} [DecidableEq α] : ∀ {l m : List α}, l.Nodup → (∀ x ∈ l, x ∈ m) → l.length ≤ m.length
  | [], _, _, _ => Nat.zero_le _
  | a :: l, m, h, s => by
    rw [List.nodup_cons] at h
    have ha := s a (List.mem_cons_self ..)
    have ih := nodup_le (l := l) (m := m.erase a) h.2 fun x hx => (List.mem_erase_of_ne (fun z => h.1 (by rw [← z]; exact hx))).mpr (s x (List.mem_cons_of_mem _ hx))
    rw [List.length_erase_of_mem ha] at ih
    have : 0 < m.length := List.length_pos_of_mem ha
    rw [List.length_cons]
    omega
abbrev rAddS : R2 := fun x y H Q => ∃ i j, x = .str i ∧ y = .str j ∧ i.length + j.length ≤ sizeLine ∧ Q (.str (i ++ j)) H
end L2
namespace K3
theorem len_app (a b : Str) : (a ++ b).length = a.length + b.length := by
  show (a.cps ++ b.cps).size = _
  rw [Array.size_append] <;> rfl
theorem cps_app (a b : Str) : (a ++ b).cps.toList = a.cps.toList ++ b.cps.toList := by
  show (a.cps ++ b.cps).toList = _
  rw [Array.toList_append]
theorem w_addS {a b : Str} {H : Hp} {Q : VK} (h : a.length + b.length ≤ 1000) (q : Q (.str (a ++ b)) H) : ∃ i j, V.str a = .str i ∧ V.str b = .str j ∧ i.length + j.length ≤ sizeLine ∧ Q (.str (i ++ j)) H := ⟨a, b, rfl, rfl, Nat.le_trans h (by decide), q⟩
def nmB : List Nat → Bool
  | [] => false
  | c :: r => decide (c ∈ lets.cps.toList) && (c :: r).all fun c => decide (c ∈ lets.cps.toList) || decide (c ∈ figs.cps.toList)
theorem nm_app {cs : List Nat} {d : Nat} (h : nmB cs = true) (k : d ∈ (lets ++ figs).cps.toList) : nmB (cs ++ [d]) = true := by
  cases cs with
  | nil => cases h
  | cons c r =>
    obtain ⟨h1, h2⟩ := Bool.and_eq_true_iff.mp (show (decide (c ∈ lets.cps.toList) && _) = true from h)
    refine Bool.and_eq_true_iff.mpr ⟨h1, ?_⟩
    refine (show ((c :: r) ++ [d]).all _ = true from ?_)
    rw [List.all_append, h2, Bool.true_and]
    rw [cps_app] at k
    rcases List.mem_append.mp k with k | k
    · rw [List.all_cons, decide_eq_true k]; rfl
    · rw [List.all_cons, decide_eq_true k, Bool.or_true]; rfl
theorem nm_one {d : Nat} (k : d ∈ lets.cps.toList) : nmB [d] = true := by
  show (decide (d ∈ lets.cps.toList) && [d].all _) = true
  rw [List.all_cons, decide_eq_true k]
  rfl
theorem name_of {z : Str} (h : nmB z.cps.toList = true) (l : z.length ≤ 8) : isName z = true := by
  have l1 : 1 ≤ z.length := by
    have e : z.length = z.cps.toList.length := (Array.length_toList).symm
    cases hz : z.cps.toList with
    | nil => rw [hz] at h; cases h
    | cons c r => rw [e, hz, List.length_cons]; omega
  unfold isName
  rw [decide_eq_true l1, decide_eq_true l, Bool.true_and, Bool.true_and]
  cases hz : z.cps.toList with
  | nil => rw [hz] at h; cases h
  | cons c r => rw [hz] at h; exact h
def nk (k : Nat) : Str := ("n" : Str) ++ (toString (k : Int) : Str)
theorem nk_nd : ((List.range 64).map nk).Nodup := by decide +kernel
theorem nk_name : ∀ k < 64, isName (nk k) = true := by decide +kernel
theorem nk_len : ∀ k : Nat, k < 64 → (toString (k : Int) : Str).length ≤ 7 := by decide +kernel
theorem nk_left {zs : List Str} (h : zs.length ≤ 60) : ∃ k, k ≤ zs.length ∧ nk k ∉ zs := by
  refine Classical.byContradiction fun n => ?_
  have all : ∀ x ∈ (List.range (zs.length + 1)).map nk, x ∈ zs := fun x hx => by
    obtain ⟨k, hk, rfl⟩ := List.mem_map.mp hx
    have := List.mem_range.mp hk
    exact Classical.byContradiction fun z => n ⟨k, by omega, z⟩
  have nd : ((List.range (zs.length + 1)).map nk).Nodup := by
    have e : List.range (zs.length + 1) = (List.range 64).take (zs.length + 1) := by rw [List.take_range, Nat.min_eq_left (by omega)]
    rw [e, List.map_take]
    exact nk_nd.sublist (List.take_sublist _ _)
  have := nodup_le nd all
  rw [List.length_map, List.length_range] at this
  omega
def words10 : List Str := ["one", "some", "number", "check", "section", "rounds", "end", "where", "is", "none"]
theorem words_name : ∀ z ∈ words10, isName z = true := by decide +kernel
def spNameW (K : PySem.W.Frag) : Sp := fun vs H Q _ => ∃ (s l : Addr) (n : Nat) (zs : List Str), vs = [.ref s, .ref l] ∧ Well H s n ∧ n + 10 ≤ most ∧ l ≠ s ∧ SqE K H l (zs.map V.str) ∧ zs.length ≤ 60 ∧
  ∀ z H', isName z = true → z ∉ zs → BM [s] H H' → Well H' s (n + 10) → Q (.str z) H'
def spNamesW (K : PySem.W.Frag) : Sp := fun vs H Q _ => ∃ (s : Addr) (n m : Nat), vs = [.ref s, .int (m : Int)] ∧ Well H s n ∧ n + 10 * m ≤ most ∧ m ≤ 60 ∧
  ∀ (p : Addr) (H' : Hp) (zs : List Str), H p = none → BM [s] H H' → Well H' s (n + 10 * m) → H' p = some (.lst (zs.map V.str)) → zs.length = m → zs.Nodup → (∀ z ∈ zs, isName z = true) → Q (.ref p) H'
section
variable {P : Program} {w : World} {K : PySem.W.Frag} {mg : Str → Option Value} {base : Heap}
theorem sc_name : FnScope ["_law_well_here", "_law_taken", "_law_letters", "_law_turn", "_law_name_here", "_law_k", "_law_some", "_law_word"] ["_law_well_here", "_law_taken"] (defScope s__law_name) := ⟨rfl, rfl, rfl, by decide +kernel, rfl, by decide +kernel, by decide +kernel⟩
theorem ok_name (T : Tx K mg) : Ok P w K mg base 3 (He.ga K "_law_name") ["_law_well_here", "_law_taken"] (spNameW K) := by
  obtain ⟨fd, F⟩ := T.f__law_name
  have O_law_pick := ok_pick (P := P) (w := w) (base := base) T
  have O_law_draw := ok_draw (P := P) (w := w) (base := base) T
  refine ⟨fd, F.ok (k := 2) sc_name (fun vs H Q E h => ?_) (fun cdv A outer s_ H vs Q E hr h => ?_), F.bindsN fun _ _ _ _ _ _ us hl => match us, hl with | [_, _], _ => rfl, F.kp⟩
  · obtain ⟨s, l, n, zs, rfl, hs, hn, nl, hl, lz, q⟩ := h
    rfl
  obtain ⟨s, l, n, zs, rfl, hs, hn, nl, hl, lz, q⟩ := h
  have hu65 := K3.Room.units65 hr
  have hu70 := K3.Room.units70 hr
  have hu4 := K3.Room.units4 hr
  have hu64 := Nat.lt_of_succ_lt hu65
  have hu0 := Nat.lt_of_le_of_lt (Nat.le_add_right _ 65) hu65
  have hu1 := Nat.lt_of_le_of_lt (Nat.add_le_add_left (show 1 ≤ 65 by decide) _) hu65
  have r_law_pick : Room 2 _ := hr.mono (by decide)
  have r_law_draw : Room 1 _ := hr.mono (by decide)
  refine ⟨_, pss_cons (ps_set (i := 2) sc_name.nd rfl (Or.inl rfl) pe_str)
      (pss_cons (ps_set (i := 3) sc_name.nd rfl (Or.inl rfl) (pe_f O_law_draw r_law_draw T.g__law_draw (pa_cons (pv 0) (pa_cons pe_int pa_nil))))
      (pss_cons (ps_set (i := 4) sc_name.nd rfl (Or.inl rfl) (pe_f O_law_pick r_law_pick T.g__law_pick (pa_cons (pv 0) (pa_cons (pv 2) pa_nil))))
      (pss_cons (ps_if (pt_cmpR op_eq (pv 3) pe_int (nomark _)) (pss_one (ps_set (i := 4) sc_name.nd rfl (Or.inl rfl) (pe_f O_law_pick r_law_pick T.g__law_pick (pa_cons (pv 0) (pa_cons (pe_lst (pa_cons pe_str (pa_cons pe_str (pa_cons pe_str (pa_cons pe_str (pa_cons pe_str (pa_cons pe_str (pa_cons pe_str (pa_cons pe_str (pa_cons pe_str (pa_cons pe_str pa_nil))))))))))) pa_nil))))) (pss_one (ps_if (pt_cmpR op_lt (pv 3) pe_int (nomark _)) (pss_one (ps_for (passes_of rfl) (by rfl) (pi_range1 rfl T.z_range (pa_cons (pe_ix ix_list (pe_lst (pa_cons pe_int (pa_cons pe_int (pa_cons pe_int pa_nil)))) (pe_f O_law_draw r_law_draw T.g__law_draw (pa_cons (pv 0) (pa_cons pe_int pa_nil))) (fun _ _ => rfl)) pa_nil)) (pg_name (i := 5) sc_name.nd rfl (Or.inl rfl)) (pss_one (ps_set (i := 4) sc_name.nd rfl (Or.inl rfl) (pe_op op_add_str (pv 4) (pe_f O_law_pick r_law_pick T.g__law_pick (pa_cons (pv 0) (pa_cons (pe_op op_add_str (pv 2) pe_str) pa_nil)))))))) pss_nil)))
      (pss_cons (ps_set (i := 6) sc_name.nd rfl (Or.inl rfl) (pe_op op_cat (pe_lst (pa_cons (pv 4) pa_nil)) (by exact pe_lc (own := [("_law_k", 5)]) (g := gName 5) (tt := tYes) (te := (tOp rAddS (tC (.str "n")) (tCB (fun xs H Q => ∃ i, xs = [V.int i] ∧ i.natAbs.log2 < 1920 ∧ Q (.str (toString i)) H) (tCons (tVar 5) tNil)))) (by rfl) sc_name.nd (pi_range1 rfl T.z_range (pa_cons (pe_op op_add (pe_callB call_len_seq (by rfl) T.z_len PySem.boot_len (pa_cons (pv 1) pa_nil)) pe_int) pa_nil)) (blkOk_by (own := [("_law_k", 5)]) (N := ["_law_well_here", "_law_taken", "_law_letters", "_law_turn", "_law_name_here", "_law_k", "_law_some", "_law_word"]) (sc := defScope s__law_name) (by decide +kernel)) (fun _ _ _ _ _ => (pg_name (i := 5) sc_name.nd rfl (Or.inl rfl))) (fun _ _ _ _ _ => pts_nil) (fun _ _ _ _ _ => (pe_op op_add_str pe_str (pe_callTy call_str_int (by rfl) T.z_str (by decide +kernel) (pa_cons (pv 5) pa_nil)))))))
      (pss_one (ps_ret (pe_ix ix_list (by exact pe_lc (own := [("_law_word", 7)]) (g := gName 7) (tt := (tTest (tOp (rIn K true) (tVar 7) (tVar 1)))) (te := (tVar 7)) (by rfl) sc_name.nd (pi_list (pv 6)) (blkOk_by (own := [("_law_word", 7)]) (N := ["_law_well_here", "_law_taken", "_law_letters", "_law_turn", "_law_name_here", "_law_k", "_law_some", "_law_word"]) (sc := defScope s__law_name) (by decide +kernel)) (fun _ _ _ _ _ => (pg_name (i := 7) sc_name.nd rfl (Or.inl rfl))) (fun _ _ _ _ _ => (pts_one (pt_cmpR op_notIn_seq (pv 7) (pv 1) (by rfl)))) (fun _ _ _ _ _ => (pv 7))) pe_int (fun _ _ => rfl)))))))), ?_⟩
  walk_at "go"
  refine ⟨s, 5, n, rfl, hs, by omega, by decide, by decide, fun r1 H1 hr1 b1 w1 => ?_⟩
  walk_at "go"
  refine ⟨s, n + 1, _, rfl, w1, by omega, .inr ⟨lets, rfl, by decide +kernel, by decide +kernel, fun c H2 hc b2 w2 => ?_⟩⟩
  have b02 := b1.trans b2
  walk_at "go"
  refine ⟨rfl, ?_⟩
  rw [decV]
  -- what is left: the name that was found, z; then the last two rows
  have rest : ∀ (z : Str) (H3 : Hp) (o5 : Option V) (QQ : L2.St → Hp → Prop), isName z = true → BM [s] H H3 → Well H3 s (n + 10) → (∀ (y : Str) (H4 : Hp) (σ4 : L2.St), isName y = true → y ∉ zs → BM [s] H H4 → Well H4 s (n + 10) → Q (.str y) H4) →
      (tSeq (tAsg (tOp rCat (tLst (tCons (tVar 4) tNil)) (tLc (iRng1 (tCons (tOp (rI0 fun i j => .int (i + j)) (tCB (fun xs H Q => ∃ p ys, xs = [V.ref p] ∧ (SqL K H p ys ∨ SqT K H p ys) ∧ Q (.int ys.length) H) (tCons (tVar 1) tNil)) (tC (.int 1))) tNil)) (gName 5) tYes (tOp rAddS (tC (.str "n")) (tCB (fun xs H Q => ∃ i, xs = [V.int i] ∧ i.natAbs.log2 < 1920 ∧ Q (.str (toString i)) H) (tCons (tVar 5) tNil))) [5])) (gName 6)) (tRet (tOp (rIxL K) (tLc (iList K (tVar 6)) (gName 7) (tTest (tOp (rIn K true) (tVar 7) (tVar 1))) (tVar 7) [7]) (tC (.int 0))))) { nx := fun _ H' => Q .non H', rt := Q } [some (.ref s), some (.ref l), some (.str lets), some (.int (r1 : Int)), some (.str z), o5, none, none] H3 := by
    intro z H3 o5 QQ hz b3 w3 q3
    have hl3 := sqe_bm b3 nl hl
    walk_at "go"
    refine ⟨by show 1 ≤ sizeLine; decide, fun p1 hp1 => ?_⟩
    have e1 := Same.new hp1 (.lst [V.str z])
    walk_at "go"
    refine lc_open (rng_open ?_)
    walk_at "go"
    refine ⟨l, _, rfl, (hl3.same e1).either, ?_⟩
    rw [List.length_map]
    walk_at "go"
    refine ⟨_, rfl, by omega, by omega, fun D hD => ?_⟩
    rw [show ((zs.length : Int) + 1).toNat = zs.length + 1 by omega]
    have hp1' : (upd H3 p1 (.lst [V.str z])) p1 = some (.lst [V.str z]) := upd_same
    generalize upd H3 p1 (.lst [V.str z]) = H4 at e1 hD hp1'
    refine lc_range (lo := 0) (n := zs.length + 1) (fun (i : Nat) H' => Same H4 H' ∧ H' D = some (.lst (((List.range i).map nk).map V.str))) ⟨Same.new hD _, upd_same⟩ ?_ ?_
    · rintro i H5 hi ⟨e5, h5⟩
      walk_at "go"
      refine ⟨rfl, ?_⟩
      walk_at "go"
      refine ⟨_, rfl, ?_, ?_⟩
      · have : (0 + (i : Int)).natAbs = i := by omega
        rw [this]
        have := Nat.log2_lt (n := i) (k := 10)
        by_cases i0 : i = 0
        · rw [i0]; decide
        · exact Nat.lt_trans ((Nat.log2_lt i0).mpr (show i < 2 ^ 10 by omega)) (by decide)
      · have ei : (0 + (i : Int)) = (i : Int) := by omega
        rw [ei]
        have l7 := nk_len i (by omega)
        refine ⟨_, _, rfl, rfl, Nat.le_trans (show 1 + (toString (i : Int) : Str).length ≤ 1000 by omega) (by decide), _, h5, ?_, e5.mut hD, ?_⟩
        · rw [List.length_map, List.length_map, List.length_range]
          exact Nat.lt_of_le_of_lt (show i ≤ 100 by omega) (by decide)
        · rw [upd_same, List.range_succ, List.map_append, List.map_append]
          rfl
    · rintro H5 ⟨e5, h5⟩
      refine ⟨p1, D, _, _, rfl, rfl, e5 _ _ hp1', h5, ?_, fun p2 hp2 => ?_⟩
      · rw [List.length_map, List.length_map, List.length_range]
        exact Nat.le_trans (show [V.str z].length + (zs.length + 1) ≤ 100 by show 1 + (zs.length + 1) ≤ 100; omega) (by decide)
      have e6 := Same.new hp2 (.lst ([V.str z] ++ ((List.range (zs.length + 1)).map nk).map V.str))
      have h6 : (upd H5 p2 (.lst ([V.str z] ++ ((List.range (zs.length + 1)).map nk).map V.str))) p2 = some (.lst ((z :: (List.range (zs.length + 1)).map nk).map V.str)) := upd_same
      generalize upd H5 p2 (.lst ([V.str z] ++ ((List.range (zs.length + 1)).map nk).map V.str)) = H6 at e6 h6
      have e36 := (e1.trans e5).trans e6
      have hl6 := hl3.same e36
      walk_at "go"
      refine lc_open (list_open ?_)
      walk_at "go"
      refine ⟨p2, rfl, ⟨_, SqL.of h6⟩, fun D2 hD2 => ?_⟩
      refine lc_list (K := K) (a := p2) (xs := (z :: (List.range (zs.length + 1)).map nk).map V.str) (fun (i : Nat) H' => Same H6 H' ∧ H' D2 = some (.lst ((((z :: (List.range (zs.length + 1)).map nk).take i).filter fun y => decide (y ∉ zs)).map V.str))) ⟨Same.new hD2 _, upd_same⟩ (fun i H' _ k => SqL.of (k.1 _ _ h6)) ?_ ?_
      · rintro i x H7 hx ⟨e7, h7⟩
        rw [List.getElem?_map] at hx
        obtain ⟨y, hy, rfl⟩ := Option.map_eq_some_iff.mp hx
        walk_at "go"
        refine ⟨rfl, ?_⟩
        walk_at "go"
        refine ⟨l, _, rfl, (hl6.same e7).either, rfl, flat_strs zs, ?_⟩
        show ∃ k, V.bl (!inV (.str y) (zs.map V.str)) = .bl k ∧ _
        rw [inV_strs]
        have ft : ((z :: (List.range (zs.length + 1)).map nk).take (i + 1)).filter (fun y => decide (y ∉ zs)) = ((z :: (List.range (zs.length + 1)).map nk).take i).filter (fun y => decide (y ∉ zs)) ++ (if y ∉ zs then [y] else []) := by
          rw [List.take_add_one, hy, List.filter_append]
          congr 1
          by_cases c : y ∈ zs <;> simp [c]
        by_cases c : y ∈ zs
        · rw [decide_eq_true c]
          refine ⟨false, rfl, ?_⟩
          walk_at "go"
          refine ⟨e7, ?_⟩
          rw [h7, ft, if_neg (fun k => k c), List.append_nil]
        · rw [decide_eq_false c]
          refine ⟨true, rfl, ?_⟩
          walk_at "go"
          refine ⟨_, h7, ?_, e7.mut hD2, ?_⟩
          · rw [List.length_map]
            refine Nat.lt_of_le_of_lt (Nat.le_trans (List.length_filter_le _ _) (List.length_take_le _ _)) ?_
            have := (List.getElem?_eq_some_iff.mp hy).1
            rw [List.length_cons, List.length_map, List.length_range] at this
            exact Nat.lt_of_le_of_lt (show i ≤ 100 by omega) (by decide)
          · rw [upd_same, ft, if_pos c, List.map_append]
            rfl
      · rintro H7 ⟨e7, h7⟩
        rw [List.length_map, List.take_length] at h7
        walk_at "go"
        obtain ⟨k, hk, hkn⟩ := nk_left lz
        have all : ∀ y ∈ (z :: (List.range (zs.length + 1)).map nk).filter (fun y => decide (y ∉ zs)), isName y = true ∧ y ∉ zs := fun y hy => by
          obtain ⟨h1, h2⟩ := List.mem_filter.mp hy
          refine ⟨?_, of_decide_eq_true h2⟩
          rcases List.mem_cons.mp h1 with rfl | h1
          · exact hz
          · obtain ⟨j, hj, rfl⟩ := List.mem_map.mp h1
            exact nk_name j (by have := List.mem_range.mp hj; omega)
        have hmem : nk k ∈ (z :: (List.range (zs.length + 1)).map nk).filter (fun y => decide (y ∉ zs)) := List.mem_filter.mpr ⟨List.mem_cons_of_mem _ (List.mem_map_of_mem (List.mem_range.mpr (by omega))), decide_eq_true hkn⟩
        cases hf : (z :: (List.range (zs.length + 1)).map nk).filter (fun y => decide (y ∉ zs)) with
        | nil => rw [hf] at hmem; cases hmem
        | cons y r =>
          obtain ⟨y1, y2⟩ := all y (by rw [hf]; exact List.mem_cons_self ..)
          rw [hf] at h7
          refine ⟨D2, _, 0, .str y, rfl, rfl, SqL.of h7, atI_nat (j := 0) rfl, ?_⟩
          have e37 := e36.trans e7
          exact q3 y H7 [] y1 y2 (b3.same e37) (w3.same e37)
  by_cases c1 : (r1 : Int) = 0
  · rw [decide_eq_true c1]
    walk_at "go"
    refine ⟨by show 10 ≤ sizeLine; decide, fun pw hpw => ?_⟩
    have ew := Same.new hpw (.lst (words10.map V.str))
    have ww := w2.same ew
    walk_at "go"
    refine ⟨s, n + 1 + 1, _, rfl, ww, by omega, .inl ⟨pw, words10.map V.str, rfl, w2.ne hpw, SqE.lst upd_same, (fun z => nomatch z), by show 10 ≤ 100000; decide, fun v H3 hv b3 w3 => ?_⟩⟩
    obtain ⟨z, hz, rfl⟩ := List.mem_map.mp hv
    exact rest z H3 _ (fun _ _ => True) (words_name z hz) ((b02.same ew).trans b3) (w3.mono (by omega)) fun y H4 _ h1 h2 h3 h4 => q y H4 h1 h2 h3 h4
  · rw [decide_eq_false c1]
    walk_at "go"
    have l36 : (lets ++ figs).length = 36 := by decide +kernel
    by_cases c2 : (r1 : Int) < 3
    · rw [decide_eq_true c2]
      walk_at "go"
      refine rng_open ?_
      walk_at "go"
      refine ⟨by show 3 ≤ sizeLine; decide, fun p3 hp3 => ?_⟩
      have e3 := Same.new hp3 (.lst [V.int 1, V.int 2, V.int 7])
      walk_at "go"
      refine ⟨s, 3, n + 2, rfl, w2.same e3, by omega, by decide, by decide, fun r3 H4 hr3 b4 w4 => ?_⟩
      have h34 : H4 p3 = some (.lst [V.int 1, V.int 2, V.int 7]) := b4.at upd_same (fun z => w2.ne hp3 (List.mem_singleton.mp z))
      obtain ⟨j, hj, lj⟩ : ∃ j : Nat, atI [V.int 1, V.int 2, V.int 7] (r3 : Int) = some (.int (j : Int)) ∧ j ≤ 7 := by
        have : r3 = 0 ∨ r3 = 1 ∨ r3 = 2 := by omega
        rcases this with rfl | rfl | rfl
        · exact ⟨1, rfl, by decide⟩
        · exact ⟨2, rfl, by decide⟩
        · exact ⟨7, rfl, by decide⟩
      refine ⟨p3, _, _, _, rfl, rfl, SqL.of h34, hj, ?_⟩
      walk_at "go"
      refine ⟨_, rfl, by omega, by omega, ?_⟩
      rw [Int.toNat_natCast]
      refine for_range (lo := 0) (n := j) (fun (i : Nat) σ H' => ∃ (z : Str) (o5 : Option V), σ = [some (.ref s), some (.ref l), some (.str lets), some (.int (r1 : Int)), some (.str z), o5, none, none] ∧ nmB z.cps.toList = true ∧ z.length = 1 + i ∧ BM [s] H H' ∧ Well H' s (n + 3 + i))
        ⟨⟨#[c]⟩, none, rfl, nm_one hc, rfl, (b02.same e3).trans b4, w4⟩ ?_ ?_
      · rintro i σ H5 hi ⟨z, o5, rfl, hz, lz1, b5, w5⟩
        walk_at "go"
        refine ⟨_, _, rfl, rfl, (by decide +kernel), ?_⟩
        walk_at "go"
        refine ⟨s, n + 3 + i, _, rfl, w5, by omega, .inr ⟨lets ++ figs, rfl, by rw [l36]; decide, by decide +kernel, fun d H6 hd b6 w6 => ?_⟩⟩
        refine ⟨_, _, rfl, rfl, Nat.le_trans (show z.length + 1 ≤ 1000 by omega) (by decide), ?_⟩
        refine ⟨_, _, rfl, ?_, by rw [len_app, lz1]; rfl, b5.trans b6, w6⟩
        rw [cps_app]
        exact nm_app hz hd
      · rintro σ H5 ⟨z, o5, rfl, hz, lz1, b5, w5⟩
        exact rest z H5 _ (fun _ _ => True) (name_of hz (by omega)) b5 (w5.mono (by omega)) fun y H6 _ h1 h2 h3 h4 => q y H6 h1 h2 h3 h4
    · rw [decide_eq_false c2]
      exact rest ⟨#[c]⟩ H2 _ (fun _ _ => True) (name_of (nm_one hc) (by show 1 ≤ 8; decide)) b02 (w2.mono (by omega)) fun y H6 _ h1 h2 h3 h4 => q y H6 h1 h2 h3 h4
theorem sc_names : FnScope ["_law_well_here", "_law_many", "_law_found", "_law_k"] ["_law_well_here", "_law_many"] (defScope s__law_names) := ⟨rfl, rfl, rfl, by decide +kernel, rfl, by decide +kernel, by decide +kernel⟩
theorem ok_names (T : Tx K mg) : Ok P w K mg base 4 (He.ga K "_law_names") ["_law_well_here", "_law_many"] (spNamesW K) := by
  obtain ⟨fd, F⟩ := T.f__law_names
  have O_law_name := ok_name (P := P) (w := w) (base := base) T
  refine ⟨fd, F.ok (k := 3) sc_names (fun vs H Q E h => ?_) (fun cdv A outer s_ H vs Q E hr h => ?_), F.bindsN fun _ _ _ _ _ _ us hl => match us, hl with | [_, _], _ => rfl, F.kp⟩
  · obtain ⟨s, n, m, rfl, hs, hn, m60, q⟩ := h
    rfl
  obtain ⟨s, n, m, rfl, hs, hn, m60, q⟩ := h
  have hu65 := K3.Room.units65 hr
  have hu70 := K3.Room.units70 hr
  have hu4 := K3.Room.units4 hr
  have hu64 := Nat.lt_of_succ_lt hu65
  have hu0 := Nat.lt_of_le_of_lt (Nat.le_add_right _ 65) hu65
  have hu1 := Nat.lt_of_le_of_lt (Nat.add_le_add_left (show 1 ≤ 65 by decide) _) hu65
  have r_law_name : Room 3 _ := hr.mono (by decide)
  refine ⟨_, pss_cons (ps_set (i := 2) sc_names.nd rfl (Or.inl rfl) (pe_lst pa_nil))
      (pss_cons (ps_for (passes_of rfl) (by rfl) (pi_range1 rfl T.z_range (pa_cons (pv 1) pa_nil)) (pg_name (i := 3) sc_names.nd rfl (Or.inl rfl)) (pss_one (ps_expr (pe_bm PySem.F.plainAttrs_list PySem.F.slot_list_append PySem.F.type_list_append mt_append (pv 2) (pa_cons (pe_f O_law_name r_law_name T.g__law_name (pa_cons (pv 0) (pa_cons (pv 2) pa_nil))) pa_nil)))))
      (pss_one (ps_ret (pv 2)))), ?_⟩
  walk_at "go"
  refine ⟨Nat.zero_le _, fun p0 hp0 => ?_⟩
  have e0 := Same.new hp0 (.lst [])
  walk_at "go"
  refine rng_open ?_
  walk_at "go"
  refine ⟨_, rfl, by omega, by omega, ?_⟩
  rw [Int.toNat_natCast]
  refine for_range (lo := 0) (n := m) (fun (i : Nat) σ H' => ∃ (zs : List Str) (o3 : Option V), σ = [some (.ref s), some (.int (m : Int)), some (.ref p0), o3] ∧ BM [s] H H' ∧ Well H' s (n + 10 * i) ∧ H' p0 = some (.lst (zs.map V.str)) ∧ zs.length = i ∧ zs.Nodup ∧ ∀ z ∈ zs, isName z = true)
    ⟨[], none, rfl, BM.of e0, hs.same e0, upd_same, rfl, List.nodup_nil, fun z h => nomatch h⟩ ?_ ?_
  · rintro i σ H1 hi ⟨zs, o3, rfl, b1, w1, h1, lz, nd, nm⟩
    walk_at "go"
    refine ⟨_, rfl, .inl ⟨rfl, _, SqL.of h1⟩, ?_⟩
    walk_at "go"
    have np : p0 ≠ s := hs.ne hp0
    refine ⟨s, p0, n + 10 * i, zs, rfl, w1, by omega, np, .lst h1, by omega, fun z H2 hz nz b2 w2 => ?_⟩
    have h2 := b2.at h1 (fun k => np (List.mem_singleton.mp k))
    walk_at "go"
    refine ⟨p0, _, _, rfl, rfl, h2, ?_, ?_⟩
    · rw [List.length_map]
      exact Nat.lt_of_le_of_lt (show zs.length ≤ 100 by omega) (by decide)
    refine ⟨zs ++ [z], _, rfl, (b1.trans b2).mut hp0, (w2.mono (by omega)).upd np _, by rw [upd_same, List.map_append]; rfl, by rw [List.length_append, lz]; rfl, nodup_snoc nd nz, fun y hy => ?_⟩
    rcases List.mem_append.mp hy with hy | hy
    · exact nm y hy
    · rw [List.mem_singleton.mp hy]; exact hz
  · rintro σ H1 ⟨zs, o3, rfl, b1, w1, h1, lz, nd, nm⟩
    walk_at "go"
    exact q p0 H1 zs hp0 b1 w1 h1 lz nd nm
end
end K3
end W2_part
section W3_part
set_option Elab.async false
set_option linter.all false
set_option maxRecDepth 100000
set_option maxHeartbeats 1000000
set_option pp.deepTerms true
open PySem PySem.Spec PyProof.Rows L2
/-- go on as far as nothing is open -/
local macro_rules | `(tactic| walk_at "go") => `(tactic| repeat (first
  | with_reducible refine w_seq ?_ | with_reducible refine w_next ?_ | with_reducible refine w_set ?_ | with_reducible refine w_drop ?_ | with_reducible refine w_ret ?_ | with_reducible refine w_retN ?_
  | with_reducible refine w_if ?_ | ((with_reducible refine' w_var ?hv ?_); (case hv => exact rfl)) | with_reducible refine w_c ?_ | with_reducible refine w_nil ?_ | with_reducible refine w_cons ?_ | with_reducible refine w_op ?_ | with_reducible refine w_un ?_
  | with_reducible refine w_test ?_ | with_reducible refine w_tB ?_ | with_reducible refine w_not ?_ | with_reducible refine w_and ?_ | with_reducible refine w_or ?_ | with_reducible refine w_bl ?_
  | with_reducible refine w_andV ?_ | with_reducible refine w_orV ?_ | with_reducible refine w_notV ?_ | with_reducible refine w_ifE ?_ | with_reducible refine w_chain ?_ | with_reducible refine w_i0 ?_
  | with_reducible refine w_call ?_ | with_reducible refine w_callS ?_ | with_reducible refine w_cB ?_ | with_reducible refine w_tup ?_ | with_reducible refine w_lst ?_ | with_reducible refine w_fldV ?_
  | with_reducible refine w_neF ?_ | with_reducible refine w_neT ?_ | with_reducible refine w_notN ?_ | with_reducible refine w_isN ?_ | with_reducible refine w_gname ?_ | with_reducible refine w_gsub ?_ | with_reducible refine w_asg ?_ | with_reducible refine w_sl ?_ | with_reducible refine w_noP ?_ | with_reducible refine w_int1 ?_ | with_reducible refine w_part ?_ | with_reducible refine w_meth ?_ | with_reducible refine w_din ?_ | with_reducible refine w_dnotin ?_ | with_reducible refine w_dgt ?_ | with_reducible refine w_dget1 ?_ | with_reducible refine w_dget2 ?_ | with_reducible refine w_dput ?_ | with_reducible refine w_yes ?_ | with_reducible refine w_nT ?_ | with_reducible refine w_nF ?_ | with_reducible refine w_iteT ?_ | with_reducible refine w_iteF ?_))
namespace K3
theorem mkT {K : PySem.W.Frag} {x f1 f2 f3 : Str} {v1 v3 : V} {l a dx : Addr} {xs : List V} {H1 : Hp} {PP : Hp → Prop} {E : XK} (hl : H1 l = some (.lst xs)) (ha : H1 a = none) (hd : H1 dx = none) (q : ∀ t H', Same H1 H' → Ins K H' a x [(f1, v1), (f2, .ref t), (f3, v3)] → SqT K H' t xs → PP H') :
    spIT K x f1 f2 f3 [.ref a, v1, .ref l, v3] (upd (upd H1 dx (.own a)) a (.ins (He.ga K x) dx [])) (fun v H2 => v = .non ∧ PP H2) E := by
  have st : ∀ b o, H1 b = some o → upd (upd H1 dx (.own a)) a (.ins (He.ga K x) dx []) b = some o := fun b o hb => by rw [upd_ne (ne_of_none hb ha), upd_ne (ne_of_none hb hd)]; exact hb
  exact ⟨a, dx, l, v1, v3, xs, rfl, .inl (SqL.of (st _ _ hl)), upd_same, fun t H' h1 h2 h3 => ⟨rfl, q t H' (fun b o hb => h3 b o (ne_of_none hb ha) (st b o hb)) ⟨dx, h1⟩ h2⟩⟩
theorem mkI {K : PySem.W.Frag} {x : Str} {fs : List Str} {ws : List V} {a dx : Addr} {H1 : Hp} {PP : Hp → Prop} {E : XK} (hl : ws.length = fs.length) (ha : H1 a = none) (hd : H1 dx = none) (q : ∀ H', Same H1 H' → Ins K H' a x (fs.zip ws) → PP H') :
    spI K x fs (.ref a :: ws) (upd (upd H1 dx (.own a)) a (.ins (He.ga K x) dx [])) (fun v H2 => v = .non ∧ PP H2) E := by
  refine ⟨a, dx, ws, rfl, hl, upd_same, fun H' h1 h2 => ⟨rfl, q H' (fun b o hb => ?_) ⟨dx, h1⟩⟩⟩
  have nb : b ≠ a := ne_of_none hb ha
  exact h2 b o nb (by rw [upd_ne nb, upd_ne (ne_of_none hb hd)]; exact hb)
/-! ### like questions, outside or in rounds -/
def oneR (os : List Str) (n : Str) : Rw := .one n os none
def rsF (ns os : List Str) (b : Bool) (oft : Str) : List Rw := if b = true then [.number oft 0 3 none, .rounds oft (ns.map (oneR os)) none] else ns.map (oneR os)
theorem flat_ones {os : List Str} {ar : Option Nat} : ∀ {ns : List Str} {k : Nat}, Rws.flat (ns.map (oneR os)) ar k = ns.map fun n => (oneR os n, ar)
  | [], _ => by rw [List.map_nil, Rws.flat]; rfl
  | n :: ns, k => by
    rw [List.map_cons, Rws.flat, flat_ones (ns := ns)]
    rfl
theorem cnt_ones {os : List Str} : ∀ {ns : List Str}, Rws.cnt (ns.map (oneR os)) = ns.length
  | [] => by rw [List.map_nil, Rws.cnt]; rfl
  | n :: ns => by
    rw [List.map_cons, Rws.cnt, cnt_ones (ns := ns), List.length_cons]
    show 1 + _ = _
    omega
theorem dep_ones {os : List Str} : ∀ {ns : List Str}, Rws.dep (ns.map (oneR os)) = 0
  | [] => by rw [List.map_nil, Rws.dep]
  | n :: ns => by
    rw [List.map_cons, Rws.dep, dep_ones (ns := ns)]
    rfl
theorem look_snoc {L : AL} {n m : Str} {r : Rw} {ar : Option Nat} (h : look L m = none) (ne : n ≠ m) : look (L ++ [(n, r, ar)]) m = none := by
  unfold look at h ⊢
  rw [Option.map_eq_none_iff] at h ⊢
  rw [List.find?_append, h]
  show ([(n, r, ar)] : AL).find? (fun e => decide (e.1 = m)) = none
  rw [List.find?_cons, decide_eq_false ne]
  rfl
theorem dupOf_nd : ∀ {os seen : List Str}, os.Nodup → (∀ o ∈ os, o ∉ seen) → dupOf seen os = none
  | [], _, _, _ => rfl
  | o :: os, seen, h, k => by
    rw [List.nodup_cons] at h
    unfold dupOf
    rw [if_neg (k o (List.mem_cons_self ..))]
    refine dupOf_nd h.2 fun x hx z => ?_
    rcases List.mem_append.mp z with z | z
    · exact k x (List.mem_cons_of_mem _ hx) z
    · rw [List.mem_singleton.mp z] at hx
      exact h.1 hx
theorem dup_nd {os : List Str} (h : os.Nodup) : dupF os = none := by
  unfold dupF
  rw [dupOf_nd h fun _ _ z => List.not_mem_nil z]
  rfl
theorem nameF_ok {z : Str} (h : isName z = true) : nameF z = none := by
  unfold nameF
  rw [h]
  rfl
theorem namesF_ok : ∀ {os : List Str}, (∀ o ∈ os, isName o = true) → namesF os = none
  | [], _ => rfl
  | o :: os, h => by
    show thenF (nameF o) (namesF os) = none
    rw [nameF_ok (h o (List.mem_cons_self ..)), namesF_ok fun x hx => h x (List.mem_cons_of_mem _ hx)]
    rfl
structure OptsOk (os : List Str) : Prop where
  l1 : 1 ≤ os.length
  l6 : os.length ≤ 6
  nd : os.Nodup
  nm : ∀ o ∈ os, isName o = true
theorem opt_ok {os : List Str} (h : OptsOk os) : optF os 6 = none := by
  unfold optF
  rw [if_pos ⟨h.l1, h.l6⟩, namesF_ok h.nm, dup_nd h.nd]
  rfl
theorem ck_one {os : List Str} (ho : OptsOk os) {L : AL} {n : Str} {ar : Option Nat} (hn : isName n = true) (hl : look L n = none) : ckRow L (oneR os n) ar = none := by
  unfold ckRow
  have h1 : ckName L (oneR os n) = none := by
    show (if true = true then thenF (nameF n) (if (look L n).isSome = true then some (.twice n) else none) else none) = none
    rw [nameF_ok hn, hl]
    rfl
  have h2 : ckOpt (oneR os n) = none := opt_ok ho
  rw [h1, h2]
  rfl
theorem ck_ones {os : List Str} (ho : OptsOk os) {ar : Option Nat} : ∀ {ns : List Str} {L : AL}, ns.Nodup → (∀ n ∈ ns, isName n = true) → (∀ n ∈ ns, look L n = none) → ckRows L (ns.map fun n => (oneR os n, ar)) = none
  | [], _, _, _, _ => rfl
  | n :: ns, L, nd, nm, lk => by
    rw [List.nodup_cons] at nd
    show thenF (ckRow L (oneR os n) ar) (ckRows (L ++ [(n, oneR os n, ar)]) _) = none
    rw [ck_one ho (nm n (List.mem_cons_self ..)) (lk n (List.mem_cons_self ..))]
    exact ck_ones ho nd.2 (fun m hm => nm m (List.mem_cons_of_mem _ hm)) fun m hm => look_snoc (lk m (List.mem_cons_of_mem _ hm)) fun z => nd.1 (z ▸ hm)
structure NsOk (ns os : List Str) (b : Bool) (oft : Str) : Prop where
  l1 : 2 ≤ ns.length
  l4 : ns.length ≤ 4
  nd : ns.Nodup
  nm : ∀ n ∈ ns, isName n = true
  os : OptsOk os
  oo : isName oft = true
  no : oft ∉ ns
theorem flat_rs {ns os : List Str} {b : Bool} {oft : Str} : Rws.flat (rsF ns os b oft) none 0 = (if b = true then [(.number oft 0 3 none, none), (.rounds oft (ns.map (oneR os)) none, none)] else []) ++ ns.map fun n => (oneR os n, if b = true then some 1 else none) := by
  cases b with
  | true =>
    show Rws.flat [.number oft 0 3 none, .rounds oft (ns.map (oneR os)) none] none 0 = _
    simp only [Rws.flat, Rw.flat, flat_ones]
    simp [Rw.cnt]
  | false =>
    show Rws.flat (ns.map (oneR os)) none 0 = _
    rw [flat_ones]
    rfl
theorem cnt_rs {ns os : List Str} {b : Bool} {oft : Str} : Rws.cnt (rsF ns os b oft) = (if b = true then 2 else 0) + ns.length := by
  cases b with
  | true =>
    show Rws.cnt [.number oft 0 3 none, .rounds oft (ns.map (oneR os)) none] = _
    simp only [Rws.cnt, Rw.cnt, cnt_ones]
    simp
    omega
  | false =>
    show Rws.cnt (ns.map (oneR os)) = _
    rw [cnt_ones]
    simp
theorem form_rs {ns os : List Str} {b : Bool} {oft : Str} (h : NsOk ns os b oft) : formF (rsF ns os b oft) = none := by
  have l1 := h.l1
  have l4 := h.l4
  unfold formF
  rw [cnt_rs, if_pos (by cases b <;> simp <;> omega), flat_rs]
  cases b with
  | false => exact ck_ones h.os h.nd h.nm fun n _ => rfl
  | true =>
    show ckRows [] ([(.number oft 0 3 none, none), (.rounds oft (ns.map (oneR os)) none, none)] ++ ns.map fun n => (oneR os n, some 1)) = none
    show thenF (ckRow [] (.number oft 0 3 none) none) (thenF (ckRow [(oft, .number oft 0 3 none, none)] (.rounds oft (ns.map (oneR os)) none) none) (ckRows [(oft, .number oft 0 3 none, none)] (ns.map fun n => (oneR os n, some 1)))) = none
    have c1 : ckRow [] (.number oft 0 3 none) none = none := by
      unfold ckRow
      have : ckName [] (.number oft 0 3 none) = none := by
        show thenF (nameF oft) none = none
        rw [nameF_ok h.oo]
        rfl
      rw [this]
      rfl
    have lo : look [(oft, .number oft 0 3 none, none)] oft = some (.number oft 0 3 none, none) := by
      unfold look
      rw [List.find?_cons, decide_eq_true rfl]
      rfl
    have c2 : ckRow [(oft, .number oft 0 3 none, none)] (.rounds oft (ns.map (oneR os)) none) none = none := by
      unfold ckRow
      have a1 : ckInner (.rounds oft (ns.map (oneR os)) none) none = none := by
        show (if (ns.map (oneR os)).length = 0 then some (Flt.count "rows" 0) else none) = none
        rw [if_neg (by rw [List.length_map]; omega)]
      have a2 : ckCount [(oft, .number oft 0 3 none, none)] (.rounds oft (ns.map (oneR os)) none) none = none := by
        unfold ckCount quest
        dsimp only
        rw [lo]
        rfl
      rw [a1, a2]
      rfl
    rw [c1, c2]
    refine ck_ones h.os h.nd h.nm fun n hn => ?_
    unfold look
    rw [List.find?_cons, decide_eq_false (show ¬ oft = n from fun z => h.no (z ▸ hn))]
    rfl
theorem qs_ones {os : List Str} {ar : Option Nat} : ∀ {ns : List Str}, qsOf (ns.map fun n => (oneR os n, ar)) = ns.map (oneR os)
  | [] => rfl
  | n :: ns => by
    unfold qsOf
    rw [List.map_cons, List.filterMap_cons]
    show oneR os n :: qsOf (ns.map fun n => (oneR os n, ar)) = _
    rw [qs_ones]
    rfl
theorem qs_rs {ns os : List Str} {b : Bool} {oft : Str} : qsOf (Rws.flat (rsF ns os b oft) none 0) = (if b = true then [.number oft 0 3 none] else []) ++ ns.map (oneR os) := by
  rw [flat_rs]
  have e : ∀ (A B : List (Rw × Option Nat)), qsOf (A ++ B) = qsOf A ++ qsOf B := fun A B => List.filterMap_append
  rw [e, qs_ones]
  congr 1
  cases b <;> rfl
theorem q_one {ns os : List Str} {b : Bool} {oft n : Str} (h : NsOk ns os b oft) (hn : n ∈ ns) : formQ (rsF ns os b oft) n = some (oneR os n) := by
  unfold formQ
  rw [qs_rs, List.find?_append]
  have e0 : ((if b = true then [Rw.number oft 0 3 none] else []).find? fun r => decide (r.name = n)) = none := by
    cases b with
    | false => rfl
    | true =>
      show ([Rw.number oft 0 3 none].find? _) = none
      rw [List.find?_cons, decide_eq_false (show ¬ (Rw.number oft 0 3 none).name = n from fun z => h.no ((show oft = n from z) ▸ hn))]
      rfl
  rw [e0]
  show (ns.map (oneR os)).find? _ = _
  clear e0 h
  induction ns with
  | nil => cases hn
  | cons m ns ih =>
    rw [List.map_cons, List.find?_cons]
    by_cases e : m = n
    · rw [decide_eq_true (show (oneR os m).name = n from e), e]
    · rw [decide_eq_false (show ¬ (oneR os m).name = n from e)]
      exact ih ((List.mem_cons.mp hn).resolve_left fun q => e q.symm)
theorem q_oft {ns os : List Str} {oft : Str} : formQ (rsF ns os true oft) oft = some (.number oft 0 3 none) := by
  unfold formQ
  rw [qs_rs]
  show ((Rw.number oft 0 3 none) :: ns.map (oneR os)).find? _ = _
  rw [List.find?_cons, decide_eq_true (show (Rw.number oft 0 3 none).name = oft from rfl)]
theorem rd_rs {ns os : List Str} {b : Bool} {oft z : Str} : inRd (rsF ns os b oft) z = (b && decide (z ∈ ns)) := by
  unfold inRd repB
  rw [flat_rs, List.any_append]
  have e1 : ∀ (o : Option Nat), ((ns.map fun n => (oneR os n, o)).any fun e => e.1.isQ && (e.2.isSome && decide (e.1.name = z))) = (o.isSome && decide (z ∈ ns)) := by
    intro o
    induction ns with
    | nil => cases o <;> rfl
    | cons n ns ih =>
      rw [List.map_cons, List.any_cons, ih]
      show (true && (o.isSome && decide (n = z)) || _) = _
      cases o with
      | none => rfl
      | some k =>
        by_cases c : n = z
        · rw [c]; simp
        · rw [decide_eq_false c]
          simp only [Option.isSome_some, Bool.true_and, Bool.false_or]
          exact decide_eq_decide.mpr ⟨fun h => List.mem_cons_of_mem _ h, fun h => (List.mem_cons.mp h).resolve_left fun q => c q.symm⟩
  rw [e1]
  cases b <;> simp [Rw.isQ]
def spFormW (K : PySem.W.Frag) : Sp := fun vs H Q _ => ∃ (nl ol : Addr) (ns os : List Str) (b : Bool) (oft : Str), vs = [.ref nl, .ref ol, .bl b, .str oft] ∧ H nl = some (.lst (ns.map V.str)) ∧ H ol = some (.lst (os.map V.str)) ∧ NsOk ns os b oft ∧
  ∀ f H', Same H H' → H f = none → FormO K H' f (rsF ns os b oft) → Q (.ref f) H'
section
variable {P : Program} {w : World} {K : PySem.W.Frag} {mg : Str → Option Value} {base : Heap}
theorem sc_form : FnScope ["_law_names_here", "_law_options", "_law_inside", "_law_often", "_law_rows", "_law_name_here"] ["_law_names_here", "_law_options", "_law_inside", "_law_often"] (defScope s__law_form) := ⟨rfl, rfl, rfl, by decide +kernel, rfl, by decide +kernel, by decide +kernel⟩
theorem ok_form (T : Tx K mg) : Ok P w K mg base 11 (He.ga K "_law_form") ["_law_names_here", "_law_options", "_law_inside", "_law_often"] (spFormW K) := by
  obtain ⟨fd, F⟩ := T.f__law_form
  obtain ⟨fOne, FOne⟩ := T.f_One_init
  obtain ⟨fNumber, FNumber⟩ := T.f_Number_init
  obtain ⟨fRounds, FRounds⟩ := T.f_Rounds_init
  obtain ⟨_, dOne, bOne⟩ := FOne.binds0 (ps := ["self", "name", "options", "where"]) 3 (fun z => nomatch z) rfl (fun _ _ _ _ _ _ us ks h1 h2 => match us, ks, h1, h2 with | [_, _, _], [_], _, _ => ⟨_, _, _, _, _, _, rfl, rfl, rfl⟩)
  obtain ⟨_, dNumber, bNumber⟩ := FNumber.binds0 (ps := ["self", "name", "low", "high", "where"]) 4 (fun z => nomatch z) rfl (fun _ _ _ _ _ _ us ks h1 h2 => match us, ks, h1, h2 with | [_, _, _, _], [_], _, _ => ⟨_, _, _, _, _, _, rfl, rfl, rfl⟩)
  obtain ⟨_, dRounds, bRounds⟩ := FRounds.binds0 (ps := ["self", "count", "rows", "where"]) 3 (fun z => nomatch z) rfl (fun _ _ _ _ _ _ us ks h1 h2 => match us, ks, h1, h2 with | [_, _, _], [_], _, _ => ⟨_, _, _, _, _, _, rfl, rfl, rfl⟩)
  refine ⟨fd, F.ok (k := 10) sc_form (fun vs H Q E h => ?_) (fun cdv A outer s_ H vs Q E hr h => ?_), F.bindsN fun _ _ _ _ _ _ us hl => match us, hl with | [_, _, _, _], _ => rfl, F.kp⟩
  · obtain ⟨nl, ol, ns, os, b, oft, rfl, _⟩ := h
    rfl
  obtain ⟨nl, ol, ns, os, b, oft, rfl, hnl, hol, ok, q⟩ := h
  refine ⟨_, pss_cons (by exact ps_setLc (i := 4) (own := [("_law_name_here", 5)]) (g := gName 5) (tt := tYes) (te := (tMake (He.ga K "One") (spIT K "One" "name" "options" "where") [.non] E0 (tCons (tVar 5) (tCons (tVar 1) tNil)))) (by rfl) sc_form.nd rfl rfl (by rfl) (pi_list (pv 0)) (blkOk_by (own := [("_law_name_here", 5)]) (N := ["_law_names_here", "_law_options", "_law_inside", "_law_often", "_law_rows", "_law_name_here"]) (sc := defScope s__law_form) (by decide +kernel)) (fun _ _ _ _ _ => (pg_name (i := 5) sc_form.nd rfl (Or.inl rfl))) (fun _ _ _ _ _ => pts_nil) (fun _ _ _ _ _ => (pe_make T.mk_One (ok_One T FOne) (hr.mono (by decide : 2 ≤ 10)) (by rfl) T.g_One bOne dOne passL (pa_cons (pv 5) (pa_cons (pv 1) pa_nil)))))
      (pss_cons (ps_if (pt_val (pv 2)) (pss_one (ps_ret (pe_cls T.mk_Form (ok_Form T 1) hr T.g_Form (pa_cons (pe_lst (pa_cons (pe_make T.mk_Number (ok_Number T FNumber) (hr.mono (by decide : 2 ≤ 10)) (by rfl) T.g_Number bNumber dNumber passL (pa_cons (pv 3) (pa_cons pe_int (pa_cons pe_int pa_nil)))) (pa_cons (pe_make T.mk_Rounds (ok_Rounds T FRounds) (hr.mono (by decide : 2 ≤ 10)) (by rfl) T.g_Rounds bRounds dRounds passL (pa_cons (pv 3) (pa_cons (pv 4) pa_nil))) pa_nil))) pa_nil)))) pss_nil)
      (pss_one (ps_ret (pe_cls T.mk_Form (ok_Form T 1) hr T.g_Form (pa_cons (pv 4) pa_nil))))), ?_⟩
  walk_at "go"
  refine lc_open (list_open ?_)
  walk_at "go"
  refine ⟨nl, rfl, ⟨_, SqL.of hnl⟩, fun D hD => ?_⟩
  refine lc_list (K := K) (a := nl) (xs := ns.map V.str) (fun (i : Nat) H' => Same H H' ∧ ∃ ws, H' D = some (.lst ws) ∧ ROs K H' ws ((ns.take i).map (oneR os)) ∧ ws.length ≤ i) ⟨Same.new hD _, [], upd_same, .nil, Nat.le_refl _⟩ (fun i H' _ k => SqL.of (k.1 _ _ hnl)) ?_ ?_
  · rintro i x H1 hx ⟨e1, ws, h1, hws, lw⟩
    rw [List.getElem?_map] at hx
    obtain ⟨n, hn, rfl⟩ := Option.map_eq_some_iff.mp hx
    walk_at "go"
    refine ⟨rfl, ?_⟩
    walk_at "go"
    refine w_make ?_
    walk_at "go"
    intro a dx ha hdx hne
    refine mkT (K := K) (x := "One") (f1 := "name") (f2 := "options") (f3 := "where") (v1 := .str n) (v3 := .non) (e1 _ _ hol) ha hdx fun t H2 e2 hi ht => ?_
    have li := (List.getElem?_eq_some_iff.mp hn).1
    have l4 := ok.l4
    refine ⟨ws, e2 _ _ h1, Nat.lt_of_le_of_lt (show ws.length ≤ 100 by omega) (by decide), (e1.trans e2).mut hD, ws ++ [.ref a], upd_same, ?_, by rw [List.length_append]; exact Nat.succ_le_succ lw⟩
    rw [List.take_add_one, hn, List.map_append]
    have si := SI.upd (e2 _ _ h1) rfl (.lst (ws ++ [V.ref a]))
    exact ROs.app (ROs.si si (ROs.same e2 hws)) (.cons (RO.si si (.one hi ht .none)) .nil)
  · rintro H1 ⟨e1, ws, h1, hws, lw⟩
    rw [List.length_map, List.take_length] at hws
    have hF := form_rs ok
    have l4 := ok.l4
    have cr := cnt_rs (ns := ns) (os := os) (b := b) (oft := oft)
    have done : ∀ (H2 : Hp) (l : Addr) (xs : List V) (QQ : VK), Same H1 H2 → H2 l = some (.lst xs) → ROs K H2 xs (rsF ns os b oft) → (∀ f H', QQ (.ref f) H' = Q (.ref f) H') → ∀ x dx, H2 x = none → H2 dx = none → dx ≠ x →
        spForm K 1 [.ref x, .ref l] (upd (upd H2 dx (.own x)) x (.ins (He.ga K "Form") dx [])) (fun v H3 => v = .non ∧ QQ (.ref x) H3) E0 := by
      intro H2 l xs QQ e2 hl hxs hQQ x dx hx hdx hne
      refine ⟨x, dx, l, xs, rsF ns os b oft, H2, rfl, fun c o h => by rw [upd_ne (ne_of_none h hx), upd_ne (ne_of_none h hdx)]; exact h, hx, .inl (SqL.of hl), hxs, ?_, ?_, ?_, upd_same, ?_⟩
      · intro e he
        rw [flat_rs] at he
        have lon := (name_ok ok.oo).2
        rcases List.mem_append.mp he with he | he
        · cases b with
          | false => exact absurd he (List.not_mem_nil)
          | true =>
            rcases List.mem_cons.mp he with rfl | he
            · exact ⟨Nat.one_pos, Nat.zero_le _, Nat.zero_le _, by show oft.length ≤ 1000; omega, Nat.zero_le _, fun o h => nomatch h⟩
            · rw [List.mem_singleton.mp he]
              exact ⟨Nat.one_pos, Nat.zero_le _, Nat.zero_le _, by show oft.length ≤ 1000; omega, Nat.zero_le _, fun o h => nomatch h⟩
        · obtain ⟨n, hn, rfl⟩ := List.mem_map.mp he
          have := (name_ok (ok.nm n hn)).2
          have := ok.os.l6
          exact ⟨Nat.one_pos, Nat.zero_le _, Nat.zero_le _, by show n.length ≤ 1000; omega, by show os.length ≤ 1000; omega, fun o ho => by have := (name_ok (ok.os.nm o ho)).2; omega⟩
      · cases b with
        | false => show Rws.dep (ns.map (oneR os)) < 8; rw [dep_ones]; decide
        | true => show Rws.dep [.number oft 0 3 none, .rounds oft (ns.map (oneR os)) none] < 8; simp only [Rws.dep, Rw.dep, dep_ones]; decide
      · rw [cr]; split <;> omega
      · unfold FormEnd
        rw [hF]
        intro H' t d d2 kvs kv2 e3 hx3 ht hd hp hd2 hz
        refine ⟨rfl, ?_⟩
        rw [hQQ]
        exact q x H' ((e1.trans e2).trans e3) ((e1.trans e2).free hx) ⟨hF, dx, t, d, d2, xs, kvs, kv2, hx3, ht, ROs.same e3 hxs, hd, hp, hd2, hz⟩
    walk_at "go"
    cases b with
    | false =>
      walk_at "go"
      refine w_make ?_
      walk_at "go"
      exact done H1 D ws Q (Same.refl _) h1 hws fun _ _ => rfl
    | true =>
      walk_at "go"
      refine w_make ?_
      walk_at "go"
      refine w_make ?_
      walk_at "go"
      intro a dxa ha hdxa _
      refine mkI (K := K) (x := "Number") (fs := ["name", "low", "high", "where"]) (ws := [.str oft, .int 0, .int 3, .non]) rfl ha hdxa fun H2 e2 hi => ?_
      walk_at "go"
      refine w_make ?_
      walk_at "go"
      intro a2 dxb ha2 hdxb _
      refine mkT (K := K) (x := "Rounds") (f1 := "count") (f2 := "rows") (f3 := "where") (v1 := .str oft) (v3 := .non) (e2 _ _ h1) ha2 hdxb fun t2 H3 e3 hi2 ht2 => ?_
      walk_at "go"
      refine ⟨by show 2 ≤ sizeLine; decide, fun p hp => ?_⟩
      have e4 := Same.new hp (.lst [V.ref a, V.ref a2])
      have rN : RO K H2 (.ref a) (.number oft 0 3 none) := .number hi .none
      have rR : RO K H3 (.ref a2) (.rounds oft (ns.map (oneR os)) none) := .rounds hi2 ht2 (ROs.same (e2.trans e3) hws) .none
      exact done _ p _ Q ((e2.trans e3).trans e4) upd_same (.cons (RO.same (e3.trans e4) rN) (.cons (RO.same e4 rR) .nil)) fun _ _ => rfl
end
end K3
end W3_part
section W4_part
set_option Elab.async false
set_option linter.all false
set_option maxRecDepth 100000
set_option maxHeartbeats 1000000
set_option pp.deepTerms true
open PySem PySem.Spec PyProof.Rows L2
/-- go on as far as nothing is open -/
local macro_rules | `(tactic| walk_at "go") => `(tactic| repeat (first
  | with_reducible refine w_seq ?_ | with_reducible refine w_next ?_ | with_reducible refine w_set ?_ | with_reducible refine w_drop ?_ | with_reducible refine w_ret ?_ | with_reducible refine w_retN ?_
  | with_reducible refine w_if ?_ | ((with_reducible refine' w_var ?hv ?_); (case hv => exact rfl)) | with_reducible refine w_c ?_ | with_reducible refine w_nil ?_ | with_reducible refine w_cons ?_ | with_reducible refine w_op ?_ | with_reducible refine w_un ?_
  | with_reducible refine w_test ?_ | with_reducible refine w_tB ?_ | with_reducible refine w_not ?_ | with_reducible refine w_and ?_ | with_reducible refine w_or ?_ | with_reducible refine w_bl ?_
  | with_reducible refine w_andV ?_ | with_reducible refine w_orV ?_ | with_reducible refine w_notV ?_ | with_reducible refine w_ifE ?_ | with_reducible refine w_chain ?_ | with_reducible refine w_i0 ?_
  | with_reducible refine w_call ?_ | with_reducible refine w_callS ?_ | with_reducible refine w_cB ?_ | with_reducible refine w_tup ?_ | with_reducible refine w_lst ?_ | with_reducible refine w_fldV ?_
  | with_reducible refine w_neF ?_ | with_reducible refine w_neT ?_ | with_reducible refine w_notN ?_ | with_reducible refine w_isN ?_ | with_reducible refine w_gname ?_ | with_reducible refine w_gsub ?_ | with_reducible refine w_asg ?_ | with_reducible refine w_sl ?_ | with_reducible refine w_noP ?_ | with_reducible refine w_int1 ?_ | with_reducible refine w_part ?_ | with_reducible refine w_meth ?_ | with_reducible refine w_din ?_ | with_reducible refine w_dnotin ?_ | with_reducible refine w_dgt ?_ | with_reducible refine w_dget1 ?_ | with_reducible refine w_dget2 ?_ | with_reducible refine w_dput ?_ | with_reducible refine w_yes ?_ | with_reducible refine w_nT ?_ | with_reducible refine w_nF ?_ | with_reducible refine w_iteT ?_ | with_reducible refine w_iteF ?_))
namespace K3
/-- an answer at one of the questions' spots, or how often -/
def GoodE (ns os : List Str) (b : Bool) (oft : Str) (y : Spot × An) : Prop := (y.1.1 ∈ ns ∧ (b = true → 1 ≤ y.1.2 ∧ y.1.2 ≤ 3) ∧ (b = false → y.1.2 = 0) ∧ ∃ o ∈ os, y.2 = .str o) ∨ (b = true ∧ y = ((oft, 0), .int 2))
theorem put_mem {al : Ans} {s : Spot} {x : An} {y : Spot × An} (h : y ∈ putA al s x) : y ∈ al ∨ y = (s, x) := by
  unfold putA at h
  split at h
  · obtain ⟨z, hz, e⟩ := List.mem_map.mp h
    split at e
    · rename_i c
      exact .inr (by rw [← e, c])
    · exact .inl (e ▸ hz)
  · rcases List.mem_append.mp h with h | h
    · exact .inl h
    · exact .inr (List.mem_singleton.mp h)
def shift (ns : List Str) (k : Nat) (n : Str) : Str := if n ∈ ns then ns.getD ((ns.idxOf n + k) % ns.length) n else n
def sig (ns : List Str) (k : Nat) (s : Spot) : Spot := (shift ns k s.1, s.2)
def putOnF (al : Ans) (ns : List Str) (k : Nat) : Ans := al.foldl (fun acc y => putA acc (sig ns k y.1) y.2) []
theorem putOn_len {ns : List Str} {k : Nat} : ∀ {al acc : Ans}, (al.foldl (fun acc y => putA acc (sig ns k y.1) y.2) acc).length ≤ acc.length + al.length
  | [], acc => Nat.le_refl _
  | y :: al, acc => by
    have h1 := putOn_len (ns := ns) (k := k) (al := al) (acc := putA acc (sig ns k y.1) y.2)
    have h2 := put_len (al := acc) (s := sig ns k y.1) (x := y.2)
    rw [List.foldl_cons, List.length_cons]
    omega
theorem putOn_nd {ns : List Str} {k : Nat} {al : Ans} : ((putOnF al ns k).map (·.1)).Nodup := by
  have : ∀ {al acc : Ans}, (acc.map (·.1)).Nodup → ((al.foldl (fun acc y => putA acc (sig ns k y.1) y.2) acc).map (·.1)).Nodup := by
    intro al
    induction al with
    | nil => exact fun h => h
    | cons y al ih => exact fun h => ih (put_nd h)
  exact this List.nodup_nil
theorem AD.bmw {H H' : Hp} {s d : Addr} {kvs : List (List Key × V)} {al : Ans} (hs : Src H s) (e : BM [s] H H') (h : AD H d kvs al) : AD H' d kvs al := by
  refine ⟨L2.Paired.mapP h.ents fun _ _ z => z.keep fun c xs q => e.at q fun m => ?_, h.nd⟩
  obtain ⟨a, b, cc, hs⟩ := hs
  rw [List.mem_singleton.mp m, hs] at q
  cases q
def spAnsW (K : PySem.W.Frag) : Sp := fun vs H Q _ => ∃ (s nl ol : Addr) (n : Nat) (ns os : List Str) (b : Bool) (oft : Str), vs = [.ref s, .ref nl, .ref ol, .bl b, .str oft] ∧ Well H s n ∧ n + 100 ≤ most ∧ H nl = some (.lst (ns.map V.str)) ∧ H ol = some (.lst (os.map V.str)) ∧ nl ≠ s ∧ ol ≠ s ∧ NsOk ns os b oft ∧
  ∀ p H' kvs al, H p = none → BM [s] H H' → Well H' s (n + 100) → H' p = some (.dT kvs) → AD H' p kvs al → (∀ y ∈ al, GoodE ns os b oft y) → al.length ≤ 100 → Q (.ref p) H'
def spPutOn (K : PySem.W.Frag) : Sp := fun vs H Q _ => ∃ (d l : Addr) (kvs : List (List Key × V)) (al : Ans) (ns : List Str) (k : Nat), vs = [.ref d, .ref l, .int (k : Int)] ∧ H d = some (.dT kvs) ∧ AD H d kvs al ∧ al.length ≤ 10000 ∧ SqL K H l (ns.map V.str) ∧ 1 ≤ ns.length ∧ ns.length ≤ 100 ∧ k ≤ 100 ∧ RetA (putOnF al ns k) H Q
section
variable {P : Program} {w : World} {K : PySem.W.Frag} {mg : Str → Option Value} {base : Heap}
theorem sc_answers : FnScope ["_law_well_here", "_law_names_here", "_law_options", "_law_inside", "_law_often", "_law_answers_here", "_law_name_here", "_law_k"] ["_law_well_here", "_law_names_here", "_law_options", "_law_inside", "_law_often"] (defScope s__law_answers) := ⟨rfl, rfl, rfl, by decide +kernel, rfl, by decide +kernel, by decide +kernel⟩
theorem ok_answers (T : Tx K mg) : Ok P w K mg base 3 (He.ga K "_law_answers") ["_law_well_here", "_law_names_here", "_law_options", "_law_inside", "_law_often"] (spAnsW K) := by
  obtain ⟨fd, F⟩ := T.f__law_answers
  have O_law_draw := ok_draw (P := P) (w := w) (base := base) T
  have O_law_pick := ok_pick (P := P) (w := w) (base := base) T
  refine ⟨fd, F.ok (k := 2) sc_answers (fun vs H Q E h => ?_) (fun cdv A outer s_ H vs Q E hr h => ?_), F.bindsN fun _ _ _ _ _ _ us hl => match us, hl with | [_, _, _, _, _], _ => rfl, F.kp⟩
  · obtain ⟨s, nl, ol, n, ns, os, b, oft, rfl, hs, hn, hnl, hol, nnl, nol, ok, q⟩ := h
    rfl
  obtain ⟨s, nl, ol, n, ns, os, b, oft, rfl, hs, hn, hnl, hol, nnl, nol, ok, q⟩ := h
  have hu65 := K3.Room.units65 hr
  have hu70 := K3.Room.units70 hr
  have hu4 := K3.Room.units4 hr
  have hu64 := Nat.lt_of_succ_lt hu65
  have hu0 := Nat.lt_of_le_of_lt (Nat.le_add_right _ 65) hu65
  have hu1 := Nat.lt_of_le_of_lt (Nat.add_le_add_left (show 1 ≤ 65 by decide) _) hu65
  have r_law_draw : Room 1 _ := hr.mono (by decide)
  have r_law_pick : Room 2 _ := hr.mono (by decide)
  refine ⟨_, pss_cons (ps_set (i := 5) sc_answers.nd rfl (Or.inl rfl) pe_dnewT)
      (pss_cons (ps_for (passes_of rfl) (by rfl) (pi_list (pv 1)) (pg_name (i := 6) sc_answers.nd rfl (Or.inl rfl)) (pss_one (ps_for (passes_of rfl) (by rfl) (pi_list (pe_ifExp (pt_val (pv 3)) (pe_lst (pa_cons pe_int (pa_cons pe_int (pa_cons pe_int pa_nil)))) (pe_lst (pa_cons pe_int pa_nil)))) (pg_name (i := 7) sc_answers.nd rfl (Or.inl rfl)) (pss_one (ps_if (pt_cmpR op_gt (pe_f O_law_draw r_law_draw T.g__law_draw (pa_cons (pv 0) (pa_cons pe_int pa_nil))) pe_int (nomark _)) (pss_one (ps_dput hu1 (pv 5) (pe_tup (pa_cons (pv 6) (pa_cons (pv 7) pa_nil))) (pe_f O_law_pick r_law_pick T.g__law_pick (pa_cons (pv 0) (pa_cons (pv 2) pa_nil))) rfl)) pss_nil)))))
      (pss_cons (ps_if (pt_val (pv 3)) (pss_one (ps_dput hu1 (pv 5) (pe_tup (pa_cons (pv 4) (pa_cons pe_int pa_nil))) pe_int rfl)) pss_nil)
      (pss_one (ps_ret (pv 5))))), ?_⟩
  walk_at "go"
  intro D hD
  have e0 := Same.new hD (.dT [])
  have nDn : D ≠ nl := fun z => by rw [z, hnl] at hD; cases hD
  walk_at "go"
  refine ⟨_, rfl, nl, rfl, ⟨_, SqL.of (e0 _ _ hnl)⟩, ?_⟩
  have l4 := ok.l4
  have nDs0 : D ≠ s := hs.ne hD
  refine for_list (K := K) (a := nl) (xs := ns.map V.str) (fun (i : Nat) σ H' => ∃ (ms : List (List Key × V)) (al : Ans) (o6 o7 : Option V), σ = [some (.ref s), some (.ref nl), some (.ref ol), some (.bl b), some (.str oft), some (.ref D), o6, o7] ∧ BM [s] H H' ∧ Well H' s (n + 6 * i) ∧ H' D = some (.dT ms) ∧ AD H' D ms al ∧ (∀ y ∈ al, GoodE ns os b oft y) ∧ al.length ≤ 3 * i)
    ⟨[], [], none, none, rfl, BM.of e0, hs.same e0, upd_same, ⟨.nil, List.nodup_nil⟩, fun y h => absurd h List.not_mem_nil, Nat.zero_le _⟩ (fun i σ H' _ ⟨_, _, _, _, _, e, _⟩ => SqL.of (e.at hnl (fun z => nnl (List.mem_singleton.mp z)))) ?_ ?_
  · rintro i x σ H1 hx ⟨ms, al, o6, o7, rfl, b1, w1, h1, a1, g1, l1⟩
    rw [List.getElem?_map] at hx
    obtain ⟨m, hm, rfl⟩ := Option.map_eq_some_iff.mp hx
    have hmem := List.mem_of_getElem? hm
    have li : i < ns.length := (List.getElem?_eq_some_iff.mp hm).1
    walk_at "go"
    cases b with
    | true =>
      refine list_open ?_
      walk_at "go"
      refine ⟨by show 3 ≤ sizeLine; decide, fun p hp => ?_⟩
      have ep := Same.new hp (.lst (([1, 2, 3] : List Int).map V.int))
      have hpD : p ≠ D := fun z => by rw [z, h1] at hp; cases hp
      have nps : p ≠ s := w1.ne hp
      have hL : (upd H1 p (.lst (([1, 2, 3] : List Int).map V.int))) p = some (.lst (([1, 2, 3] : List Int).map V.int)) := upd_same
      refine ⟨p, rfl, ⟨_, SqL.of hL⟩, ?_⟩
      refine for_list (K := K) (a := p) (xs := ([1, 2, 3] : List Int).map V.int) (fun (j : Nat) σ H' => ∃ (ms : List (List Key × V)) (al : Ans) (o7 : Option V), σ = [some (.ref s), some (.ref nl), some (.ref ol), some (.bl true), some (.str oft), some (.ref D), some (.str m), o7] ∧ BM [s] H H' ∧ Well H' s (n + 6 * i + 2 * j) ∧ H' D = some (.dT ms) ∧ AD H' D ms al ∧ (∀ y ∈ al, GoodE ns os true oft y) ∧ al.length ≤ 3 * i + j ∧ H' p = some (.lst (([1, 2, 3] : List Int).map V.int)))
        ⟨ms, al, o7, rfl, b1.same ep, (w1.same ep).mono (by omega), ep _ _ h1, a1.nt (Same.nt ep), g1, by omega, hL⟩ (fun j σ H' _ ⟨_, _, _, _, _, _, _, _, _, _, h⟩ => SqL.of h) ?_ ?_
      · rintro j x σ H3 hx ⟨ms, al, o7, rfl, b3, w3, h3, a3, g3, l3, hp3⟩
        rw [List.getElem?_map] at hx
        obtain ⟨kk, hk, rfl⟩ := Option.map_eq_some_iff.mp hx
        have mk := List.mem_of_getElem? hk
        have lj : j < 3 := (List.getElem?_eq_some_iff.mp hk).1
        have gd : ∀ o ∈ os, GoodE ns os true oft ((m, kk), .str o) := fun o ho => by
          obtain ⟨z1, z2⟩ := (show ((true = true → 1 ≤ kk ∧ kk ≤ 3) ∧ (true = false → kk = 0)) from ⟨fun _ => by have := mk; simp at this; omega, fun z => by cases z⟩)
          exact .inl ⟨hmem, z1, z2, o, ho, rfl⟩
        walk_at "go"
        refine ⟨s, 5, n + 6 * i + 2 * j, rfl, w3, by omega, by decide, by decide, fun r H4 hr b4 w4 => ?_⟩
        have nDs : D ≠ s := hs.ne hD
        have h4 := b4.at h3 (fun z => nDs (List.mem_singleton.mp z))
        have hp4 := b4.at hp3 (fun z => nps (List.mem_singleton.mp z))
        have a4 := AD.bmw w3.src b4 a3
        walk_at "go"
        by_cases c : (0 : Int) < (r : Int)
        · rw [show decide ((r : Int) > 0) = true from decide_eq_true c]
          walk_at "go"
          have hol4 := (b3.trans b4).at hol (fun z => nol (List.mem_singleton.mp z))
          refine ⟨s, _, _, rfl, w4, by omega, .inl ⟨ol, _, rfl, nol, .lst hol4, by have := ok.os.l1; intro z; rw [List.map_eq_nil_iff] at z; rw [z] at this; exact absurd this (by decide), by have := ok.os.l6; rw [List.length_map]; omega, fun v H5 hv b5 w5 => ?_⟩⟩
          obtain ⟨o, ho, rfl⟩ := List.mem_map.mp hv
          have h5 := b5.at h4 (fun z => nDs (List.mem_singleton.mp z))
          have hp5 := b5.at hp4 (fun z => nps (List.mem_singleton.mp z))
          have a5 := AD.bmw w4.src b5 a4
          walk_at "go"
          refine ⟨by show 2 ≤ sizeLine; decide, fun p0 hp0 => ?_⟩
          have e6 := Same.new hp0 (.tup [V.str m, V.int kk])
          have lms : ms.length < sizeLine := by
            have := a5.ents.length
            exact Nat.lt_of_le_of_lt (show ms.length ≤ 100 by omega) (by decide)
          refine ⟨D, _, rfl, DPut.t (k := keyOf (m, kk)) (e6 _ _ h5) upd_same lms, ?_⟩
          have nt6 := (Same.nt e6).trans (NT.upd (e6 _ _ h5) (.dT (putK ms (keyOf (m, kk)) (.str o))))
          refine ⟨_, putA al (m, kk) (.str o), _, rfl, ((((b3.trans b4).trans b5).same e6).mut hD), ((w5.same e6).upd nDs _).mono (by omega), upd_same, ⟨L2.Paired.mapP (en_put a5.ents (.str o) (name_ok (ok.os.nm o ho)).1) fun _ _ z => z.nt nt6, put_nd a5.nd⟩, fun y hy => ?_, by have := put_len (al := al) (s := (m, kk)) (x := .str o); omega, ?_⟩
          · rcases put_mem hy with hy | hy
            · exact g3 y hy
            · rw [hy]; exact gd o ho
          · rw [upd_ne hpD]
            exact e6 _ _ hp5
        · rw [show decide ((r : Int) > 0) = false from decide_eq_false c]
          walk_at "go"
          exact ⟨ms, al, _, rfl, b3.trans b4, w4.mono (by omega), h4, a4, g3, by omega, hp4⟩
      · rintro σ H3 ⟨ms, al, o7, rfl, b3, w3, h3, a3, g3, l3, hp3⟩
        have e3 : (([1, 2, 3] : List Int).map V.int).length = 3 := rfl
        rw [e3] at w3 l3
        exact ⟨ms, al, _, _, rfl, b3, w3.mono (by omega), h3, a3, g3, by omega⟩
    | false =>
      refine list_open ?_
      walk_at "go"
      refine ⟨by show 1 ≤ sizeLine; decide, fun p hp => ?_⟩
      have ep := Same.new hp (.lst (([0] : List Int).map V.int))
      have hpD : p ≠ D := fun z => by rw [z, h1] at hp; cases hp
      have nps : p ≠ s := w1.ne hp
      have hL : (upd H1 p (.lst (([0] : List Int).map V.int))) p = some (.lst (([0] : List Int).map V.int)) := upd_same
      refine ⟨p, rfl, ⟨_, SqL.of hL⟩, ?_⟩
      refine for_list (K := K) (a := p) (xs := ([0] : List Int).map V.int) (fun (j : Nat) σ H' => ∃ (ms : List (List Key × V)) (al : Ans) (o7 : Option V), σ = [some (.ref s), some (.ref nl), some (.ref ol), some (.bl false), some (.str oft), some (.ref D), some (.str m), o7] ∧ BM [s] H H' ∧ Well H' s (n + 6 * i + 2 * j) ∧ H' D = some (.dT ms) ∧ AD H' D ms al ∧ (∀ y ∈ al, GoodE ns os false oft y) ∧ al.length ≤ 3 * i + j ∧ H' p = some (.lst (([0] : List Int).map V.int)))
        ⟨ms, al, o7, rfl, b1.same ep, (w1.same ep).mono (by omega), ep _ _ h1, a1.nt (Same.nt ep), g1, by omega, hL⟩ (fun j σ H' _ ⟨_, _, _, _, _, _, _, _, _, _, h⟩ => SqL.of h) ?_ ?_
      · rintro j x σ H3 hx ⟨ms, al, o7, rfl, b3, w3, h3, a3, g3, l3, hp3⟩
        rw [List.getElem?_map] at hx
        obtain ⟨kk, hk, rfl⟩ := Option.map_eq_some_iff.mp hx
        have mk := List.mem_of_getElem? hk
        have lj : j < 1 := (List.getElem?_eq_some_iff.mp hk).1
        have gd : ∀ o ∈ os, GoodE ns os false oft ((m, kk), .str o) := fun o ho => by
          obtain ⟨z1, z2⟩ := (show ((false = true → 1 ≤ kk ∧ kk ≤ 3) ∧ (false = false → kk = 0)) from ⟨(fun z => by cases z), fun _ => by simpa using mk⟩)
          exact .inl ⟨hmem, z1, z2, o, ho, rfl⟩
        walk_at "go"
        refine ⟨s, 5, n + 6 * i + 2 * j, rfl, w3, by omega, by decide, by decide, fun r H4 hr b4 w4 => ?_⟩
        have nDs : D ≠ s := hs.ne hD
        have h4 := b4.at h3 (fun z => nDs (List.mem_singleton.mp z))
        have hp4 := b4.at hp3 (fun z => nps (List.mem_singleton.mp z))
        have a4 := AD.bmw w3.src b4 a3
        walk_at "go"
        by_cases c : (0 : Int) < (r : Int)
        · rw [show decide ((r : Int) > 0) = true from decide_eq_true c]
          walk_at "go"
          have hol4 := (b3.trans b4).at hol (fun z => nol (List.mem_singleton.mp z))
          refine ⟨s, _, _, rfl, w4, by omega, .inl ⟨ol, _, rfl, nol, .lst hol4, by have := ok.os.l1; intro z; rw [List.map_eq_nil_iff] at z; rw [z] at this; exact absurd this (by decide), by have := ok.os.l6; rw [List.length_map]; omega, fun v H5 hv b5 w5 => ?_⟩⟩
          obtain ⟨o, ho, rfl⟩ := List.mem_map.mp hv
          have h5 := b5.at h4 (fun z => nDs (List.mem_singleton.mp z))
          have hp5 := b5.at hp4 (fun z => nps (List.mem_singleton.mp z))
          have a5 := AD.bmw w4.src b5 a4
          walk_at "go"
          refine ⟨by show 2 ≤ sizeLine; decide, fun p0 hp0 => ?_⟩
          have e6 := Same.new hp0 (.tup [V.str m, V.int kk])
          have lms : ms.length < sizeLine := by
            have := a5.ents.length
            exact Nat.lt_of_le_of_lt (show ms.length ≤ 100 by omega) (by decide)
          refine ⟨D, _, rfl, DPut.t (k := keyOf (m, kk)) (e6 _ _ h5) upd_same lms, ?_⟩
          have nt6 := (Same.nt e6).trans (NT.upd (e6 _ _ h5) (.dT (putK ms (keyOf (m, kk)) (.str o))))
          refine ⟨_, putA al (m, kk) (.str o), _, rfl, ((((b3.trans b4).trans b5).same e6).mut hD), ((w5.same e6).upd nDs _).mono (by omega), upd_same, ⟨L2.Paired.mapP (en_put a5.ents (.str o) (name_ok (ok.os.nm o ho)).1) fun _ _ z => z.nt nt6, put_nd a5.nd⟩, fun y hy => ?_, by have := put_len (al := al) (s := (m, kk)) (x := .str o); omega, ?_⟩
          · rcases put_mem hy with hy | hy
            · exact g3 y hy
            · rw [hy]; exact gd o ho
          · rw [upd_ne hpD]
            exact e6 _ _ hp5
        · rw [show decide ((r : Int) > 0) = false from decide_eq_false c]
          walk_at "go"
          exact ⟨ms, al, _, rfl, b3.trans b4, w4.mono (by omega), h4, a4, g3, by omega, hp4⟩
      · rintro σ H3 ⟨ms, al, o7, rfl, b3, w3, h3, a3, g3, l3, hp3⟩
        have e3 : (([0] : List Int).map V.int).length = 1 := rfl
        rw [e3] at w3 l3
        exact ⟨ms, al, _, _, rfl, b3, w3.mono (by omega), h3, a3, g3, by omega⟩
  · rintro σ H1 ⟨ms, al, o6, o7, rfl, b1, w1, h1, a1, g1, l1⟩
    rw [List.length_map] at w1 l1
    walk_at "go"
    cases b with
    | false =>
      walk_at "go"
      exact q D H1 ms al hD b1 (w1.mono (by omega)) h1 a1 g1 (by omega)
    | true =>
      walk_at "go"
      refine ⟨by show 2 ≤ sizeLine; decide, fun p0 hp0 => ?_⟩
      have e6 := Same.new hp0 (.tup [V.str oft, V.int 0])
      have lms : ms.length < sizeLine := by
        have := a1.ents.length
        exact Nat.lt_of_le_of_lt (show ms.length ≤ 100 by omega) (by decide)
      refine ⟨D, _, rfl, DPut.t (k := keyOf (oft, 0)) (e6 _ _ h1) upd_same lms, ?_⟩
      have nt6 := (Same.nt e6).trans (NT.upd (e6 _ _ h1) (.dT (putK ms (keyOf (oft, 0)) (.int 2))))
      walk_at "go"
      refine q D _ _ (putA al (oft, 0) (.int 2)) hD ((b1.same e6).mut hD) (((w1.same e6).upd nDs0 _).mono (by omega)) upd_same ⟨L2.Paired.mapP (en_put a1.ents (.int 2) trivial) fun _ _ z => z.nt nt6, put_nd a1.nd⟩ (fun y hy => ?_) (by have := put_len (al := al) (s := (oft, 0)) (x := .int 2); omega)
      rcases put_mem hy with hy | hy
      · exact g1 y hy
      · rw [hy]; exact .inr ⟨rfl, rfl⟩
theorem sc_put_on : FnScope ["_law_answers_here", "_law_names_here", "_law_many", "_law_found", "_law_name_here", "_law_number", "_law_later"] ["_law_answers_here", "_law_names_here", "_law_many"] (defScope s__law_put_on) := ⟨rfl, rfl, rfl, by decide +kernel, rfl, by decide +kernel, by decide +kernel⟩
theorem ok_put_on (T : Tx K mg) : Ok P w K mg base 1 (He.ga K "_law_put_on") ["_law_answers_here", "_law_names_here", "_law_many"] (spPutOn K) := by
  obtain ⟨fd, F⟩ := T.f__law_put_on
  refine ⟨fd, F.ok (k := 0) sc_put_on (fun vs H Q E h => ?_) (fun cdv A outer s_ H vs Q E hr h => ?_), F.bindsN fun _ _ _ _ _ _ us hl => match us, hl with | [_, _, _], _ => rfl, F.kp⟩
  · obtain ⟨d, l, kvs, al, ns, k, rfl, hd, ha, la, hl, l1, l100, k100, q⟩ := h
    rfl
  obtain ⟨d, l, kvs, al, ns, k, rfl, hd, ha, la, hl, l1, l100, k100, q⟩ := h
  have hu65 := K3.Room.units65 hr
  have hu70 := K3.Room.units70 hr
  have hu4 := K3.Room.units4 hr
  have hu64 := Nat.lt_of_succ_lt hu65
  have hu0 := Nat.lt_of_le_of_lt (Nat.le_add_right _ 65) hu65
  have hu1 := Nat.lt_of_le_of_lt (Nat.add_le_add_left (show 1 ≤ 65 by decide) _) hu65
  refine ⟨_, pss_cons (ps_set (i := 3) sc_put_on.nd rfl (Or.inl rfl) pe_dnewT)
      (pss_cons (ps_lock (ps_for (passes_of rfl) (by rfl) (pi_keys (pv 0)) (pg_tup (by rfl) (pgs_cons (pg_name (i := 4) sc_put_on.nd rfl (Or.inl rfl)) (pgs_cons (pg_name (i := 5) sc_put_on.nd rfl (Or.inl rfl)) pgs_nil))) (pss_cons (ps_set (i := 6) sc_put_on.nd rfl (Or.inl rfl) (pv 4))
      (pss_cons (ps_if (pt_cmpR op_in_seq (pv 4) (pv 1) (by rfl)) (pss_one (ps_set (i := 6) sc_put_on.nd rfl (Or.inl rfl) (pe_ix ix_list (pv 1) (pe_op op_mod (pe_op op_add (pe_bm PySem.F.plainAttrs_list PySem.F.slot_list_index PySem.F.type_list_index mt_index (pv 1) (pa_cons (pv 4) pa_nil)) (pv 2)) (pe_callB call_len_seq (by rfl) T.z_len PySem.boot_len (pa_cons (pv 1) pa_nil))) (fun _ _ => rfl)))) pss_nil)
      (pss_one (ps_dput hu1 (pv 3) (pe_tup (pa_cons (pv 6) (pa_cons (pv 5) pa_nil))) (pe_dget hu1 (pv 0) (pe_tup (pa_cons (pv 4) (pa_cons (pv 5) pa_nil))) (fun _ _ => rfl)) rfl))))))
      (pss_one (ps_ret (pv 3)))), ?_⟩
  walk_at "go"
  intro D hD
  have e0 := Same.new hD (.dT [])
  have nDd : D ≠ d := fun z => by rw [z, hd] at hD; cases hD
  walk_at "go"
  have hd1 := e0 _ _ hd
  refine lock_open d _ hd1 trivial fun od => ?_
  have hD1 : (upd H D (.dT [])) D = some (.dT []) := upd_same
  generalize upd H D (.dT []) = H1 at e0 hd1 hD1
  have la2 : al.length = kvs.length := ha.ents.length.symm
  have fin : ∀ H', But D (upd H1 d (.frz od (.dT kvs))) H' → H' d = some (.frz od (.dT kvs)) ∧ Same H (upd H' d (.dT kvs)) := fun H' b => by
    refine ⟨b _ _ nDd.symm upd_same, fun c o hc => ?_⟩
    by_cases k : c = d
    · rw [k] at hc ⊢
      rw [upd_same, ← hc, hd]
    · rw [upd_ne k]
      exact b _ _ (fun z => by rw [z, hD] at hc; cases hc) (by rw [upd_ne k]; exact e0 _ _ hc)
  refine ⟨_, rfl, d, od, rfl, .inr ⟨kvs, upd_same, ?_⟩⟩
  refine for_it walk_keysT (fun (i : Nat) σ H' => ∃ (ms : List (List Key × V)) (o4 o5 o6 : Option V), σ = [some (.ref d), some (.ref l), some (.int (k : Int)), some (.ref D), o4, o5, o6] ∧ But D (upd H1 d (.frz od (.dT kvs))) H' ∧ H' D = some (.dT ms) ∧ Paired (EN H') ms (putOnF (al.take i) ns k))
    ⟨[], none, none, none, rfl, fun _ _ _ h => h, by rw [upd_ne nDd]; exact hD1, .nil⟩ (fun i σ H' _ ⟨_, _, _, _, _, b, _⟩ => (fin H' b).1) ?_ ?_
  · rintro i x σ H4 H4' hi ⟨ms, o4, o5, o6, rfl, b4, h4, hms⟩ ⟨e4', kk, v, p, hkv, rfl, hp⟩
    have e4 := e4'.symm
    subst e4
    obtain ⟨y, hy, hk, hv, hok⟩ := K3.Paired.get ha.ents hkv
    dsimp only at hk hv
    subst hk
    have f4 := (fin H4 b4).1
    have s4 := (fin H4 b4).2
    have hyL : valV kvs (keyOf y.1) = some v := val_at ha.nd ha.ents hkv hy
    have at4 : ∀ c o, c ≠ d → H c = some o → H4 c = some o := fun c o n q => by
      have := s4 _ _ q
      rwa [upd_ne n] at this
    have hl4 : SqL K H4 l (ns.map V.str) := by
      have nld : ∀ o, H l = some o → l ≠ d ∨ o = .dT kvs := fun o ho => by
        by_cases c : l = d
        · rw [c, hd] at ho; exact .inr (Option.some.inj ho).symm
        · exact .inl c
      rcases hl with (h | ⟨oo, h⟩) | h
      · rcases nld _ h with n | n
        · exact .inl (.inl (at4 _ _ n h))
        · cases n
      · rcases nld _ h with n | n
        · exact .inl (.inr ⟨oo, at4 _ _ n h⟩)
        · cases n
      · exact .inr h
    have hvN : AnO H4 v y.2 := hv.keep fun c xs h => at4 _ _ (fun z => by rw [z, hd] at h; cases h) h
    have lms : ms.length < sizeLine := by
      have := hms.length
      have l2 := putOn_len (ns := ns) (k := k) (al := al.take i) (acc := [])
      rw [List.length_take] at l2
      simp only [List.length_nil] at l2
      have l3 : (putOnF (al.take i) ns k).length ≤ 10000 := by unfold putOnF; omega
      exact Nat.lt_of_le_of_lt (show ms.length ≤ 10000 by omega) (by decide)
    have stp : putOnF (al.take (i + 1)) ns k = putA (putOnF (al.take i) ns k) (sig ns k y.1) y.2 := by
      unfold putOnF
      rw [List.take_add_one, hy, List.foldl_append]
      rfl
    refine ⟨p, _, rfl, SqT.of hp, rfl, _, _, rfl, ?_⟩
    walk_at "go"
    refine ⟨_, _, rfl, ?_⟩
    walk_at "go"
    refine ⟨rfl, ?_⟩
    walk_at "go"
    refine ⟨l, _, rfl, .inl hl4, rfl, flat_strs ns, ?_⟩
    show ∃ z, V.bl (inV (.str y.1.1) (ns.map V.str)) = .bl z ∧ _
    rw [inV_strs]
    have stop : ∀ (z : Str) (p0 p1 : Addr), z = shift ns k y.1.1 → H4 p0 = none → (upd H4 p0 (.tup [V.str y.1.1, V.int y.1.2])) p1 = none →
        But D (upd H1 d (.frz od (.dT kvs))) (upd (upd (upd H4 p0 (.tup [V.str y.1.1, V.int y.1.2])) p1 (.tup [V.str z, V.int y.1.2])) D (.dT (putK ms (keyOf (z, y.1.2)) v))) ∧
        Paired (EN (upd (upd (upd H4 p0 (.tup [V.str y.1.1, V.int y.1.2])) p1 (.tup [V.str z, V.int y.1.2])) D (.dT (putK ms (keyOf (z, y.1.2)) v)))) (putK ms (keyOf (z, y.1.2)) v) (putOnF (al.take (i + 1)) ns k) ∧
        (upd (upd H4 p0 (.tup [V.str y.1.1, V.int y.1.2])) p1 (.tup [V.str z, V.int y.1.2])) D = some (.dT ms) := by
      intro z p0 p1 hz hp0 hp1
      have s0 := Same.new hp0 (.tup [V.str y.1.1, V.int y.1.2])
      have s1 := Same.new hp1 (.tup [V.str z, V.int y.1.2])
      have nt5 := (Same.nt (s0.trans s1)).trans (NT.upd ((s0.trans s1) _ _ h4) (.dT (putK ms (keyOf (z, y.1.2)) v)))
      refine ⟨(b4.trans (K3.Same.but (s0.trans s1))).trans (But.upd _), ?_, (s0.trans s1) _ _ h4⟩
      rw [stp, show sig ns k y.1 = (z, y.1.2) by rw [hz]; rfl]
      exact L2.Paired.mapP (en_put hms hvN hok) fun _ _ z => z.nt nt5
    by_cases c : y.1.1 ∈ ns
    · rw [decide_eq_true c]
      refine ⟨true, rfl, ?_⟩
      walk_at "go"
      refine ⟨_, rfl, .inl ⟨rfl, _, hl4⟩, ?_⟩
      walk_at "go"
      have ij := List.idxOf_lt_length_of_mem c
      refine ⟨l, _, _, ns.idxOf y.1.1, .str y.1.1, rfl, rfl, hl4, rfl, flat_strs ns, ?_, ?_, ?_, ?_⟩
      · rw [List.getElem?_map, List.getElem?_eq_getElem ij, List.getElem_idxOf]
        rfl
      · exact beq_self_eq_true (α := Str) _
      · intro m z' hm hz'
        rw [List.getElem?_map] at hz'
        obtain ⟨z0, hz0, rfl⟩ := Option.map_eq_some_iff.mp hz'
        refine beq_false_of_ne (α := Str) fun e => ?_
        have lm := (List.getElem?_eq_some_iff.mp hz0).1
        have := List.not_of_lt_findIdx (p := (· == y.1.1)) (xs := ns) (i := m) hm
        rw [(List.getElem?_eq_some_iff.mp hz0).2, e] at this
        simp at this
      walk_at "go"
      refine ⟨l, _, rfl, .inl hl4, ?_⟩
      rw [List.length_map]
      walk_at "go"
      refine w_i (by omega) ?_
      have hz : atI (ns.map V.str) (((ns.idxOf y.1.1 : Int) + (k : Int)) % (ns.length : Int)) = some (.str (shift ns k y.1.1)) := by
        have e : ((ns.idxOf y.1.1 : Int) + (k : Int)) % (ns.length : Int) = (((ns.idxOf y.1.1 + k) % ns.length : Nat) : Int) := by
          rw [Int.natCast_emod, Int.natCast_add]
        have lt : (ns.idxOf y.1.1 + k) % ns.length < ns.length := Nat.mod_lt _ (by omega)
        rw [e]
        refine atI_nat ?_
        rw [List.getElem?_map, List.getElem?_eq_getElem lt]
        unfold shift
        rw [if_pos c, List.getD_eq_getElem?_getD, List.getElem?_eq_getElem lt]
        rfl
      refine ⟨l, _, _, _, rfl, rfl, hl4, hz, ?_⟩
      walk_at "go"
      refine ⟨by show 2 ≤ sizeLine; decide, fun p0 hp0 => ?_⟩
      have s0 := Same.new hp0 (.tup [V.str y.1.1, V.int y.1.2])
      refine ⟨d, v, rfl, hyL ▸ DGet.tf (k := keyOf y.1) (.inr ⟨od, s0 _ _ f4⟩) upd_same, ?_⟩
      walk_at "go"
      refine ⟨by show 2 ≤ sizeLine; decide, fun p1 hp1 => ?_⟩
      obtain ⟨g1, g2, g3⟩ := stop _ p0 p1 rfl hp0 hp1
      refine ⟨D, _, rfl, DPut.t (k := keyOf (shift ns k y.1.1, y.1.2)) g3 upd_same lms, ?_⟩
      exact ⟨_, _, _, _, rfl, g1, upd_same, g2⟩
    · rw [decide_eq_false c]
      refine ⟨false, rfl, ?_⟩
      walk_at "go"
      refine ⟨by show 2 ≤ sizeLine; decide, fun p0 hp0 => ?_⟩
      have s0 := Same.new hp0 (.tup [V.str y.1.1, V.int y.1.2])
      refine ⟨d, v, rfl, hyL ▸ DGet.tf (k := keyOf y.1) (.inr ⟨od, s0 _ _ f4⟩) upd_same, ?_⟩
      walk_at "go"
      refine ⟨by show 2 ≤ sizeLine; decide, fun p1 hp1 => ?_⟩
      obtain ⟨g1, g2, g3⟩ := stop y.1.1 p0 p1 (by unfold shift; rw [if_neg c]) hp0 hp1
      refine ⟨D, _, rfl, DPut.t (k := keyOf (y.1.1, y.1.2)) g3 upd_same lms, ?_⟩
      exact ⟨_, _, _, _, rfl, g1, upd_same, g2⟩
  · rintro σ H4 ⟨ms, o4, o5, o6, rfl, b4, h4, hms⟩
    obtain ⟨f4, s4⟩ := fin H4 b4
    refine ⟨f4, ?_⟩
    walk_at "go"
    rw [← la2, List.take_length] at hms
    have kp : ∀ c xs, H4 c = some (.tup xs) → (upd H4 d (.dT kvs)) c = some (.tup xs) := fun c xs q => by
      rw [upd_ne (fun z => by rw [z, f4] at q; cases q)]
      exact q
    exact q D _ ms s4 hD (by rw [upd_ne nDd]; exact h4) ⟨L2.Paired.mapP hms fun _ _ z => z.keep kp, putOn_nd⟩
end
end K3
end W4_part
section W5_part
set_option Elab.async false
set_option linter.all false
set_option maxRecDepth 100000
set_option maxHeartbeats 1000000
set_option pp.deepTerms true
open PySem PySem.Spec PyProof.Rows L2
/-- go on as far as nothing is open -/
local macro_rules | `(tactic| walk_at "go") => `(tactic| repeat (first
  | with_reducible refine w_seq ?_ | with_reducible refine w_next ?_ | with_reducible refine w_set ?_ | with_reducible refine w_drop ?_ | with_reducible refine w_ret ?_ | with_reducible refine w_retN ?_
  | with_reducible refine w_if ?_ | ((with_reducible refine' w_var ?hv ?_); (case hv => exact rfl)) | with_reducible refine w_c ?_ | with_reducible refine w_nil ?_ | with_reducible refine w_cons ?_ | with_reducible refine w_op ?_ | with_reducible refine w_un ?_
  | with_reducible refine w_test ?_ | with_reducible refine w_tB ?_ | with_reducible refine w_not ?_ | with_reducible refine w_and ?_ | with_reducible refine w_or ?_ | with_reducible refine w_bl ?_
  | with_reducible refine w_andV ?_ | with_reducible refine w_orV ?_ | with_reducible refine w_notV ?_ | with_reducible refine w_ifE ?_ | with_reducible refine w_chain ?_ | with_reducible refine w_i0 ?_
  | with_reducible refine w_call ?_ | with_reducible refine w_callS ?_ | with_reducible refine w_cB ?_ | with_reducible refine w_tup ?_ | with_reducible refine w_lst ?_ | with_reducible refine w_fldV ?_
  | with_reducible refine w_neF ?_ | with_reducible refine w_neT ?_ | with_reducible refine w_notN ?_ | with_reducible refine w_isN ?_ | with_reducible refine w_gname ?_ | with_reducible refine w_gsub ?_ | with_reducible refine w_asg ?_ | with_reducible refine w_sl ?_ | with_reducible refine w_noP ?_ | with_reducible refine w_int1 ?_ | with_reducible refine w_part ?_ | with_reducible refine w_meth ?_ | with_reducible refine w_din ?_ | with_reducible refine w_dnotin ?_ | with_reducible refine w_dgt ?_ | with_reducible refine w_dget1 ?_ | with_reducible refine w_dget2 ?_ | with_reducible refine w_dput ?_ | with_reducible refine w_yes ?_ | with_reducible refine w_nT ?_ | with_reducible refine w_nF ?_ | with_reducible refine w_iteT ?_ | with_reducible refine w_iteF ?_))
namespace K3
/-! ### names that go round -/
def rotF (ns : List Str) : List Str := ns.drop 1 ++ ns.take 1
def callsOf (ns : List Str) : List (Str × Str) := ns.zip (rotF ns)
theorem idx_at {ns : List Str} (nd : ns.Nodup) {i : Nat} {n : Str} (h : ns[i]? = some n) : ns.idxOf n = i := by
  obtain ⟨li, e⟩ := List.getElem?_eq_some_iff.mp h
  have m : n ∈ ns := List.mem_of_getElem? h
  have lj := List.idxOf_lt_length_of_mem m
  have g : ns[ns.idxOf n] = ns[i] := by rw [List.getElem_idxOf, e]
  exact (List.getElem_inj nd).mp g
theorem shift_at {ns : List Str} (nd : ns.Nodup) {i : Nat} {n : Str} (h : ns[i]? = some n) (k : Nat) : ∃ m, ns[(i + k) % ns.length]? = some m ∧ shift ns k n = m := by
  have li := (List.getElem?_eq_some_iff.mp h).1
  have lt : (i + k) % ns.length < ns.length := Nat.mod_lt _ (by omega)
  refine ⟨ns[(i + k) % ns.length], List.getElem?_eq_getElem lt, ?_⟩
  unfold shift
  rw [if_pos (List.mem_of_getElem? h), idx_at nd h, List.getD_eq_getElem?_getD, List.getElem?_eq_getElem lt]
  rfl
theorem shift_mem {ns : List Str} {k : Nat} {n : Str} (h : n ∈ ns) : shift ns k n ∈ ns := by
  unfold shift
  rw [if_pos h]
  have : 0 < ns.length := List.length_pos_of_mem h
  have lt : (ns.idxOf n + k) % ns.length < ns.length := Nat.mod_lt _ this
  rw [List.getD_eq_getElem?_getD, List.getElem?_eq_getElem lt]
  exact List.getElem_mem lt
theorem shift_not {ns : List Str} {k : Nat} {n : Str} (h : n ∉ ns) : shift ns k n = n := by unfold shift; rw [if_neg h]
theorem mod_inj {i j k m : Nat} (hi : i < m) (hj : j < m) (h : (i + k) % m = (j + k) % m) : i = j := by
  have a : i % m = i := Nat.mod_eq_of_lt hi
  have b : j % m = j := Nat.mod_eq_of_lt hj
  have c : ((i : Int) + k - (j + k)) % m = 0 := by
    have := congrArg (Nat.cast : Nat → Int) h
    rw [Int.natCast_emod, Int.natCast_emod] at this
    rw [Int.natCast_add, Int.natCast_add] at this
    exact Int.emod_eq_emod_iff_emod_sub_eq_zero.mp this
  have d : (m : Int) ∣ ((i : Int) - j) := by
    have e : (i : Int) + k - (j + k) = (i : Int) - j := by omega
    rw [e] at c
    exact Int.dvd_of_emod_eq_zero c
  obtain ⟨q, hq⟩ := d
  by_cases q0 : q = 0
  · rw [q0] at hq; omega
  · rcases Int.lt_or_gt_of_ne q0 with z | z
    · have : (m : Int) * q ≤ (m : Int) * (-1) := Int.mul_le_mul_of_nonneg_left (by omega) (by omega)
      omega
    · have : (m : Int) * 1 ≤ (m : Int) * q := Int.mul_le_mul_of_nonneg_left (by omega) (by omega)
      omega
theorem get_of {ns : List Str} {n : Str} (h : n ∈ ns) : ∃ i, i < ns.length ∧ ns[i]? = some n := by
  obtain ⟨i, hi⟩ := List.mem_iff_getElem?.mp h
  exact ⟨i, (List.getElem?_eq_some_iff.mp hi).1, hi⟩
theorem shift_inj {ns : List Str} (nd : ns.Nodup) {k : Nat} {a b : Str} (h : shift ns k a = shift ns k b) : a = b := by
  by_cases ha : a ∈ ns
  · by_cases hb : b ∈ ns
    · obtain ⟨i, li, hi⟩ := get_of ha
      obtain ⟨j, lj, hj⟩ := get_of hb
      obtain ⟨x, hx, ex⟩ := shift_at nd hi k
      obtain ⟨y, hy, ey⟩ := shift_at nd hj k
      rw [ex, ey] at h
      subst h
      have : (i + k) % ns.length = (j + k) % ns.length := by rw [← idx_at nd hx, ← idx_at nd hy]
      have := mod_inj li lj this
      subst this
      rw [hi] at hj
      exact Option.some.inj hj
    · rw [shift_not hb] at h
      exact absurd (h ▸ shift_mem ha) hb
  · by_cases hb : b ∈ ns
    · rw [shift_not ha] at h
      exact absurd (h ▸ shift_mem hb) ha
    · rw [shift_not ha, shift_not hb] at h
      exact h
theorem shift_add {ns : List Str} (nd : ns.Nodup) {j k : Nat} {n : Str} : shift ns j (shift ns k n) = shift ns (k + j) n := by
  by_cases h : n ∈ ns
  · obtain ⟨i, li, hi⟩ := get_of h
    obtain ⟨x, hx, ex⟩ := shift_at nd hi k
    obtain ⟨y, hy, ey⟩ := shift_at nd hx j
    obtain ⟨z, hz, ez⟩ := shift_at nd hi (k + j)
    rw [ex, ey, ez]
    have : ((i + k) % ns.length + j) % ns.length = (i + (k + j)) % ns.length := by rw [Nat.mod_add_mod, Nat.add_assoc]
    rw [this, hz] at hy
    exact (Option.some.inj hy).symm
  · rw [shift_not h, shift_not h, shift_not h]
theorem shift_zero {ns : List Str} (nd : ns.Nodup) {n : Str} : shift ns 0 n = n := by
  by_cases h : n ∈ ns
  · obtain ⟨i, li, hi⟩ := get_of h
    obtain ⟨x, hx, ex⟩ := shift_at nd hi 0
    rw [Nat.add_zero, Nat.mod_eq_of_lt li, hi] at hx
    rw [ex]
    exact (Option.some.inj hx).symm
  · exact shift_not h
theorem shift_all {ns : List Str} (nd : ns.Nodup) {n : Str} : shift ns ns.length n = n := by
  by_cases h : n ∈ ns
  · obtain ⟨i, li, hi⟩ := get_of h
    obtain ⟨x, hx, ex⟩ := shift_at nd hi ns.length
    rw [Nat.add_mod_right, Nat.mod_eq_of_lt li, hi] at hx
    rw [ex]
    exact (Option.some.inj hx).symm
  · exact shift_not h
theorem sig_inj {ns : List Str} (nd : ns.Nodup) {k : Nat} {a b : Spot} (h : sig ns k a = sig ns k b) : a = b := by
  have h1 := congrArg Prod.fst h
  have h2 := congrArg Prod.snd h
  exact Prod.ext (shift_inj nd h1) h2
def moved (f : Spot → Spot) (al : Ans) : Ans := al.map fun y => (f y.1, y.2)
theorem fold_put {f : Spot → Spot} : ∀ {al acc : Ans}, ((acc ++ moved f al).map (·.1)).Nodup → al.foldl (fun acc y => putA acc (f y.1) y.2) acc = acc ++ moved f al
  | [], acc, _ => by simp [moved]
  | y :: al, acc, h => by
    have e : acc ++ moved f (y :: al) = (acc ++ [(f y.1, y.2)]) ++ moved f al := by simp [moved]
    have n : f y.1 ∉ acc.map (·.1) := by
      intro z
      rw [e] at h
      rw [List.map_append, List.map_append, List.append_assoc] at h
      have := (List.nodup_append.mp h).2.2 _ z (f y.1) (by simp)
      exact this rfl
    have p : putA acc (f y.1) y.2 = acc ++ [(f y.1, y.2)] := by
      unfold putA
      have : lookA acc (f y.1) = none := by
        unfold lookA
        rw [Option.map_eq_none_iff, List.find?_eq_none]
        exact fun w hw z => n (of_decide_eq_true z ▸ List.mem_map_of_mem hw)
      rw [this]
      rfl
    rw [List.foldl_cons, p, e]
    exact fold_put (by rw [← e]; exact h)
theorem moved_nd {f : Spot → Spot} (inj : ∀ a b, f a = f b → a = b) {al : Ans} (h : (al.map (·.1)).Nodup) : ((moved f al).map (·.1)).Nodup := by
  have e : (moved f al).map (·.1) = (al.map (·.1)).map f := by unfold moved; rw [List.map_map, List.map_map]; rfl
  rw [e]
  exact List.Pairwise.map _ (fun a b n z => n (inj a b z)) h
theorem putOn_is {ns : List Str} (nd : ns.Nodup) {k : Nat} {al : Ans} (h : (al.map (·.1)).Nodup) : putOnF al ns k = moved (sig ns k) al := by
  unfold putOnF
  rw [fold_put (f := sig ns k) (by rw [List.nil_append]; exact moved_nd (fun a b => sig_inj nd) h), List.nil_append]
/-! ### the calls -/
theorem find_rev {cs : List (Str × Str)} (nd : (cs.map (·.1)).Nodup) {c : Str × Str} (h : c ∈ cs) : newOf cs c.1 = some c.2 := by
  unfold newOf
  have : cs.reverse.find? (fun d => decide (d.1 = c.1)) = some c := by
    have hm : c ∈ cs.reverse := List.mem_reverse.mpr h
    cases hf : cs.reverse.find? (fun d => decide (d.1 = c.1)) with
    | none => exact absurd (decide_eq_true rfl) (List.find?_eq_none.mp hf c hm)
    | some d =>
      have h1 : d.1 = c.1 := of_decide_eq_true (List.find?_some (p := fun d : Str × Str => decide (d.1 = c.1)) hf)
      have h2 := List.mem_reverse.mp (List.mem_of_find?_eq_some hf)
      obtain ⟨i, hi⟩ := List.mem_iff_getElem?.mp h
      obtain ⟨j, hj⟩ := List.mem_iff_getElem?.mp h2
      obtain ⟨li, ei⟩ := List.getElem?_eq_some_iff.mp hi
      obtain ⟨lj, ej⟩ := List.getElem?_eq_some_iff.mp hj
      have : (cs.map (·.1))[j]'(by rw [List.length_map]; exact lj) = (cs.map (·.1))[i]'(by rw [List.length_map]; exact li) := by
        rw [List.getElem_map, List.getElem_map, ei, ej]
        exact h1
      have := (List.getElem_inj nd).mp this
      subst this
      rw [← ej, ← ei]
  rw [this]
  rfl
theorem newOf_none {cs : List (Str × Str)} {z : Str} (h : z ∉ cs.map (·.1)) : newOf cs z = none := by
  unfold newOf
  rw [Option.map_eq_none_iff, List.find?_eq_none]
  exact fun c hc e => h (of_decide_eq_true e ▸ List.mem_map_of_mem (List.mem_reverse.mp hc))
theorem rot_len {ns : List Str} (h : 1 ≤ ns.length) : (rotF ns).length = ns.length := by
  unfold rotF
  rw [List.length_append, List.length_drop, List.length_take]
  omega
theorem rot_at {ns : List Str} {i : Nat} (h : i < ns.length) : (rotF ns)[i]? = ns[(i + 1) % ns.length]? := by
  unfold rotF
  rw [List.getElem?_append]
  by_cases c : i < ns.length - 1
  · rw [if_pos (by rw [List.length_drop]; exact c), List.getElem?_drop, Nat.mod_eq_of_lt (by omega), Nat.add_comm]
  · rw [if_neg (by rw [List.length_drop]; exact c), List.length_drop, List.getElem?_take]
    have e : i = ns.length - 1 := by omega
    rw [if_pos (by omega), e, show ns.length - 1 + 1 = ns.length by omega, Nat.mod_self, Nat.sub_self]
theorem calls_at {ns : List Str} (nd : ns.Nodup) {i : Nat} {c : Str × Str} (h : (callsOf ns)[i]? = some c) : ns[i]? = some c.1 ∧ c.2 = shift ns 1 c.1 := by
  unfold callsOf at h
  rw [List.getElem?_zip_eq_some] at h
  obtain ⟨h1, h2⟩ := h
  have li := (List.getElem?_eq_some_iff.mp h1).1
  rw [rot_at li] at h2
  obtain ⟨m, hm, em⟩ := shift_at nd h1 1
  rw [hm] at h2
  exact ⟨h1, by rw [em]; exact (Option.some.inj h2).symm⟩
theorem calls_len {ns : List Str} (h : 1 ≤ ns.length) : (callsOf ns).length = ns.length := by
  unfold callsOf
  rw [List.length_zip, rot_len h, Nat.min_self]
theorem calls_fst {ns : List Str} (h : 1 ≤ ns.length) : (callsOf ns).map (·.1) = ns := by
  unfold callsOf
  exact List.map_fst_zip (by rw [rot_len h]; exact Nat.le_refl _)
theorem calls_snd {ns : List Str} (h : 1 ≤ ns.length) : (callsOf ns).map (·.2) = rotF ns := by
  unfold callsOf
  exact List.map_snd_zip (by rw [rot_len h]; exact Nat.le_refl _)
theorem rot_nd {ns : List Str} (nd : ns.Nodup) : (rotF ns).Nodup := by
  unfold rotF
  have : (ns.take 1 ++ ns.drop 1).Nodup := by rw [List.take_append_drop]; exact nd
  exact (List.perm_append_comm.nodup_iff).mp this
theorem rot_mem {ns : List Str} {n : Str} : n ∈ rotF ns ↔ n ∈ ns := by
  unfold rotF
  have : n ∈ ns ↔ n ∈ ns.take 1 ++ ns.drop 1 := by rw [List.take_append_drop]
  rw [this, List.mem_append, List.mem_append, Or.comm]
theorem calls_new {ns : List Str} (nd : ns.Nodup) (l1 : 1 ≤ ns.length) {n : Str} (h : n ∈ ns) : newOf (callsOf ns) n = some (shift ns 1 n) := by
  have hn : n ∈ (callsOf ns).map (·.1) := by rw [calls_fst l1]; exact h
  obtain ⟨c, hc, e⟩ := List.mem_map.mp hn
  obtain ⟨i, hi⟩ := List.mem_iff_getElem?.mp hc
  have := (calls_at nd hi).2
  rw [← e, find_rev (by rw [calls_fst l1]; exact nd) hc, this]
/-! ### led -/
theorem good_move {ns os : List Str} {b : Bool} {oft : Str} (no : oft ∉ ns) {y : Spot × An} (k : Nat) (h : GoodE ns os b oft y) : GoodE ns os b oft (sig ns k y.1, y.2) := by
  rcases h with ⟨h1, h2, h3, h4⟩ | ⟨h1, h2⟩
  · exact .inl ⟨shift_mem h1, h2, h3, h4⟩
  · refine .inr ⟨h1, ?_⟩
    rw [h2]
    show ((shift ns k oft, (0 : Int)), An.int 2) = _
    rw [shift_not no]
theorem good_bel {ns os : List Str} {b : Bool} {oft : Str} (ok : NsOk ns os b oft) {y : Spot × An} (h : GoodE ns os b oft y) : belB (rsF ns os b oft) y.1.1 y.1.2 y.2 = true := by
  unfold belB
  rcases h with ⟨h1, h2, h3, o, ho, h4⟩ | ⟨h1, h2⟩
  · rw [q_one ok h1, rd_rs, decide_eq_true h1, h4]
    show (((b && true) == decide (y.1.2 ≠ 0)) && (oneR os y.1.1).ans (.str o)) = true
    have e : (oneR os y.1.1).ans (.str o) = true := decide_eq_true ho
    rw [e, Bool.and_true]
    cases b with
    | true =>
      have := h2 rfl
      rw [decide_eq_true (show y.1.2 ≠ 0 by omega)]
      rfl
    | false =>
      rw [h3 rfl]
      rfl
  · subst h1
    rw [h2]
    show (match formQ (rsF ns os true oft) oft with | none => false | some r => (inRd (rsF ns os true oft) oft == decide ((0 : Int) ≠ 0)) && r.ans (.int 2)) = true
    rw [q_oft, rd_rs, decide_eq_false ok.no]
    rfl
theorem moved_filter {ns os : List Str} {b : Bool} {oft : Str} (ok : NsOk ns os b oft) {k : Nat} {al : Ans} (g : ∀ y ∈ al, GoodE ns os b oft y) : (moved (sig ns k) al).filter (fun y => belB (rsF ns os b oft) y.1.1 y.1.2 y.2) = moved (sig ns k) al := by
  refine List.filter_eq_self.mpr fun y hy => ?_
  unfold moved at hy
  obtain ⟨z, hz, rfl⟩ := List.mem_map.mp hy
  exact good_bel ok (good_move ok.no k (g z hz))
theorem fold_congr {f g : Ans → Spot × An → Ans} : ∀ {al acc : Ans}, (∀ y ∈ al, ∀ acc, f acc y = g acc y) → al.foldl f acc = al.foldl g acc
  | [], _, _ => rfl
  | y :: al, acc, h => by
    rw [List.foldl_cons, List.foldl_cons, h y (List.mem_cons_self ..)]
    exact fold_congr fun z hz => h z (List.mem_cons_of_mem _ hz)
/-- led by one edition that calls all of them on -/
theorem led_on {ns os : List Str} {b : Bool} {oft : Str} (ok : NsOk ns os b oft) {num : Int} {al : Ans} (nd : (al.map (·.1)).Nodup) (g : ∀ y ∈ al, GoodE ns os b oft y) : ledF al ⟨num, rsF ns os b oft, callsOf ns⟩ = moved (sig ns 1) al := by
  have l1 : 1 ≤ ns.length := by have := ok.l1; omega
  have e : calledF (callsOf ns) al = moved (sig ns 1) al := by
    unfold calledF
    rw [fold_congr (g := fun acc y => putA acc (sig ns 1 y.1) y.2), fold_put (by rw [List.nil_append]; exact moved_nd (fun a b => sig_inj ok.nd) nd), List.nil_append]
    intro y hy acc
    unfold stepA
    rcases g y hy with ⟨h1, _⟩ | ⟨h1, h2⟩
    · rw [calls_new ok.nd l1 h1]
      rfl
    · rw [h2]
      dsimp only
      rw [newOf_none (by rw [calls_fst l1]; exact ok.no), calls_snd l1]
      dsimp only
      rw [if_neg (fun z => ok.no (rot_mem.mp z))]
      show putA acc (oft, 0) _ = putA acc (shift ns 1 oft, 0) _
      rw [shift_not ok.no]
  unfold ledF
  rw [e]
  exact moved_filter ok g
theorem moved_moved {ns : List Str} (nd : ns.Nodup) {j k : Nat} {al : Ans} : moved (sig ns j) (moved (sig ns k) al) = moved (sig ns (k + j)) al := by
  unfold moved
  rw [List.map_map]
  refine List.map_congr_left fun y _ => ?_
  show ((shift ns j (shift ns k y.1.1), y.1.2), y.2) = ((shift ns (k + j) y.1.1, y.1.2), y.2)
  rw [shift_add nd]
theorem good_moved {ns os : List Str} {b : Bool} {oft : Str} (no : oft ∉ ns) {k : Nat} {al : Ans} (g : ∀ y ∈ al, GoodE ns os b oft y) : ∀ y ∈ moved (sig ns k) al, GoodE ns os b oft y := fun y hy => by
  obtain ⟨z, hz, rfl⟩ := List.mem_map.mp hy
  exact good_move no k (g z hz)
theorem moved_all {ns : List Str} {f : Spot → Spot} (h : ∀ s, f s = s) {al : Ans} : moved f al = al := by
  unfold moved
  have : (fun y : Spot × An => (f y.1, y.2)) = id := funext fun y => by rw [h]; rfl
  rw [this, List.map_id]
theorem led_fold {ns os : List Str} {b : Bool} {oft : Str} (ok : NsOk ns os b oft) {al : Ans} (nd : (al.map (·.1)).Nodup) (g : ∀ y ∈ al, GoodE ns os b oft y) : ∀ {es : List Ed}, (∀ e ∈ es, e.rs = rsF ns os b oft ∧ e.cs = callsOf ns) → es.foldl ledF al = moved (sig ns es.length) al := by
  intro es
  have go : ∀ (es : List Ed) (k : Nat), (∀ e ∈ es, e.rs = rsF ns os b oft ∧ e.cs = callsOf ns) → es.foldl ledF (moved (sig ns k) al) = moved (sig ns (k + es.length)) al := by
    intro es
    induction es with
    | nil => intro k _; rfl
    | cons e es ih =>
      intro k h
      obtain ⟨h1, h2⟩ := h e (List.mem_cons_self ..)
      have ee : e = ⟨e.num, rsF ns os b oft, callsOf ns⟩ := by
        obtain ⟨n, r, c⟩ := e
        dsimp only at h1 h2
        rw [h1, h2]
      rw [List.foldl_cons, ee, led_on ok (moved_nd (fun a b => sig_inj ok.nd) nd) (good_moved ok.no g), moved_moved ok.nd, ih (k + 1) fun e he => h e (List.mem_cons_of_mem _ he)]
      rw [List.length_cons, Nat.add_assoc, Nat.add_comm 1]
  intro h
  have z := go es 0 h
  rw [moved_all (ns := ns) (fun s => by unfold sig; rw [shift_zero ok.nd])] at z
  rw [z, Nat.zero_add]
/-! ### one pair left out -/
def lame (ns : List Str) (g : Nat) : List (Str × Str) := (callsOf ns).take g ++ (callsOf ns).drop (g + 1)
theorem lame_sub {ns : List Str} {g : Nat} : (lame ns g).Sublist (callsOf ns) := by
  unfold lame
  rw [← List.eraseIdx_eq_take_drop_succ]
  exact List.eraseIdx_sublist ..
theorem lame_mem {ns : List Str} (nd : ns.Nodup) (l1 : 1 ≤ ns.length) {g : Nat} {n : Str} (hg : ns[g]? = some n) {m : Str} : m ∈ (lame ns g).map (·.1) ↔ m ∈ ns ∧ m ≠ n := by
  have e : (lame ns g).map (·.1) = ns.take g ++ ns.drop (g + 1) := by
    unfold lame
    rw [List.map_append, List.map_take, List.map_drop, calls_fst l1]
  have lg := (List.getElem?_eq_some_iff.mp hg).1
  have sp : ns = ns.take g ++ n :: ns.drop (g + 1) := by
    have h1 : ns.drop g = n :: ns.drop (g + 1) := by
      rw [List.drop_eq_getElem_cons lg]
      congr 1
      exact (List.getElem?_eq_some_iff.mp hg).2
    rw [← h1, List.take_append_drop]
  have nd2 : (ns.take g ++ n :: ns.drop (g + 1)).Nodup := sp ▸ nd
  obtain ⟨_, n2, n3⟩ := List.nodup_append.mp nd2
  rw [List.nodup_cons] at n2
  have e2 : m ∈ ns ↔ m ∈ ns.take g ∨ m = n ∨ m ∈ ns.drop (g + 1) := by
    have : m ∈ ns ↔ m ∈ ns.take g ++ n :: ns.drop (g + 1) := by rw [← sp]
    rw [this, List.mem_append, List.mem_cons]
  rw [e, e2, List.mem_append]
  constructor
  · rintro (h | h)
    · exact ⟨.inl h, fun z => n3 m h n (List.mem_cons_self ..) z⟩
    · exact ⟨.inr (.inr h), fun z => n2.1 (z ▸ h)⟩
  · rintro ⟨h | h | h, k⟩
    · exact .inl h
    · exact absurd h k
    · exact .inr h
theorem lame_new {ns : List Str} (nd : ns.Nodup) (l1 : 1 ≤ ns.length) {g : Nat} {n m : Str} (hg : ns[g]? = some n) (hm : m ∈ ns) (ne : m ≠ n) : newOf (lame ns g) m = some (shift ns 1 m) := by
  have h := (lame_mem nd l1 hg).mpr ⟨hm, ne⟩
  obtain ⟨c, hc, e⟩ := List.mem_map.mp h
  have hc2 := lame_sub.subset hc
  obtain ⟨i, hi⟩ := List.mem_iff_getElem?.mp hc2
  have q := (calls_at nd hi).2
  have nd1 : ((lame ns g).map (·.1)).Nodup := (lame_sub.map _).nodup (by rw [calls_fst l1]; exact nd)
  rw [← e, find_rev nd1 hc, q]
/-- the one that lost its pair is called by the pair ahead of it -/
theorem lame_given {ns : List Str} (nd : ns.Nodup) (l2 : 2 ≤ ns.length) {g : Nat} {n : Str} (hg : ns[g]? = some n) : n ∈ (lame ns g).map (·.2) := by
  have lg := (List.getElem?_eq_some_iff.mp hg).1
  have l1 : 1 ≤ ns.length := by omega
  -- the one ahead
  let j := (g + (ns.length - 1)) % ns.length
  have lj : j < ns.length := Nat.mod_lt _ (by omega)
  have hj : ns[j]? = some ns[j] := List.getElem?_eq_getElem lj
  have step : (j + 1) % ns.length = g := by
    show ((g + (ns.length - 1)) % ns.length + 1) % ns.length = g
    rw [Nat.mod_add_mod, show g + (ns.length - 1) + 1 = g + ns.length by omega, Nat.add_mod_right, Nat.mod_eq_of_lt lg]
  have nj : j ≠ g := by
    intro z
    rw [z] at step
    by_cases c : g + 1 < ns.length
    · rw [Nat.mod_eq_of_lt c] at step; omega
    · have : g + 1 = ns.length := by omega
      rw [this, Nat.mod_self] at step
      omega
  have ne : ns[j] ≠ n := by
    intro z
    have hj' : ns[j]? = some n := by rw [hj, z]
    exact nj (by rw [← idx_at nd hj', ← idx_at nd hg])
  obtain ⟨x, hx, ex⟩ := shift_at nd hj 1
  rw [step, hg] at hx
  have e : shift ns 1 ns[j] = n := by rw [ex]; exact (Option.some.inj hx).symm
  have h := (lame_mem nd l1 hg).mpr ⟨List.getElem_mem lj, ne⟩
  obtain ⟨c, hc, ec⟩ := List.mem_map.mp h
  have hc2 := lame_sub.subset hc
  obtain ⟨i, hi⟩ := List.mem_iff_getElem?.mp hc2
  have q := (calls_at nd hi).2
  refine List.mem_map.mpr ⟨c, hc, ?_⟩
  rw [q, ec, e]
theorem fold_filter {f : Ans → Spot × An → Ans} {p : Spot × An → Bool} : ∀ {al acc : Ans}, (∀ y ∈ al, p y = false → ∀ acc, f acc y = acc) → al.foldl f acc = (al.filter p).foldl f acc
  | [], _, _ => rfl
  | y :: al, acc, h => by
    rw [List.foldl_cons, List.filter_cons]
    cases hp : p y with
    | false =>
      rw [h y (List.mem_cons_self ..) hp]
      exact fold_filter fun z hz => h z (List.mem_cons_of_mem _ hz)
    | true =>
      rw [if_pos rfl, List.foldl_cons]
      exact fold_filter fun z hz => h z (List.mem_cons_of_mem _ hz)
def restF (al : Ans) (n : Str) : Ans := al.filter fun y => decide (y.1.1 ≠ n)
theorem led_lame {ns os : List Str} {b : Bool} {oft : Str} (ok : NsOk ns os b oft) {num : Int} {g : Nat} {n : Str} (hg : ns[g]? = some n) {al : Ans} (nd : (al.map (·.1)).Nodup) (gd : ∀ y ∈ al, GoodE ns os b oft y) :
    ledF al ⟨num, rsF ns os b oft, lame ns g⟩ = moved (sig ns 1) (restF al n) := by
  have l2 := ok.l1
  have l1 : 1 ≤ ns.length := by omega
  have hn : n ∈ ns := List.mem_of_getElem? hg
  have ndr : ((restF al n).map (·.1)).Nodup := filt_nd nd
  have e : calledF (lame ns g) al = moved (sig ns 1) (restF al n) := by
    unfold calledF
    rw [fold_filter (p := fun y => decide (y.1.1 ≠ n))]
    · show (restF al n).foldl _ _ = _
      rw [fold_congr (g := fun acc y => putA acc (sig ns 1 y.1) y.2), fold_put (by rw [List.nil_append]; exact moved_nd (fun a b => sig_inj ok.nd) ndr), List.nil_append]
      intro y hy acc
      obtain ⟨h0, hne⟩ := List.mem_filter.mp hy
      have hne := of_decide_eq_true hne
      unfold stepA
      rcases gd y h0 with ⟨h1, _⟩ | ⟨h1, h2⟩
      · rw [lame_new ok.nd l1 hg h1 hne]
        rfl
      · rw [h2]
        dsimp only
        rw [newOf_none (fun z => ok.no ((lame_mem ok.nd l1 hg).mp z).1)]
        dsimp only
        rw [if_neg (fun z => ok.no (rot_mem.mp (by
          obtain ⟨c, hc, ec⟩ := List.mem_map.mp z
          rw [← ec, ← calls_snd l1]
          exact List.mem_map_of_mem (lame_sub.subset hc))))]
        show putA acc (oft, 0) _ = putA acc (shift ns 1 oft, 0) _
        rw [shift_not ok.no]
    · intro y hy hp acc
      have ey : y.1.1 = n := Classical.byContradiction fun z => by rw [decide_eq_true z] at hp; cases hp
      unfold stepA
      rw [ey, newOf_none (fun z => ((lame_mem ok.nd l1 hg).mp z).2 rfl)]
      dsimp only
      rw [if_pos (lame_given ok.nd l2 hg)]
  unfold ledF
  rw [e]
  exact moved_filter ok fun y hy => gd y (List.mem_filter.mp hy).1
/-! ### the editions stand -/
theorem pairF_ok : ∀ {cs : List (Str × Str)}, (∀ c ∈ cs, isName c.1 = true ∧ isName c.2 = true) → pairF cs = none
  | [], _ => rfl
  | c :: cs, h => by
    obtain ⟨h1, h2⟩ := h c (List.mem_cons_self ..)
    show thenF (nameF c.1) (thenF (nameF c.2) (pairF cs)) = none
    rw [nameF_ok h1, nameF_ok h2, pairF_ok fun x hx => h x (List.mem_cons_of_mem _ hx)]
    rfl
theorem questsF_ok {rs : List Rw} : ∀ {cs : List (Str × Str)}, (∀ c ∈ cs, (formQ rs c.2).isSome = true) → questsF rs cs = none
  | [], _ => rfl
  | c :: cs, h => by
    show (if (formQ rs c.2).isSome = true then questsF rs cs else _) = none
    rw [h c (List.mem_cons_self ..)]
    exact questsF_ok fun x hx => h x (List.mem_cons_of_mem _ hx)
theorem ed_ok {ns os : List Str} {b : Bool} {oft : Str} (ok : NsOk ns os b oft) {num : Int} (hn : 2 ≤ num) {cs : List (Str × Str)} (sub : cs.Sublist (callsOf ns)) : edF ⟨num, rsF ns os b oft, cs⟩ = none := by
  have l1 : 1 ≤ ns.length := by have := ok.l1; omega
  have mem : ∀ c ∈ cs, c.1 ∈ ns ∧ c.2 ∈ ns := fun c hc => by
    have hc2 := sub.subset hc
    refine ⟨?_, rot_mem.mp ?_⟩
    · have := List.mem_map_of_mem (f := Prod.fst) hc2
      rwa [calls_fst l1] at this
    · have := List.mem_map_of_mem (f := Prod.snd) hc2
      rwa [calls_snd l1] at this
  have c1 : cntF num cs = none := by
    unfold cntF
    rw [if_neg (by omega), if_neg (fun z => by omega)]
  have c2 : callsF (rsF ns os b oft) cs = none := by
    unfold callsF
    rw [pairF_ok fun c hc => ⟨ok.nm _ (mem c hc).1, ok.nm _ (mem c hc).2⟩, dup_nd ((sub.map _).nodup (by rw [calls_fst l1]; exact ok.nd)), dup_nd ((sub.map _).nodup (by rw [calls_snd l1]; exact rot_nd ok.nd)),
      questsF_ok fun c hc => by rw [q_one ok (mem c hc).2]; rfl]
    rfl
  show thenF (cntF num cs) (callsF (rsF ns os b oft) cs) = none
  rw [c1, c2]
  rfl
/-! ### dicts of answers compared -/
def dataA (al : Ans) : List (List Key × PyData) := al.map fun y => (keyOf y.1, y.2.data)
theorem en_kd {K : PySem.W.Frag} {H : Hp} : ∀ {kvs : List (List Key × V)} {al : Ans}, Paired (EN H) kvs al → KD K H kvs (dataA al)
  | _, _, .nil => .nil
  | _, _, .cons h t => .cons ⟨h.1, h.2.1.dp, An.shaped h.2.2⟩ (en_kd t)
theorem eqvAll_refl : ∀ {zs : List Str}, PyData.eqvAll (zs.map PyData.str) (zs.map PyData.str) = true := by
  intro zs
  rw [eqv_strs]
  exact decide_eq_true rfl
theorem an_refl (x : An) : PyData.eqv x.data x.data = true := by
  cases x with
  | str z => simp [An.data, PyData.eqv]
  | int i => simp [An.data, PyData.eqv]
  | bl b => cases b <;> rfl
  | non => rfl
  | tup zs => simp only [An.data, PyData.eqv]; exact eqvAll_refl
theorem same_refl {al : Ans} (nd : (al.map (·.1)).Nodup) : dSame (dataA al) (dataA al) = true := by
  unfold dSame
  rw [beq_self_eq_true, Bool.true_and, List.all_eq_true]
  intro x hx
  have nd2 : ((dataA al).map (·.1)).Nodup := by
    have e : (dataA al).map (·.1) = (al.map (·.1)).map keyOf := by unfold dataA; rw [List.map_map, List.map_map]; rfl
    rw [e]
    exact List.Pairwise.map _ (fun a b n z => n (keyOf_inj z)) nd
  rw [lookD_mem nd2 hx]
  obtain ⟨y, _, rfl⟩ := List.mem_map.mp hx
  exact an_refl y.2
end K3
end W5_part
section W6_part
set_option Elab.async false
set_option linter.all false
set_option maxRecDepth 100000
set_option maxHeartbeats 1000000
set_option pp.deepTerms true
open PySem PySem.Spec PyProof.Rows L2
/-- go on as far as nothing is open -/
local macro_rules | `(tactic| walk_at "go") => `(tactic| repeat (first
  | with_reducible refine w_seq ?_ | with_reducible refine w_next ?_ | with_reducible refine w_set ?_ | with_reducible refine w_drop ?_ | with_reducible refine w_ret ?_ | with_reducible refine w_retN ?_
  | with_reducible refine w_if ?_ | ((with_reducible refine' w_var ?hv ?_); (case hv => exact rfl)) | with_reducible refine w_c ?_ | with_reducible refine w_nil ?_ | with_reducible refine w_cons ?_ | with_reducible refine w_op ?_ | with_reducible refine w_un ?_
  | with_reducible refine w_test ?_ | with_reducible refine w_tB ?_ | with_reducible refine w_not ?_ | with_reducible refine w_and ?_ | with_reducible refine w_or ?_ | with_reducible refine w_bl ?_
  | with_reducible refine w_andV ?_ | with_reducible refine w_orV ?_ | with_reducible refine w_notV ?_ | with_reducible refine w_ifE ?_ | with_reducible refine w_chain ?_ | with_reducible refine w_i0 ?_
  | with_reducible refine w_call ?_ | with_reducible refine w_callS ?_ | with_reducible refine w_cB ?_ | with_reducible refine w_tup ?_ | with_reducible refine w_lst ?_ | with_reducible refine w_fldV ?_
  | with_reducible refine w_neF ?_ | with_reducible refine w_neT ?_ | with_reducible refine w_notN ?_ | with_reducible refine w_isN ?_ | with_reducible refine w_gname ?_ | with_reducible refine w_gsub ?_ | with_reducible refine w_asg ?_ | with_reducible refine w_sl ?_ | with_reducible refine w_noP ?_ | with_reducible refine w_int1 ?_ | with_reducible refine w_part ?_ | with_reducible refine w_meth ?_ | with_reducible refine w_din ?_ | with_reducible refine w_dnotin ?_ | with_reducible refine w_dgt ?_ | with_reducible refine w_dget1 ?_ | with_reducible refine w_dget2 ?_ | with_reducible refine w_dput ?_ | with_reducible refine w_yes ?_ | with_reducible refine w_nT ?_ | with_reducible refine w_nF ?_ | with_reducible refine w_iteT ?_ | with_reducible refine w_iteF ?_))
namespace K3
def spLaw (K : PySem.W.Frag) : Sp := fun vs H Q _ => ∃ (a : Addr) (ns : List Int), vs = [.ref a] ∧ SqL K H a (ns.map V.int) ∧ ns.length ≤ 63 ∧ ∀ H', Q (.bl true) H'
theorem cut_mem {xs : List V} {lo hi : Option Int} {x : V} (h : x ∈ cutV xs lo hi) : x ∈ xs := by
  unfold cutV at h
  exact List.mem_of_mem_drop (List.mem_of_mem_take h)
theorem paired_unmap {α β γ : Type} {F : α → γ → Prop} {h : β → γ} : ∀ {xs : List α} {l : List β}, Paired F xs (l.map h) → Paired (fun x y => F x (h y)) xs l
  | [], [], _ => .nil
  | _ :: _, _ :: _, .cons a t => .cons a (paired_unmap t)
  | [], _ :: _, q => nomatch q
  | _ :: _, [], q => nomatch q
/-- the editions of the law -/
def edsOf (ms os : List Str) (b : Bool) (oft : Str) (n : Nat) : List Ed := (List.range n).map fun k : Nat => ⟨(k : Int) + 2, rsF ms os b oft, callsOf ms⟩
theorem eds_snoc {ms os : List Str} {b : Bool} {oft : Str} {n : Nat} : edsOf ms os b oft (n + 1) = edsOf ms os b oft n ++ [⟨(n : Int) + 2, rsF ms os b oft, callsOf ms⟩] := by
  unfold edsOf
  rw [List.range_succ, List.map_append]
  rfl
theorem eds_len {ms os : List Str} {b : Bool} {oft : Str} {n : Nat} : (edsOf ms os b oft n).length = n := by unfold edsOf; rw [List.length_map, List.length_range]
theorem eds_are {ms os : List Str} {b : Bool} {oft : Str} {n : Nat} {e : Ed} (h : e ∈ edsOf ms os b oft n) : e.rs = rsF ms os b oft ∧ e.cs = callsOf ms := by
  obtain ⟨k, _, rfl⟩ := List.mem_map.mp h
  exact ⟨rfl, rfl⟩
theorem paired_dropN {α β : Type} {F : α → β → Prop} : ∀ {xs : List α} {ys : List β}, Paired F xs ys → ∀ k, Paired F (xs.drop k) (ys.drop k)
  | _, _, .nil, _ => by rw [List.drop_nil, List.drop_nil]; exact .nil
  | _, _, h, 0 => h
  | _, _, .cons _ t, k + 1 => paired_dropN t k
def NLf (H H' : Hp) : Prop := ∀ b o, (∀ xs, o ≠ HO.lst xs) → H b = some o → H' b = some o
theorem BM.nl {H H' : Hp} {s : Addr} (hs : Src H s) (e : BM [s] H H') : NLf H H' := fun b o n h => e.at h fun z => by
  obtain ⟨x, y, c, hs⟩ := hs
  rw [List.mem_singleton.mp z, hs] at h
  exact n _ (Option.some.inj h).symm
theorem NLf.si {H H' : Hp} (e : NLf H H') : SI H H' := fun b o k h => e b o (fun xs z => by rw [z] at k; cases k) h
theorem FormO.nl {K : PySem.W.Frag} {H H' : Hp} (e : NLf H H') {a : Addr} {rs : List Rw} (h : FormO K H a rs) : FormO K H' a rs := by
  obtain ⟨o, dx, t, d, d2, xs, kvs, kv2, h1, h2, h3, h4, h5, h6, h7⟩ := h
  exact ⟨o, dx, t, d, d2, xs, kvs, kv2, e _ _ (fun _ z => nomatch z) h1, e.si.sqt h2, ROs.si e.si h3, e _ _ (fun _ z => nomatch z) h4, L2.Paired.mapP h5 fun _ _ z => ⟨z.1, RO.si e.si z.2⟩, e _ _ (fun _ z => nomatch z) h6, h7⟩
theorem CallsO.nl {K : PySem.W.Frag} {H H' : Hp} (e : NLf H H') {t : Addr} {cs : List (Str × Str)} (h : CallsO K H t cs) : CallsO K H' t cs := let ⟨ps, h1, h2⟩ := h.at_; ⟨ps, e.si.sqt h1, L2.Paired.mapP h2 fun _ _ z => e.si.sqt z⟩
theorem EdO.nl {K : PySem.W.Frag} {H H' : Hp} (k : NLf H H') {a : Addr} {e : Ed} (h : EdO K H a e) : EdO K H' a e := by
  obtain ⟨⟨dx, f, t, h1, h2, h3⟩, h4⟩ := h
  exact ⟨⟨dx, f, t, k _ _ (fun _ z => nomatch z) h1, h2.nl k, h3.nl k⟩, h4⟩
theorem NLf.upd {H : Hp} {d : Addr} {xs : List V} (h : H d = some (.lst xs)) (o : HO) : NLf H (L2.upd H d o) := fun b u n q => by
  rw [upd_ne (fun z => by rw [z, h] at q; exact n xs (Option.some.inj q).symm)]
  exact q
theorem PairsO.same {K : PySem.W.Frag} {H H' : Hp} (e : Same H H') {a : Addr} {cs : List (Str × Str)} (h : PairsO K H a cs) : PairsO K H' a cs := let ⟨ps, h1, h2⟩ := h; ⟨ps, h1.same e, L2.Paired.mapP h2 fun _ _ z => e.sqt z⟩
theorem mkEd {K : PySem.W.Frag} {H1 : Hp} {num : Int} {x dx f c : Addr} {cs : List (Str × Str)} {ms os : List Str} {b : Bool} {oft : Str} {PP : Hp → Prop} {E : XK} (ok : NsOk ms os b oft) (hn : 2 ≤ num) (sub : cs.Sublist (callsOf ms)) (hp : PairsO K H1 c cs) (hf : FormO K H1 f (rsF ms os b oft)) (few : cs.length ≤ 1000)
    (len : ∀ p ∈ cs, p.1.length ≤ 1000 ∧ p.2.length ≤ 1000) (hx : H1 x = none) (hdx : H1 dx = none) (q : ∀ H', Same H1 H' → EdO K H' x ⟨num, rsF ms os b oft, cs⟩ → PP H') :
    spEd K [.ref x, .int num, .ref f, .ref c] (L2.upd (L2.upd H1 dx (.own x)) x (.ins (He.ga K "Edition") dx [])) (fun v H3 => v = .non ∧ PP H3) E := by
  refine ⟨x, dx, f, c, ⟨num, rsF ms os b oft, cs⟩, H1, rfl, fun b o h => by rw [upd_ne (ne_of_none h hx), upd_ne (ne_of_none h hdx)]; exact h, hx, hp, hf, few, len, upd_same, ?_⟩
  unfold EdEnd
  rw [ed_ok ok hn sub]
  intro H' t e' hx' hc'
  exact ⟨rfl, q H' e' ⟨⟨dx, f, t, hx', hf.same e', hc'⟩, few⟩⟩
theorem same_new {s : Addr} {H H1 H2 : Hp} (h0 : H s = none) (e : Same H H1) (b : BM [s] H1 H2) : Same H H2 := fun c o h => b.at (e _ _ h) (by simpa using fun z => by rw [z, h0] at h; cases h)
theorem merge_en {H : Hp} : ∀ {more : List (List Key × V)} {al2 : Ans}, Paired (EN H) more al2 → ∀ {acc : List (List Key × V)} {al1 : Ans}, Paired (EN H) acc al1 → ((al1 ++ al2).map (·.1)).Nodup → mergeT acc more = acc ++ more
  | _, _, .nil, acc, _, _, _ => (List.append_nil acc).symm
  | _, _, .cons (a := kv) (b := y) (l₁ := more) h t, acc, al1, ha, nd => by
    have n : y.1 ∉ al1.map (·.1) := fun z => by
      rw [List.map_append] at nd
      exact (List.nodup_append.mp nd).2.2 _ z _ (by simp) rfl
    have e := en_new ha n
    show mergeT (putK acc kv.1 kv.2) more = _
    rw [h.1, put_new e]
    have q := merge_en t (acc := acc ++ [(keyOf y.1, kv.2)]) (al1 := al1 ++ [y]) (K3.Paired.app ha (.cons ⟨rfl, h.2⟩ .nil)) (by rw [List.append_assoc]; exact nd)
    rw [q, List.append_assoc]
    show acc ++ ((keyOf y.1, kv.2) :: more) = acc ++ (kv :: more)
    rw [← h.1]
theorem sqt_off {K : PySem.W.Frag} {H : Hp} {d p : Addr} {od : Obj} {kvs : List (List Key × V)} {o : HO} {xs : List V} (f : H d = some (.frz od (.dT kvs))) (h : SqT K H p xs) : SqT K (L2.upd H d o) p xs := by
  rcases h with (h | ⟨o', h⟩) | h
  · exact .inl (.inl (by rw [upd_ne (fun z => by rw [z, f] at h; cases h)]; exact h))
  · exact .inl (.inr ⟨o', by rw [upd_ne (fun z => by rw [z, f] at h; cases h)]; exact h⟩)
  · exact .inr h
/-- pairs of a spot's tuple and its answer -/
def PT (K : PySem.W.Frag) (H : Hp) (p : Addr) (kv : List Key × V) : Prop := ∃ b, SqT K H p [V.ref b, kv.2] ∧ H b = some (.tup (kv.1.map kV))
theorem PT.nl {K : PySem.W.Frag} {H H' : Hp} (e : NLf H H') {p : Addr} {kv : List Key × V} (h : PT K H p kv) : PT K H' p kv := let ⟨b, h1, h2⟩ := h; ⟨b, e.si.sqt h1, e _ _ (fun _ z => nomatch z) h2⟩
theorem Same.nl {H H' : Hp} (e : Same H H') : NLf H H' := fun b o _ h => e b o h
theorem EN.nl {H H' : Hp} (e : NLf H H') {kv : List Key × V} {x : Spot × An} (h : EN H kv x) : EN H' kv x := h.keep fun c xs q => e _ _ (fun _ z => nomatch z) q
section
variable {P : Program} {w : World} {K : PySem.W.Frag} {mg : Str → Option Value} {base : Heap}
theorem sc_law : FnScope ["_law_script", "_law_cell", "_law_well_here", "_law_drawn", "_law_inside", "_law_names_here", "_law_options", "_law_form_here", "_law_pairs", "_law_k", "_law_some", "_law_answers_here", "_law_gone", "_law_lame", "_law_rest", "_law_spot"] ["_law_script"] (defScope s_law) := ⟨rfl, rfl, rfl, by decide +kernel, rfl, by decide +kernel, by decide +kernel⟩
theorem ok_law (T : Tx K mg) {fd : FuncData} (F : FunD K "law" "law" (defArgs s_law) (defBody s_law) (defScope s_law) [] [] (He.ga K "law") fd) : FnOk P w K mg base L2.CX0 12 (He.ga K "law") fd ["_law_script"] (spLaw K) := by
  have O_law_cell_at := ok_cell_at (P := P) (w := w) (base := base) T
  have Oled_over := ok_led_over (P := P) (w := w) (base := base) T
  have Oled := ok_led (P := P) (w := w) (base := base) T
  have O_law_put_on := ok_put_on (P := P) (w := w) (base := base) T
  have O_law_draw := ok_draw (P := P) (w := w) (base := base) T
  have O_law_answers := ok_answers (P := P) (w := w) (base := base) T
  have O_law_form := ok_form (P := P) (w := w) (base := base) T
  have O_law_names := ok_names (P := P) (w := w) (base := base) T
  have O_law_well := ok_well (P := P) (w := w) (base := base) T
  obtain ⟨fEd, FEd⟩ := T.f_Edition_init
  have kbEd := kb_of (n := 3) (ks := ["calls"]) (ps := ["self", "number", "form", "calls"]) FEd (fun _ _ _ _ _ _ us ws h1 h2 => match us, ws, h1, h2 with | [_, _, _], [_], _, _ => rfl)
  refine F.ok (k := 11) sc_law (fun vs H Q E h => ?_) (fun cdv A outer s_ H vs Q E hr h => ?_)
  · obtain ⟨a, ns, rfl, _⟩ := h
    rfl
  obtain ⟨a, ns, rfl, hns, h63, q⟩ := h
  have hu65 := K3.Room.units65 hr
  have hu70 := K3.Room.units70 hr
  have hu4 := K3.Room.units4 hr
  have hu64 := Nat.lt_of_succ_lt hu65
  have hu0 := Nat.lt_of_le_of_lt (Nat.le_add_right _ 65) hu65
  have hu1 := Nat.lt_of_le_of_lt (Nat.add_le_add_left (show 1 ≤ 65 by decide) _) hu65
  have r_law_cell_at : Room 1 _ := hr.mono (by decide)
  have rled_over : Room 6 _ := hr.mono (by decide)
  have rled : Room 5 _ := hr.mono (by decide)
  have r_law_put_on : Room 1 _ := hr.mono (by decide)
  have r_law_draw : Room 1 _ := hr.mono (by decide)
  have r_law_answers : Room 3 _ := hr.mono (by decide)
  have r_law_form : Room 11 _ := hr.mono (by decide)
  have r_law_names : Room 4 _ := hr.mono (by decide)
  have r_law_well : Room 1 _ := hr.mono (by decide)
  refine ⟨_, pss_cons (ps_for (passes_of rfl) (by rfl) (pi_list (pe_op op_cat (pe_lst (pa_cons (pe_f O_law_cell_at r_law_cell_at T.g__law_cell_at (pa_cons (pv 0) (pa_cons pe_int pa_nil))) pa_nil)) (pe_slice sl_list (pv 0) (po_some pe_int) (po_some pe_int)))) (pg_name (i := 1) sc_law.nd rfl (Or.inl rfl)) (pss_cons (ps_set (i := 2) sc_law.nd rfl (Or.inl rfl) (pe_f O_law_well r_law_well T.g__law_well (pa_cons (pv 1) pa_nil)))
      (pss_cons (ps_set (i := 3) sc_law.nd rfl (Or.inl rfl) (pe_f O_law_names r_law_names T.g__law_names (pa_cons (pv 2) (pa_cons pe_int pa_nil))))
      (pss_cons (ps_set (i := 4) sc_law.nd rfl (Or.inl rfl) (pe_cmpR op_eq (pe_f O_law_draw r_law_draw T.g__law_draw (pa_cons (pv 2) (pa_cons pe_int pa_nil))) pe_int rfl))
      (pss_cons (ps_set (i := 5) sc_law.nd rfl (Or.inr rfl) (pe_slice sl_list (pv 3) po_none (po_some (pe_op op_add pe_int (pe_f O_law_draw r_law_draw T.g__law_draw (pa_cons (pv 2) (pa_cons (pe_op op_sub pe_int (pe_callTy call_int1 (by rfl) T.z_int (by decide +kernel) (pa_cons (pv 4) pa_nil))) pa_nil)))))))
      (pss_cons (ps_set (i := 6) sc_law.nd rfl (Or.inl rfl) (pe_f O_law_names r_law_names T.g__law_names (pa_cons (pv 2) (pa_cons (pe_op op_add pe_int (pe_f O_law_draw r_law_draw T.g__law_draw (pa_cons (pv 2) (pa_cons pe_int pa_nil)))) pa_nil))))
      (pss_cons (ps_set (i := 7) sc_law.nd rfl (Or.inr rfl) (pe_f O_law_form r_law_form T.g__law_form (pa_cons (pv 5) (pa_cons (pv 6) (pa_cons (pv 4) (pa_cons (pe_ix ix_list (pv 3) pe_int (fun _ _ => rfl)) pa_nil))))))
      (pss_cons (ps_set (i := 8) sc_law.nd rfl (Or.inr rfl) (LZ.pe_zipL (by rfl) (by rfl) T.z_list (by rfl) T.z_zip (pa_cons (pv 5) (pa_cons (pe_op op_cat (pe_slice sl_list (pv 5) (po_some pe_int) po_none) (pe_slice sl_list (pv 5) po_none (po_some pe_int))) pa_nil))))
      (pss_cons (by exact ps_setLc (i := 10) (own := [("_law_k", 9)]) (g := gName 9) (tt := tYes) (te := (tMakeK (He.ga K "Edition") 2 1 (spEd K) (fun vs zs => vs ++ zs) E0 (tCons (tOp (rI0 fun i j => .int (i + j)) (tVar 9) (tC (.int 2))) (tCons (tVar 7) tNil)) (tCons (tVar 8) tNil))) (by rfl) sc_law.nd rfl rfl (by rfl) (pi_range1 rfl T.z_range (pa_cons (pe_callB call_len_seq (by rfl) T.z_len PySem.boot_len (pa_cons (pv 5) pa_nil)) pa_nil)) (blkOk_by (own := [("_law_k", 9)]) (N := ["_law_script", "_law_cell", "_law_well_here", "_law_drawn", "_law_inside", "_law_names_here", "_law_options", "_law_form_here", "_law_pairs", "_law_k", "_law_some", "_law_answers_here", "_law_gone", "_law_lame", "_law_rest", "_law_spot"]) (sc := defScope s_law) (by decide +kernel)) (fun _ _ _ _ _ => (pg_name (i := 9) sc_law.nd rfl (Or.inl rfl))) (fun _ _ _ _ _ => pts_nil) (fun _ _ _ _ _ => (pe_makeK (n := 2) (ks := ["calls"]) T.mk_Edition (ok_Edition T FEd) (hr.mono (by decide : 6 ≤ 11)) (by rfl) T.g_Edition kbEd passL (pa_cons (pe_op op_add (pv 9) pe_int) (pa_cons (pv 7) pa_nil)) (pk_cons (pv 8) pk_nil))))
      (pss_cons (ps_set (i := 11) sc_law.nd rfl (Or.inr rfl) (pe_f O_law_answers r_law_answers T.g__law_answers (pa_cons (pv 2) (pa_cons (pv 5) (pa_cons (pv 6) (pa_cons (pv 4) (pa_cons (pe_ix ix_list (pv 3) pe_int (fun _ _ => rfl)) pa_nil)))))))
      (pss_cons (ps_for (passes_of rfl) (by rfl) (pi_range1 rfl T.z_range (pa_cons (pe_op op_add (pe_callB call_len_seq (by rfl) T.z_len PySem.boot_len (pa_cons (pv 5) pa_nil)) pe_int) pa_nil)) (pg_name (i := 9) sc_law.nd rfl (Or.inl rfl)) (pss_one (ps_if (pt_cmpR (op_neT hu70) (pe_f Oled_over rled_over T.g_led_over (pa_cons (pv 11) (pa_cons (pe_slice sl_list (pv 10) po_none (po_some (pv 9))) pa_nil))) (pe_f O_law_put_on r_law_put_on T.g__law_put_on (pa_cons (pv 11) (pa_cons (pv 5) (pa_cons (pv 9) pa_nil)))) (nomark _)) (pss_one (ps_ret pe_bl)) pss_nil)))
      (pss_cons (ps_set (i := 12) sc_law.nd rfl (Or.inr rfl) (pe_f O_law_draw r_law_draw T.g__law_draw (pa_cons (pv 2) (pa_cons (pe_callB call_len_seq (by rfl) T.z_len PySem.boot_len (pa_cons (pv 8) pa_nil)) pa_nil))))
      (pss_cons (ps_set (i := 13) sc_law.nd rfl (Or.inl rfl) (pe_makeK (n := 2) (ks := ["calls"]) T.mk_Edition (ok_Edition T FEd) (hr.mono (by decide : 6 ≤ 11)) (by rfl) T.g_Edition kbEd passL (pa_cons pe_int (pa_cons (pv 7) pa_nil)) (pk_cons (pe_op op_cat (pe_slice sl_list (pv 8) po_none (po_some (pv 12))) (pe_slice sl_list (pv 8) (po_some (pe_op op_add (pv 12) pe_int)) po_none)) pk_nil)))
      (pss_cons (ps_set (i := 14) sc_law.nd rfl (Or.inl rfl) (pe_callTy (call_dictPT (by rfl) hu4) (by rfl) T.z_dict (by decide +kernel) (pa_cons (pe_lock (by exact pe_lc (own := [("_law_spot", 15)]) (g := gName 15) (tt := (tTest (tOp rNe (tOp (rIxT K) (tVar 15) (tC (.int 0))) (tOp (rIxL K) (tVar 5) (tVar 12))))) (te := (tTup (tCons (tVar 15) (tCons (tDGet (tVar 11) (tVar 15)) tNil)))) (by rfl) sc_law.nd (pi_keys (pv 11)) (blkOk_by (own := [("_law_spot", 15)]) (N := ["_law_script", "_law_cell", "_law_well_here", "_law_drawn", "_law_inside", "_law_names_here", "_law_options", "_law_form_here", "_law_pairs", "_law_k", "_law_some", "_law_answers_here", "_law_gone", "_law_lame", "_law_rest", "_law_spot"]) (sc := defScope s_law) (by decide +kernel)) (fun _ _ _ _ _ => (pg_name (i := 15) sc_law.nd rfl (Or.inl rfl))) (fun _ _ _ _ _ => (pts_one (pt_cmpR op_ne (pe_ix ix_tup (pv 15) pe_int (fun _ _ => rfl)) (pe_ix ix_list (pv 5) (pv 12) (fun _ _ => rfl)) (nomark _)))) (fun _ _ _ _ _ => (pe_tup (pa_cons (pv 15) (pa_cons (pe_dget hu1 (pv 11) (pv 15) (fun _ _ => rfl)) pa_nil)))))) pa_nil)))
      (pss_one (ps_if (pw_or (pt_cmpR (op_neT hu70) (pe_f Oled rled T.g_led (pa_cons (pv 11) (pa_cons (pv 13) pa_nil))) (pe_f O_law_put_on r_law_put_on T.g__law_put_on (pa_cons (pv 14) (pa_cons (pv 5) (pa_cons pe_int pa_nil)))) (nomark _)) (pw_or1 (pt_cmpR (op_neT hu70) (pe_f Oled_over rled_over T.g_led_over (pa_cons (pv 11) (pa_cons (pv 10) pa_nil))) (pv 11) (nomark _)))).pt (pss_one (ps_ret pe_bl)) pss_nil))))))))))))))))
      (pss_one (ps_ret pe_bl)), ?_⟩
  walk_at "go"
  refine list_open ?_
  walk_at "go"
  refine ⟨a, ns, 0, rfl, hns, ?_⟩
  walk_at "go"
  refine ⟨(by show 1 ≤ sizeLine; decide), fun p1 hp1 => ?_⟩
  generalize ns.getD 0 0 = c0 at hp1 ⊢
  have e1 := Same.new hp1 (.lst [V.int c0])
  walk_at "go"
  refine ⟨a, _, rfl, e1.seq hns, fun p2 hp2 => ?_⟩
  have hx2 : ∀ x ∈ cutV (ns.map V.int) (some 1) (some 6), ∃ c, x = V.int c := fun x hx => by
    obtain ⟨c, _, rfl⟩ := List.mem_map.mp (cut_mem hx)
    exact ⟨c, rfl⟩
  have lx2 : (cutV (ns.map V.int) (some 1) (some 6)).length ≤ 63 := by
    unfold cutV
    rw [List.length_take, List.length_drop, List.length_map]
    omega
  generalize cutV (ns.map V.int) (some 1) (some 6) = xs2 at hp2 hx2 lx2 ⊢
  have e2 := Same.new hp2 (.lst xs2)
  refine ⟨p1, p2, _, _, rfl, rfl, e2 _ _ upd_same, upd_same, Nat.le_trans (show _ ≤ 64 by simp; omega) (by decide), fun p3 hp3 => ?_⟩
  have h3 : (upd (upd (upd H p1 (.lst [V.int c0])) p2 (.lst xs2)) p3 (.lst ([V.int c0] ++ xs2))) p3 = some (.lst ([V.int c0] ++ xs2)) := upd_same
  have cellI : ∀ x ∈ [V.int c0] ++ xs2, ∃ c, x = V.int c := fun x hx => by
    rcases List.mem_append.mp hx with hx | hx
    · exact ⟨c0, List.mem_singleton.mp hx⟩
    · exact hx2 x hx
  generalize upd (upd (upd H p1 (.lst [V.int c0])) p2 (.lst xs2)) p3 (.lst ([V.int c0] ++ xs2)) = H0 at h3 ⊢
  generalize [V.int c0] ++ xs2 = cells at h3 cellI ⊢
  clear e1 e2 hns
  refine ⟨p3, rfl, ⟨_, SqL.of h3⟩, ?_⟩
  refine for_list (xs := cells) (fun (i : Nat) σ H' => ∃ o1 o2 o3 o4 o5 o6 o7 o8 o9 o10 o11 o12 o13 o14 : Option V, σ = [some (.ref a), o1, o2, o3, o4, o5, o6, o7, o8, o9, o10, o11, o12, o13, o14, none] ∧ Same H0 H')
    ⟨none, none, none, none, none, none, none, none, none, none, none, none, none, none, rfl, Same.refl _⟩ (fun i σ H' _ ⟨_, _, _, _, _, _, _, _, _, _, _, _, _, _, _, e⟩ => SqL.of (e _ _ h3)) ?_ ?_
  · rintro i x σ H1 hxi ⟨o1, o2, o3, o4, o5, o6, o7, o8, o9, o10, o11, o12, o13, o14, rfl, e1⟩
    obtain ⟨c, rfl⟩ := cellI x (List.mem_of_getElem? hxi)
    walk_at "go"
    refine ⟨c, rfl, fun s H2 hs1 e2 w2 => ?_⟩
    walk_at "go"
    refine ⟨s, 0, 5, rfl, w2, by decide, by decide, fun dr H3 zs hdr b3 w3 hz lz nd nm => ?_⟩
    have ndr : dr ≠ s := w2.ne hdr
    walk_at "go"
    refine ⟨s, 2, _, rfl, w3, by decide, by decide, by decide, fun r4 H4 hr4 b4 w4 => ?_⟩
    walk_at "go"
    refine ⟨rfl, ?_⟩
    rw [decV]
    generalize hb : decide ((r4 : Int) = 1) = b
    walk_at "go"
    refine .inr ⟨b, rfl, ?_⟩
    walk_at "go"
    have mb : (0 : Int) < 3 - (if b = true then 1 else 0) ∧ (3 : Int) - (if b = true then 1 else 0) ≤ 3 := by cases b <;> decide
    generalize (3 : Int) - (if b = true then 1 else 0) = mx at mb ⊢
    refine ⟨s, mx, _, rfl, w4, by decide, mb.1, by omega, fun r5 H5 hr5 b5 w5 => ?_⟩
    walk_at "go"
    have hz5 := (b4.trans b5).at hz (by simpa using ndr)
    refine ⟨dr, _, rfl, SqL.of hz5, fun nl hnl0 => ?_⟩
    have f6 := Same.new hnl0 (.lst (cutV (zs.map V.str) none (some (2 + (r5 : Int)))))
    have hnl6 : (upd H5 nl (.lst (cutV (zs.map V.str) none (some (2 + (r5 : Int)))))) nl = some (.lst (cutV (zs.map V.str) none (some (2 + (r5 : Int))))) := upd_same
    have w6 := w5.upd (w5.ne hnl0) (.lst (cutV (zs.map V.str) none (some (2 + (r5 : Int)))))
    have nls := w5.ne hnl0
    generalize upd H5 nl (.lst (cutV (zs.map V.str) none (some (2 + (r5 : Int))))) = H6 at f6 hnl6 w6 ⊢
    have hz6 := f6 _ _ hz5
    rw [show (2 : Int) + (r5 : Int) = ((2 + r5 : Nat) : Int) by omega, cut_to, ← List.map_take] at hnl6
    obtain ⟨oft, ho⟩ : ∃ oft, zs[4]? = some oft := ⟨zs[4], List.getElem?_eq_getElem (by omega)⟩
    have hoft : oft ∉ zs.take (2 + r5) := fun z => by
      have h1 : oft ∈ zs.drop (2 + r5) := List.mem_iff_getElem?.mpr ⟨4 - (2 + r5), by rw [List.getElem?_drop, show 2 + r5 + (4 - (2 + r5)) = 4 by omega]; exact ho⟩
      have h2 : (zs.take (2 + r5) ++ zs.drop (2 + r5)).Nodup := by rw [List.take_append_drop]; exact nd
      exact (List.nodup_append.mp h2).2.2 _ z _ h1 rfl
    have lms : (zs.take (2 + r5)).length = 2 + r5 := by rw [List.length_take]; omega
    have ndm : (zs.take (2 + r5)).Nodup := nd.sublist (List.take_sublist _ _)
    have nmm : ∀ z ∈ zs.take (2 + r5), isName z = true := fun z hz => nm z (List.mem_of_mem_take hz)
    have noft : isName oft = true := nm _ (List.mem_of_getElem? ho)
    generalize zs.take (2 + r5) = ms at hnl6 hoft lms ndm nmm
    walk_at "go"
    refine ⟨s, 6, _, rfl, w6, by decide, by decide, by decide, fun r6 H7 hr6 b7 w7 => ?_⟩
    walk_at "go"
    refine ⟨s, _, 1 + r6, by rw [show ((1 + r6 : Nat) : Int) = 1 + (r6 : Int) by omega]; rfl, w7, by unfold most; omega, by omega, fun ol H8 os hol0 b8 w8 hol lo ndo nmo => ?_⟩
    have ols : ol ≠ s := w7.ne hol0
    have b68 := b7.trans b8
    have hnl8 := b68.at hnl6 (by simpa using nls)
    have hz8 := b68.at hz6 (by simpa using ndr)
    have ok : NsOk ms os b oft := ⟨by omega, by omega, ndm, nmm, ⟨by omega, by omega, ndo, nmo⟩, noft, hoft⟩
    walk_at "go"
    refine ⟨dr, _, 4, _, rfl, rfl, SqL.of hz8, atI_nat (by rw [List.getElem?_map, ho]; rfl), ?_⟩
    walk_at "go"
    refine ⟨nl, ol, ms, os, b, oft, rfl, hnl8, hol, ok, fun f H9 e9 hf0 hf => ?_⟩
    walk_at "go"
    refine LZ.w_zipL ?_
    walk_at "go"
    have hnl9 := e9 _ _ hnl8
    have lm1 := ok.l1
    have lm4 := ok.l4
    have c1 : cutV (ms.map V.str) (some 1) none = (ms.drop 1).map V.str := by
      have := cut_from (ms.map V.str) 1
      rw [List.map_drop]
      exact this
    have c2 : cutV (ms.map V.str) none (some 1) = (ms.take 1).map V.str := by
      have := cut_to (ms.map V.str) 1
      rw [List.map_take]
      exact this
    refine ⟨nl, _, rfl, SqL.of hnl9, fun q1 hq1 => ?_⟩
    rw [c1]
    have g1 := Same.new hq1 (.lst ((ms.drop 1).map V.str))
    have k1 : (upd H9 q1 (.lst ((ms.drop 1).map V.str))) q1 = some (.lst ((ms.drop 1).map V.str)) := upd_same
    generalize upd H9 q1 (.lst ((ms.drop 1).map V.str)) = H10 at g1 k1 ⊢
    walk_at "go"
    refine ⟨nl, _, rfl, SqL.of (g1 _ _ hnl9), fun q2 hq2 => ?_⟩
    rw [c2]
    have g2 := Same.new hq2 (.lst ((ms.take 1).map V.str))
    have k2 : (upd H10 q2 (.lst ((ms.take 1).map V.str))) q2 = some (.lst ((ms.take 1).map V.str)) := upd_same
    generalize upd H10 q2 (.lst ((ms.take 1).map V.str)) = H11 at g2 k2 ⊢
    refine ⟨q1, q2, _, _, rfl, rfl, g2 _ _ k1, k2, ?_, fun q3 hq3 => ?_⟩
    · rw [List.length_map, List.length_map, List.length_drop, List.length_take]
      exact Nat.le_trans (show _ ≤ 100 by omega) (by decide)
    have er : (ms.drop 1).map V.str ++ (ms.take 1).map V.str = (rotF ms).map V.str := by unfold rotF; rw [List.map_append]
    rw [er]
    have g3 := Same.new hq3 (.lst ((rotF ms).map V.str))
    have k3 : (upd H11 q3 (.lst ((rotF ms).map V.str))) q3 = some (.lst ((rotF ms).map V.str)) := upd_same
    generalize upd H11 q3 (.lst ((rotF ms).map V.str)) = H12 at g3 k3 ⊢
    walk_at "go"
    have g03 := g1.trans (g2.trans g3)
    refine ⟨nl, q3, _, _, rfl, SqL.of (g03 _ _ hnl9), SqL.of k3, ?_, fun H13 pl ts e13 hpl0 hpl hts => ?_⟩
    · rw [List.length_map, List.length_map, rot_len (by omega)]
    have e913 := g03.trans e13
    have htc : Paired (fun t (c : Str × Str) => H13 t = some (.tup [V.str c.1, V.str c.2])) ts (callsOf ms) := by
      rw [List.zip_map] at hts
      exact paired_unmap (F := fun t (q : V × V) => H13 t = some (.tup [q.1, q.2])) (h := Prod.map V.str V.str) hts
    have pls : pl ≠ s := fun z => by
      have := w8.same (e9.trans g03)
      exact this.ne hpl0 z
    have hpO : PairsO K H13 pl (callsOf ms) := ⟨ts, ⟨false, SqL.of hpl⟩, L2.Paired.mapP htc fun _ _ z => SqT.of z⟩
    have lcl : (callsOf ms).length = ms.length := calls_len (by omega)
    have lcn : ∀ c ∈ callsOf ms, c.1.length ≤ 1000 ∧ c.2.length ≤ 1000 := fun c hc => by
      have h1 : c.1 ∈ ms := by have := List.mem_map_of_mem (f := Prod.fst) hc; rwa [calls_fst (by omega)] at this
      have h2 : c.2 ∈ ms := rot_mem.mp (by have := List.mem_map_of_mem (f := Prod.snd) hc; rwa [calls_snd (by omega)] at this)
      have n1 := (name_ok (ok.nm _ h1)).2
      have n2 := (name_ok (ok.nm _ h2)).2
      omega
    walk_at "go"
    refine lc_open (rng_open ?_)
    walk_at "go"
    refine ⟨nl, _, rfl, .inl (SqL.of (e913 _ _ hnl9)), ?_⟩
    rw [List.length_map]
    walk_at "go"
    refine ⟨_, rfl, by omega, by omega, fun D hD => ?_⟩
    rw [Int.toNat_natCast]
    have w13 := w8.same (e9.trans e913)
    have hf13 := hf.same e913
    have Ds := w13.ne hD
    refine lc_range (lo := 0) (n := ms.length) (fun (i : Nat) H' => Same H13 H' ∧ ∃ ws, H' D = some (.lst ws) ∧ Paired (fun v e => ∃ a, v = .ref a ∧ EdO K H' a e) ws (edsOf ms os b oft i)) ⟨Same.new hD _, [], upd_same, .nil⟩ ?_ ?_
    · rintro i H14 hi ⟨e14, ws, h14, hws⟩
      walk_at "go"
      refine ⟨rfl, ?_⟩
      walk_at "go"
      refine w_makeK ?_
      walk_at "go"
      rw [Int.zero_add]
      refine ⟨rfl, rfl, fun x dx hx hdx _ => mkEd ok (by omega) (List.Sublist.refl _) (hpO.same e14) (hf13.same e14) (by omega) lcn hx hdx fun H15 e15 hE => ?_⟩
      have nlu := NLf.upd (e15 _ _ h14) (.lst (ws ++ [V.ref x]))
      have lws : ws.length = i := by rw [hws.length]; unfold edsOf; rw [List.length_map, List.length_range]
      refine ⟨ws, e15 _ _ h14, Nat.lt_of_le_of_lt (show ws.length ≤ 100 by omega) (by decide), (e14.trans e15).mut hD, _, upd_same, ?_⟩
      rw [eds_snoc]
      exact K3.Paired.app (L2.Paired.mapP hws fun _ _ ⟨a, h1, h2⟩ => ⟨a, h1, (h2.same e15).nl nlu⟩) (.cons ⟨x, rfl, hE.nl nlu⟩ .nil)
    · rintro H14 ⟨e14, ws, h14, hws⟩
      have e814 := e9.trans (e913.trans e14)
      walk_at "go"
      refine ⟨dr, _, 4, _, rfl, rfl, SqL.of (e814 _ _ hz8), atI_nat (by rw [List.getElem?_map, ho]; rfl), ?_⟩
      walk_at "go"
      have w14 := w8.same e814
      refine ⟨s, nl, ol, _, ms, os, b, oft, rfl, w14, by unfold most; omega, e814 _ _ hnl8, e814 _ _ hol, nls, ols, ok, fun da H15 kvs al hda0 b15 w15 hda hA good la => ?_⟩
      have das := w14.ne hda0
      have nl15 := BM.nl w14.src b15
      have hE15 : Paired (fun v e => ∃ a, v = .ref a ∧ EdO K H15 a e) ws (edsOf ms os b oft ms.length) := L2.Paired.mapP hws fun _ _ ⟨a, h1, h2⟩ => ⟨a, h1, h2.nl nl15⟩
      have h15 := b15.at h14 (by simpa using Ds)
      have hnl15 := b15.at (e814 _ _ hnl8) (by simpa using nls)
      have hpl15 := b15.at (e14 _ _ hpl) (by simpa using pls)
      have htc15 : Paired (fun t (c : Str × Str) => H15 t = some (.tup [V.str c.1, V.str c.2])) ts (callsOf ms) := L2.Paired.mapP htc fun _ _ z => nl15 _ _ (fun _ q => nomatch q) (e14 _ _ z)
      have hf15 := (hf13.same e14).nl nl15
      have lws : ws.length = ms.length := by rw [hws.length]; unfold edsOf; rw [List.length_map, List.length_range]
      walk_at "go"
      refine rng_open ?_
      walk_at "go"
      refine ⟨nl, _, rfl, .inl (SqL.of hnl15), ?_⟩
      rw [List.length_map]
      walk_at "go"
      refine ⟨_, rfl, by omega, by omega, ?_⟩
      rw [show ((ms.length : Int) + 1).toNat = ms.length + 1 by omega]
      refine for_range (lo := 0) (n := ms.length + 1) (fun (i : Nat) σ H' => ∃ o9 : Option V, σ = [some (.ref a), some (.int c), some (.ref s), some (.ref dr), some (.bl b), some (.ref nl), some (.ref ol), some (.ref f), some (.ref pl), o9, some (.ref D), some (.ref da), o12, o13, o14, none] ∧ Same H15 H') ⟨_, rfl, Same.refl _⟩ ?_ ?_
      · rintro i σ H16 hi ⟨o9, rfl, e16⟩
        walk_at "go"
        rw [Int.zero_add]
        refine ⟨D, _, rfl, SqL.of (e16 _ _ h15), fun p4 hp4 => ?_⟩
        rw [cut_to]
        have e17 := Same.new hp4 (.lst (ws.take i))
        have h17 : (upd H16 p4 (.lst (ws.take i))) p4 = some (.lst (ws.take i)) := upd_same
        generalize upd H16 p4 (.lst (ws.take i)) = H17 at e17 h17 ⊢
        have e157 := e16.trans e17
        have hE17 : Paired (fun v e => ∃ a, v = .ref a ∧ EdO K H17 a e) (ws.take i) ((edsOf ms os b oft ms.length).take i) := paired_take (L2.Paired.mapP hE15 fun _ _ ⟨a, h1, h2⟩ => ⟨a, h1, h2.same e157⟩) i
        walk_at "go"
        refine ⟨da, p4, kvs, al, _, _, rfl, e157 _ _ hda, hA.nt (Same.nt e157), by omega, ⟨false, SqL.of h17⟩, hE17, fun r1 H18 kv1 e18 hr10 hr1 A1 => ?_⟩
        have e158 := e157.trans e18
        walk_at "go"
        refine ⟨da, nl, kvs, al, ms, i, rfl, e158 _ _ hda, hA.nt (Same.nt e158), by omega, SqL.of (e158 _ _ hnl15), by omega, by omega, by omega, fun r2 H19 kv2 e19 hr20 hr2 A2 => ?_⟩
        have e159 := e158.trans e19
        rw [led_fold ok hA.nd good fun e he => eds_are (List.mem_of_mem_take he), List.length_take, eds_len, Nat.min_eq_left (by omega)] at A1
        rw [putOn_is ok.nd hA.nd] at A2
        refine ⟨r1, r2, kv1, kv2, _, _, rfl, rfl, e19 _ _ hr1, hr2, en_kd (A1.nt (Same.nt e19)).ents, en_kd A2.ents, ?_⟩
        rw [same_refl A2.nd]
        refine ⟨_, rfl, ?_⟩
        walk_at "go"
        exact ⟨_, rfl, e159⟩
      · rintro σ H16 ⟨o9, rfl, e16⟩
        have hA16 := hA.nt (Same.nt e16)
        walk_at "go"
        refine ⟨pl, _, rfl, .inl (SqL.of (e16 _ _ hpl15)), ?_⟩
        rw [List.length_map, htc15.length, lcl]
        walk_at "go"
        have w16 := w15.same e16
        refine ⟨s, _, _, rfl, w16, by unfold most; omega, by omega, by omega, fun g H17 hg b17 w17 => ?_⟩
        have lg : g < ms.length := by omega
        have nl17 := BM.nl w16.src b17
        have hda17 := b17.at (e16 _ _ hda) (by simpa using das)
        have hnl17 := b17.at (e16 _ _ hnl15) (by simpa using nls)
        have hpl17 := b17.at (e16 _ _ hpl15) (by simpa using pls)
        have hD17 := b17.at (e16 _ _ h15) (by simpa using Ds)
        have hA17 := hA16.bmw w16.src b17
        have hE17 : Paired (fun v e => ∃ a, v = .ref a ∧ EdO K H17 a e) ws (edsOf ms os b oft ms.length) := L2.Paired.mapP hE15 fun _ _ ⟨a, h1, h2⟩ => ⟨a, h1, (h2.same e16).nl nl17⟩
        have htc17 : Paired (fun t (c : Str × Str) => H17 t = some (.tup [V.str c.1, V.str c.2])) ts (callsOf ms) := L2.Paired.mapP htc15 fun _ _ z => nl17 _ _ (fun _ q => nomatch q) (e16 _ _ z)
        have hf17 := (hf15.same e16).nl nl17
        walk_at "go"
        refine w_makeK ?_
        walk_at "go"
        refine ⟨pl, _, rfl, SqL.of hpl17, fun p5 hp5 => ?_⟩
        rw [cut_to]
        have f1 := Same.new hp5 (.lst ((ts.map V.ref).take g))
        have j1 : (upd H17 p5 (.lst ((ts.map V.ref).take g))) p5 = some (.lst ((ts.map V.ref).take g)) := upd_same
        generalize upd H17 p5 (.lst ((ts.map V.ref).take g)) = H18 at f1 j1 ⊢
        walk_at "go"
        refine ⟨pl, _, rfl, SqL.of (f1 _ _ hpl17), fun p6 hp6 => ?_⟩
        rw [show (g : Int) + 1 = ((g + 1 : Nat) : Int) by omega, cut_from]
        have f2 := Same.new hp6 (.lst ((ts.map V.ref).drop (g + 1)))
        have j2 : (upd H18 p6 (.lst ((ts.map V.ref).drop (g + 1)))) p6 = some (.lst ((ts.map V.ref).drop (g + 1))) := upd_same
        generalize upd H18 p6 (.lst ((ts.map V.ref).drop (g + 1))) = H19 at f2 j2 ⊢
        refine ⟨p5, p6, _, _, rfl, rfl, f2 _ _ j1, j2, ?_, fun p7 hp7 => ?_⟩
        · have := htc15.length
          rw [List.length_take, List.length_drop, List.length_map]
          exact Nat.le_trans (show _ ≤ 100 by omega) (by decide)
        rw [← List.map_take, ← List.map_drop, ← List.map_append]
        have f3 := Same.new hp7 (.lst ((ts.take g ++ ts.drop (g + 1)).map V.ref))
        have j3 : (upd H19 p7 (.lst ((ts.take g ++ ts.drop (g + 1)).map V.ref))) p7 = some (.lst ((ts.take g ++ ts.drop (g + 1)).map V.ref)) := upd_same
        generalize upd H19 p7 (.lst ((ts.take g ++ ts.drop (g + 1)).map V.ref)) = H20 at f3 j3 ⊢
        walk_at "go"
        have f03 := f1.trans (f2.trans f3)
        have htc20 : Paired (fun t (c : Str × Str) => SqT K H20 t [V.str c.1, V.str c.2]) ts (callsOf ms) := L2.Paired.mapP htc17 fun _ _ z => SqT.of (f03 _ _ z)
        have hp20 : PairsO K H20 p7 (lame ms g) := ⟨_, ⟨false, SqL.of j3⟩, K3.Paired.app (paired_take htc20 g) (paired_dropN htc20 (g + 1))⟩
        refine ⟨rfl, rfl, fun x dx hx hdx _ => mkEd ok (by decide) lame_sub hp20 (hf17.same f03) (by have := (lame_sub (ns := ms) (g := g)).length_le; omega) (fun c hc => lcn c (lame_sub.subset hc)) hx hdx fun H21 e21 hL => ?_⟩
        have e1721 := f03.trans e21
        walk_at "go"
        obtain ⟨n, hgn⟩ : ∃ n, ms[g]? = some n := ⟨ms[g], List.getElem?_eq_getElem lg⟩
        have hda21 := e1721 _ _ hda17
        have hnl21 := e1721 _ _ hnl17
        have hA21 := hA17.nt (Same.nt e1721)
        refine lockE_open da _ hda21 trivial fun od => ?_
        refine lc_open ?_
        refine ⟨_, rfl, da, od, rfl, .inr ⟨kvs, upd_same, fun D2 hD2 => ?_⟩⟩
        have kf : NT H21 (upd H21 da (.frz od (.dT kvs))) := NT.upd hda21 _
        have lenA : al.length = kvs.length := hA21.ents.length.symm
        have entF : Paired (EN (upd H21 da (.frz od (.dT kvs)))) kvs al := L2.Paired.mapP hA21.ents fun _ _ z => z.nt kf
        have hpF : (upd H21 da (.frz od (.dT kvs))) da = some (.frz od (.dT kvs)) := upd_same
        have fin : ∀ H', Same (upd H21 da (.frz od (.dT kvs))) H' → Same H21 (upd H' da (.dT kvs)) := fun H' k => Same.locked hda21 k
        have nDp : D2 ≠ da := fun z => by rw [z, hpF] at hD2; cases hD2
        have hDH : H21 D2 = none := by
          cases g : H21 D2 with
          | none => rfl
          | some o => rw [upd_ne nDp, g] at hD2; cases hD2
        have hnlF : (upd H21 da (.frz od (.dT kvs))) nl = some (.lst (ms.map V.str)) := kf _ _ (fun _ z => nomatch z) hnl21
        generalize hHF : upd H21 da (.frz od (.dT kvs)) = HF at *
        refine lc_it walk_keysT (fun i H' => Same HF H' ∧ ∃ (us : List Addr) (kx : List (List Key × V)), H' D2 = some (.lst (us.map V.ref)) ∧ Paired (PT K H') us kx ∧ Paired (EN H') kx ((al.take i).filter fun y => decide (y.1.1 ≠ n))) ⟨Same.new hD2 _, [], [], upd_same, .nil, .nil⟩ (fun i H' _ z => z.1 _ _ hpF) ?_ ?_
        · rintro i x2 H22 H22' hi ⟨e22, us, kx, hus, pus, pen⟩ ⟨e22', k, v, b2, hkv, rfl, hb2⟩
          have e22s := e22'.symm
          subst e22s
          obtain ⟨y, hy, hk, hv, hok⟩ := K3.Paired.get entF hkv
          dsimp only at hk hv
          subst hk
          have hval : valV kvs (keyOf y.1) = some v := val_at hA.nd entF hkv hy
          have hp2 := e22 _ _ hpF
          walk_at "go"
          refine ⟨rfl, ?_⟩
          walk_at "go"
          refine ⟨b2, _, 0, _, rfl, rfl, SqT.of hb2, rfl, ?_⟩
          walk_at "go"
          refine ⟨nl, _, (g : Int), _, rfl, rfl, SqL.of (e22 _ _ hnlF), atI_nat (by rw [List.getElem?_map, hgn]; rfl), ?_⟩
          refine ⟨rfl, _, rfl, ?_⟩
          have ft := filt_take (f := fun y => decide (y.1.1 ≠ n)) hy
          by_cases cn : y.1.1 = n
          · have dk : decide (kV (Sum.inr y.1.1) = V.str n) = true := decide_eq_true (congrArg V.str cn)
            rw [dk, Bool.not_true, if_neg Bool.false_ne_true, ft, if_neg (fun z => (of_decide_eq_true z) cn), List.append_nil]
            exact ⟨e22, us, kx, hus, pus, pen⟩
          · have dk : decide (kV (Sum.inr y.1.1) = V.str n) = false := decide_eq_false (fun z => cn (V.str.inj z))
            rw [dk, Bool.not_false, if_pos rfl]
            walk_at "go"
            refine ⟨da, v, rfl, hval ▸ DGet.tf (.inr ⟨od, hp2⟩) hb2, ?_⟩
            walk_at "go"
            refine ⟨(by show 2 ≤ sizeLine; decide), fun t ht => ?_⟩
            have e23 := Same.new ht (.tup [V.ref b2, v])
            have ht23 : (upd H22 t (.tup [V.ref b2, v])) t = some (.tup [V.ref b2, v]) := upd_same
            generalize upd H22 t (.tup [V.ref b2, v]) = H23 at e23 ht23 ⊢
            have hus23 := e23 _ _ hus
            have nlu := NLf.upd hus23 (.lst (us.map V.ref ++ [V.ref t]))
            have l1 := pus.length
            have l2 := pen.length
            have l3 := List.length_filter_le (fun y : Spot × An => decide (y.1.1 ≠ n)) (al.take i)
            rw [List.length_take] at l3
            refine ⟨_, hus23, by rw [List.length_map]; exact Nat.lt_of_le_of_lt (show us.length ≤ 1000 by omega) (by decide), (e22.trans e23).mut hD2, us ++ [t], kx ++ [(keyOf y.1, v)], ?_, ?_, ?_⟩
            · rw [upd_same, List.map_append]
              rfl
            · exact K3.Paired.app (L2.Paired.mapP pus fun _ _ z => (z.nl (Same.nl e23)).nl nlu) (.cons (PT.nl nlu ⟨b2, SqT.of ht23, e23 _ _ hb2⟩) .nil)
            · rw [ft, if_pos (decide_eq_true cn)]
              exact K3.Paired.app (L2.Paired.mapP pen fun _ _ z => EN.nl nlu (EN.nl (Same.nl e23) z)) (.cons (EN.nl nlu (EN.nl (Same.nl e23) (EN.nl (Same.nl e22) ⟨rfl, hv, hok⟩))) .nil)
        · rintro H22 ⟨e22, us, kx, hus, pus, pen⟩
          rw [← lenA, List.take_length] at pen
          refine ⟨e22 _ _ hpF, ?_⟩
          have f22 := e22 _ _ hpF
          have kp22 : ∀ c xs, H22 c = some (.tup xs) → (upd H22 da (.dT kvs)) c = some (.tup xs) := fun c xs q => by
            rw [upd_ne (fun z => by rw [z, f22] at q; cases q)]
            exact q
          have e23 := fin H22 e22
          have hus23 : (upd H22 da (.dT kvs)) D2 = some (.lst (us.map V.ref)) := by rw [upd_ne nDp]; exact hus
          have pus23 : Paired (PT K (upd H22 da (.dT kvs))) us kx := L2.Paired.mapP pus fun _ _ ⟨b, h1, h2⟩ => ⟨b, sqt_off f22 h1, kp22 _ _ h2⟩
          have pen23 : Paired (EN (upd H22 da (.dT kvs))) kx (restF al n) := L2.Paired.mapP pen fun _ _ z => z.keep kp22
          generalize upd H22 da (.dT kvs) = H23 at e23 hus23 pus23 pen23 ⊢
          walk_at "go"
          have ndr : ((restF al n).map (·.1)).Nodup := filt_nd hA.nd
          refine ⟨D2, us, kx, rfl, SqL.of hus23, pus23, fun pr hpr => ?_⟩
          rw [merge_en pen23 (acc := []) (al1 := []) .nil (by rw [List.nil_append]; exact ndr), List.nil_append]
          have e24 := Same.new hpr (.dT kx)
          have h24 : (upd H23 pr (.dT kx)) pr = some (.dT kx) := upd_same
          generalize upd H23 pr (.dT kx) = H24 at e24 h24 ⊢
          have A24 : AD H24 pr kx (restF al n) := ⟨L2.Paired.mapP pen23 fun _ _ z => z.nt (Same.nt e24), ndr⟩
          have e2124 := e23.trans e24
          have lr : (restF al n).length ≤ al.length := List.length_filter_le _ _
          walk_at "go"
          refine ⟨da, x, kvs, al, _, rfl, e2124 _ _ hda21, hA21.nt (Same.nt e2124), by omega, hL.same e2124, fun r1 H25 kv1 e25 _ hr1 A1 => ?_⟩
          have e2125 := e2124.trans e25
          rw [led_lame ok hgn hA.nd good] at A1
          walk_at "go"
          refine ⟨pr, nl, kx, restF al n, ms, 1, rfl, e25 _ _ h24, A24.nt (Same.nt e25), by omega, SqL.of (e2125 _ _ hnl21), by omega, by omega, by omega, fun r2 H26 kv2 e26 _ hr2 A2 => ?_⟩
          have e2126 := e2125.trans e26
          rw [putOn_is ok.nd ndr] at A2
          refine ⟨r1, r2, kv1, kv2, _, _, rfl, rfl, e26 _ _ hr1, hr2, en_kd (A1.nt (Same.nt e26)).ents, en_kd A2.ents, ?_⟩
          rw [same_refl A2.nd]
          refine ⟨_, rfl, ?_⟩
          walk_at "go"
          have e1726 := e1721.trans e2126
          refine ⟨da, D, kvs, al, _, _, rfl, e2126 _ _ hda21, hA21.nt (Same.nt e2126), by omega, ⟨false, SqL.of (e1726 _ _ hD17)⟩, L2.Paired.mapP hE17 fun _ _ ⟨a, h1, h2⟩ => ⟨a, h1, h2.same e1726⟩, fun r3 H27 kv3 e27 _ hr3 A3 => ?_⟩
          rw [led_fold ok hA.nd good fun e he => eds_are he, eds_len, moved_all (ns := ms) fun s => by unfold sig; rw [shift_all ok.nd]] at A3
          walk_at "go"
          have e2127 := e2126.trans e27
          refine ⟨r3, da, kv3, kvs, _, _, rfl, rfl, hr3, e2127 _ _ hda21, en_kd A3.ents, en_kd (hA21.nt (Same.nt e2127)).ents, ?_⟩
          rw [same_refl A3.nd]
          refine ⟨_, rfl, ?_⟩
          walk_at "go"
          have bm : BM [s] H2 H27 := ((((((b3.trans (b4.trans b5)).same f6).trans b68).same e814).trans b15).same e16).trans (b17.same (e1721.trans e2127))
          exact ⟨_, _, _, _, _, _, _, _, _, _, _, _, _, _, rfl, e1.trans (same_new hs1 e2 bm)⟩
  · rintro σ H1 ⟨o1, o2, o3, o4, o5, o6, o7, o8, o9, o10, o11, o12, o13, o14, rfl, e1⟩
    walk_at "go"
    exact q H1
end
end K3
end W6_part
section M1_part
set_option Elab.async false
set_option linter.all false
set_option maxRecDepth 100000
set_option maxHeartbeats 0
namespace K3
open PySem PySem.Spec PyProof.Rows L2
theorem facts {P : Program} {w : World} {K : PySem.W.Frag} {h : Heap} {mg : Str → Option Value} {f : Addr} (X : K.In h) (G : h.Ns mainGlobals mg) (hfa : mg ("law" : Str) = some (.ref f)) (c : He.SaysD D.fa D.fn K) (e : ex K = true) :
    ∃ fd : FuncData, (∀ (s : Shared) (v : Value), BindsTo s fd ⟨[v], []⟩ [("_law_script", v)]) ∧ ∀ base : Heap, K.In base → base.Ns mainGlobals mg → FnOk P w K mg base L2.CX0 12 f fd ["_law_script"] (spLaw K) := by
  have T : Tx K mg := ⟨c, e, h, X, G⟩
  obtain ⟨fd, F⟩ := T.f_law
  have e2 := hfa.symm.trans T.g_law
  cases e2
  have b := FunD.bindsA (ps := ["_law_script"]) F fun _ _ _ _ _ _ us hl => match us, hl with | [_], _ => rfl
  exact ⟨fd, fun s v => b s [v] rfl, fun base _ _ => ok_law T F⟩
end K3
open PySem PySem.W PySem.Calls PyProof.Rows
theorem PySem.Challenge.cw_skiphall_k46_names_exchanged_holds : PySem.Challenge.rw_skiphall_k46_names_exchanged.Holds := by
  w_on; o_law
  refine HandSHeadRun.head_any (r := OpenLaw.row PySem.Challenge.rw_skiphall_k46_names_exchanged) (q := K3.qv) (H := K3.hookE 4) (ob := K3.ob 4) (M := 8000) (loose := K3.loose) (d := HandSHeadRun.topDef (OpenLaw.row PySem.Challenge.rw_skiphall_k46_names_exchanged).prog 74) (kwd := []) (K3.ob_eq 4)
    (by kernel_rfl) (fun s => by kernel_rfl) K3.run (by kernel_rfl) (by kernel_rfl) (by kernel_rfl) (by rfl) (by first | assumption | decide +kernel) (by decide +kernel) ⟨rfl, rfl, rfl, rfl, rfl, by decide +kernel⟩ ?hw ?hc
  case hw => w_witness2
  case hc =>
    refine L2.walk_ofE (l := PySem.Challenge.rw_skiphall_k46_names_exchanged) (n := 63) (k := 12) (x := "_law_script") (CX := L2.CX0) rfl (by decide) (by kernel_rfl) ⟨rfl, by decide, by decide⟩ ?F (fun _ _ _ _ z => z)
    intro w mg fa h Y G hmg0
    obtain ⟨K, KX, c, e⟩ := Y
    have hmg : mg ("law" : PySem.Str) = some (.ref fa) := by
      have e : (HandSHeadRun.topDef (OpenLaw.row PySem.Challenge.rw_skiphall_k46_names_exchanged).prog 74).name = ("law" : PySem.Str) := by kernel_rfl
      rw [← e]
      exact hmg0
    obtain ⟨fd, hb, hF⟩ := K3.facts (P := (PySem.Challenge.rw_skiphall_k46_names_exchanged).prog) (w := w) KX G hmg c e
    exact ⟨K, fd, K3.spLaw K, KX, hb, fun H a ns hl _ hS => ⟨a, ns, rfl, hS, hl, fun _ => rfl⟩, hF⟩
end M1_part
