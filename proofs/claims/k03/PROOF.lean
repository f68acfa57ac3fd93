import PyProof.Rows.All
import Wide.All
import OpenK.AllK
import Wide.FinOn
import KE.KStateDown
import HandS.Base
import HandS.Call
import HandS.Ends
import HandS.More
import HandS.Words
import HandS.WordsExc
import HandS.Defaults
import HandS.Head0
import HandS.Head1
import HandS.Head2
import HandS.HeadEnd
import HandS.HeadHook1
import HandS.HeadHook2
import HandS.ExcInit
import HandS.ExcField
import HandS.ExcIs
import PySem.Challenge.RW_skiphall_k03_what_may_be_spoken_of
import HandS.ForMost
import HandS.ForExc
import HandS.Walk
import HandS.IsInst
import HandS.TupAny
import HandS.MakeKwOnly
import HandS.DictComp
import HandS.SetKeys
import HandS.Flow
import PyProof.StrBlock2
import HandS.Wide
import PyProof.NeKinds
import HandS.Deep
import KE.KExcIs
import PyProof.Rows.CountFlat
import HandS.ExcOwn
import HandS.Exc
import HandS.DeepEq
section H0_part
set_option Elab.async false
set_option linter.all false
set_option maxRecDepth 100000
set_option maxHeartbeats 0
namespace K3
open PySem PySem.Spec PyProof.Rows L2
def top (i : Nat) : Stmt := PySem.Challenge.pw_skiphall_k03_what_may_be_spoken_of.main.body.getD i (.Pass ⟨0, 0, 0, 0⟩)
abbrev s__wall : Stmt := top 0
abbrev s_Is_init : Stmt := inClass (top 3) 0
abbrev s_Is_eq : Stmt := inClass (top 3) 1
abbrev s_Has_init : Stmt := inClass (top 4) 0
abbrev s_Has_eq : Stmt := inClass (top 4) 1
abbrev s_Above_init : Stmt := inClass (top 5) 0
abbrev s_Above_eq : Stmt := inClass (top 5) 1
abbrev s_Below_init : Stmt := inClass (top 6) 0
abbrev s_Below_eq : Stmt := inClass (top 6) 1
abbrev s_Not_init : Stmt := inClass (top 7) 0
abbrev s_Not_eq : Stmt := inClass (top 7) 1
abbrev s_Both_init : Stmt := inClass (top 8) 0
abbrev s_Both_eq : Stmt := inClass (top 8) 1
abbrev s_Either_init : Stmt := inClass (top 9) 0
abbrev s_Either_eq : Stmt := inClass (top 9) 1
abbrev s_simple_ones : Stmt := top 10
abbrev s_HallError_told : Stmt := inClass (top 12) 0
abbrev s_BadCount_init : Stmt := inClass (top 13) 0
abbrev s_BadCount_told : Stmt := inClass (top 13) 1
abbrev s_NoName_init : Stmt := inClass (top 14) 0
abbrev s_NoName_told : Stmt := inClass (top 14) 1
abbrev s_Twice_init : Stmt := inClass (top 15) 0
abbrev s_Twice_told : Stmt := inClass (top 15) 1
abbrev s_NoQuestion_init : Stmt := inClass (top 16) 0
abbrev s_NoQuestion_told : Stmt := inClass (top 16) 1
abbrev s_NoFit_init : Stmt := inClass (top 17) 0
abbrev s_NoFit_told : Stmt := inClass (top 17) 1
abbrev s_is_name : Stmt := top 22
abbrev s_refuse_no_name : Stmt := top 23
abbrev s_refuse_twice : Stmt := top 24
abbrev s_One_init : Stmt := inClass (top 31) 0
abbrev s_One_eq : Stmt := inClass (top 31) 1
abbrev s_Some_init : Stmt := inClass (top 32) 0
abbrev s_Some_eq : Stmt := inClass (top 32) 1
abbrev s_Number_init : Stmt := inClass (top 33) 0
abbrev s_Number_eq : Stmt := inClass (top 33) 1
abbrev s_Check_init : Stmt := inClass (top 34) 0
abbrev s_Check_eq : Stmt := inClass (top 34) 1
abbrev s_Section_init : Stmt := inClass (top 35) 0
abbrev s_Section_eq : Stmt := inClass (top 35) 1
abbrev s_Rounds_init : Stmt := inClass (top 36) 0
abbrev s_Rounds_eq : Stmt := inClass (top 36) 1
abbrev s_Form_init : Stmt := inClass (top 37) 0
abbrev s_Form_eq : Stmt := inClass (top 37) 1
abbrev s_Form_outline : Stmt := inClass (top 37) 2
abbrev s_Form_names : Stmt := inClass (top 37) 3
abbrev s_Form_question : Stmt := inClass (top 37) 4
abbrev s_Form_in_rounds : Stmt := inClass (top 37) 5
abbrev s_is_question : Stmt := top 38
abbrev s_is_named : Stmt := top 39
abbrev s_lay_out : Stmt := top 40
abbrev s_check_rows : Stmt := top 41
abbrev s_check_row : Stmt := top 42
abbrev s_check_name : Stmt := top 43
abbrev s_check_options : Stmt := top 44
abbrev s_refuse_options : Stmt := top 45
abbrev s_check_bounds : Stmt := top 46
abbrev s_check_inner_rows : Stmt := top 47
abbrev s_check_count : Stmt := top 48
abbrev s_check_conditions : Stmt := top 49
abbrev s_conditions_of : Stmt := top 50
abbrev s_question_ahead : Stmt := top 51
abbrev s_suits : Stmt := top 52
abbrev s__law_source : Stmt := top 54
abbrev s__law_take : Stmt := top 55
abbrev s__law_names : Stmt := top 56
abbrev s__law_simple : Stmt := top 57
abbrev s__law_condition : Stmt := top 58
abbrev s__law_perhaps : Stmt := top 59
abbrev s__law_question : Stmt := top 60
abbrev s__law_rows : Stmt := top 61
abbrev s__law_form : Stmt := top 62
abbrev s__law_made_condition : Stmt := top 63
abbrev s__law_made_row : Stmt := top 64
abbrev s__law_all : Stmt := top 65
abbrev s__law_spoilt_fields : Stmt := top 66
abbrev s__law_any_condition : Stmt := top 67
abbrev s__law_spoilt : Stmt := top 68
abbrev s__law_big : Stmt := top 69
abbrev s__law_is_name : Stmt := top 70
abbrev s__law_spoken : Stmt := top 71
abbrev s__law_heard : Stmt := top 72
abbrev s__law_conditions_amiss : Stmt := top 73
abbrev s__law_fields_amiss : Stmt := top 74
abbrev s__law_amiss : Stmt := top 75
abbrev s__law_due : Stmt := top 76
abbrev s__law_said : Stmt := top 77
abbrev s_law : Stmt := top 78
namespace D
def d__wall : He.DefD := ⟨("_wall", none), "_wall", "_wall", defArgs s__wall, defBody s__wall, defScope s__wall, [], []⟩
def d_Is_init : He.DefD := ⟨("Is", some "__init__"), "__init__", "Is.__init__", defArgs s_Is_init, defBody s_Is_init, defScope s_Is_init, [], []⟩
def d_Is_eq : He.DefD := ⟨("Is", some "__eq__"), "__eq__", "Is.__eq__", defArgs s_Is_eq, defBody s_Is_eq, defScope s_Is_eq, [], []⟩
def d_Has_init : He.DefD := ⟨("Has", some "__init__"), "__init__", "Has.__init__", defArgs s_Has_init, defBody s_Has_init, defScope s_Has_init, [], []⟩
def d_Has_eq : He.DefD := ⟨("Has", some "__eq__"), "__eq__", "Has.__eq__", defArgs s_Has_eq, defBody s_Has_eq, defScope s_Has_eq, [], []⟩
def d_Above_init : He.DefD := ⟨("Above", some "__init__"), "__init__", "Above.__init__", defArgs s_Above_init, defBody s_Above_init, defScope s_Above_init, [], []⟩
def d_Above_eq : He.DefD := ⟨("Above", some "__eq__"), "__eq__", "Above.__eq__", defArgs s_Above_eq, defBody s_Above_eq, defScope s_Above_eq, [], []⟩
def d_Below_init : He.DefD := ⟨("Below", some "__init__"), "__init__", "Below.__init__", defArgs s_Below_init, defBody s_Below_init, defScope s_Below_init, [], []⟩
def d_Below_eq : He.DefD := ⟨("Below", some "__eq__"), "__eq__", "Below.__eq__", defArgs s_Below_eq, defBody s_Below_eq, defScope s_Below_eq, [], []⟩
def d_Not_init : He.DefD := ⟨("Not", some "__init__"), "__init__", "Not.__init__", defArgs s_Not_init, defBody s_Not_init, defScope s_Not_init, [], []⟩
def d_Not_eq : He.DefD := ⟨("Not", some "__eq__"), "__eq__", "Not.__eq__", defArgs s_Not_eq, defBody s_Not_eq, defScope s_Not_eq, [], []⟩
def d_Both_init : He.DefD := ⟨("Both", some "__init__"), "__init__", "Both.__init__", defArgs s_Both_init, defBody s_Both_init, defScope s_Both_init, [], []⟩
def d_Both_eq : He.DefD := ⟨("Both", some "__eq__"), "__eq__", "Both.__eq__", defArgs s_Both_eq, defBody s_Both_eq, defScope s_Both_eq, [], []⟩
def d_Either_init : He.DefD := ⟨("Either", some "__init__"), "__init__", "Either.__init__", defArgs s_Either_init, defBody s_Either_init, defScope s_Either_init, [], []⟩
def d_Either_eq : He.DefD := ⟨("Either", some "__eq__"), "__eq__", "Either.__eq__", defArgs s_Either_eq, defBody s_Either_eq, defScope s_Either_eq, [], []⟩
def d_simple_ones : He.DefD := ⟨("simple_ones", none), "simple_ones", "simple_ones", defArgs s_simple_ones, defBody s_simple_ones, defScope s_simple_ones, [], []⟩
def d_HallError_told : He.DefD := ⟨("HallError", some "told"), "told", "HallError.told", defArgs s_HallError_told, defBody s_HallError_told, defScope s_HallError_told, [], []⟩
def d_BadCount_init : He.DefD := ⟨("BadCount", some "__init__"), "__init__", "BadCount.__init__", defArgs s_BadCount_init, defBody s_BadCount_init, defScope s_BadCount_init, [], []⟩
def d_BadCount_told : He.DefD := ⟨("BadCount", some "told"), "told", "BadCount.told", defArgs s_BadCount_told, defBody s_BadCount_told, defScope s_BadCount_told, [], []⟩
def d_NoName_init : He.DefD := ⟨("NoName", some "__init__"), "__init__", "NoName.__init__", defArgs s_NoName_init, defBody s_NoName_init, defScope s_NoName_init, [], []⟩
def d_NoName_told : He.DefD := ⟨("NoName", some "told"), "told", "NoName.told", defArgs s_NoName_told, defBody s_NoName_told, defScope s_NoName_told, [], []⟩
def d_Twice_init : He.DefD := ⟨("Twice", some "__init__"), "__init__", "Twice.__init__", defArgs s_Twice_init, defBody s_Twice_init, defScope s_Twice_init, [], []⟩
def d_Twice_told : He.DefD := ⟨("Twice", some "told"), "told", "Twice.told", defArgs s_Twice_told, defBody s_Twice_told, defScope s_Twice_told, [], []⟩
def d_NoQuestion_init : He.DefD := ⟨("NoQuestion", some "__init__"), "__init__", "NoQuestion.__init__", defArgs s_NoQuestion_init, defBody s_NoQuestion_init, defScope s_NoQuestion_init, [], []⟩
def d_NoQuestion_told : He.DefD := ⟨("NoQuestion", some "told"), "told", "NoQuestion.told", defArgs s_NoQuestion_told, defBody s_NoQuestion_told, defScope s_NoQuestion_told, [], []⟩
def d_NoFit_init : He.DefD := ⟨("NoFit", some "__init__"), "__init__", "NoFit.__init__", defArgs s_NoFit_init, defBody s_NoFit_init, defScope s_NoFit_init, [], []⟩
def d_NoFit_told : He.DefD := ⟨("NoFit", some "told"), "told", "NoFit.told", defArgs s_NoFit_told, defBody s_NoFit_told, defScope s_NoFit_told, [], []⟩
def d_is_name : He.DefD := ⟨("is_name", none), "is_name", "is_name", defArgs s_is_name, defBody s_is_name, defScope s_is_name, [], []⟩
def d_refuse_no_name : He.DefD := ⟨("refuse_no_name", none), "refuse_no_name", "refuse_no_name", defArgs s_refuse_no_name, defBody s_refuse_no_name, defScope s_refuse_no_name, [], []⟩
def d_refuse_twice : He.DefD := ⟨("refuse_twice", none), "refuse_twice", "refuse_twice", defArgs s_refuse_twice, defBody s_refuse_twice, defScope s_refuse_twice, [], []⟩
def d_One_init : He.DefD := ⟨("One", some "__init__"), "__init__", "One.__init__", defArgs s_One_init, defBody s_One_init, defScope s_One_init, [], [("where", .non)]⟩
def d_One_eq : He.DefD := ⟨("One", some "__eq__"), "__eq__", "One.__eq__", defArgs s_One_eq, defBody s_One_eq, defScope s_One_eq, [], []⟩
def d_Some_init : He.DefD := ⟨("Some", some "__init__"), "__init__", "Some.__init__", defArgs s_Some_init, defBody s_Some_init, defScope s_Some_init, [], [("where", .non)]⟩
def d_Some_eq : He.DefD := ⟨("Some", some "__eq__"), "__eq__", "Some.__eq__", defArgs s_Some_eq, defBody s_Some_eq, defScope s_Some_eq, [], []⟩
def d_Number_init : He.DefD := ⟨("Number", some "__init__"), "__init__", "Number.__init__", defArgs s_Number_init, defBody s_Number_init, defScope s_Number_init, [], [("where", .non)]⟩
def d_Number_eq : He.DefD := ⟨("Number", some "__eq__"), "__eq__", "Number.__eq__", defArgs s_Number_eq, defBody s_Number_eq, defScope s_Number_eq, [], []⟩
def d_Check_init : He.DefD := ⟨("Check", some "__init__"), "__init__", "Check.__init__", defArgs s_Check_init, defBody s_Check_init, defScope s_Check_init, [], [("where", .non)]⟩
def d_Check_eq : He.DefD := ⟨("Check", some "__eq__"), "__eq__", "Check.__eq__", defArgs s_Check_eq, defBody s_Check_eq, defScope s_Check_eq, [], []⟩
def d_Section_init : He.DefD := ⟨("Section", some "__init__"), "__init__", "Section.__init__", defArgs s_Section_init, defBody s_Section_init, defScope s_Section_init, [], [("where", .non)]⟩
def d_Section_eq : He.DefD := ⟨("Section", some "__eq__"), "__eq__", "Section.__eq__", defArgs s_Section_eq, defBody s_Section_eq, defScope s_Section_eq, [], []⟩
def d_Rounds_init : He.DefD := ⟨("Rounds", some "__init__"), "__init__", "Rounds.__init__", defArgs s_Rounds_init, defBody s_Rounds_init, defScope s_Rounds_init, [], [("where", .non)]⟩
def d_Rounds_eq : He.DefD := ⟨("Rounds", some "__eq__"), "__eq__", "Rounds.__eq__", defArgs s_Rounds_eq, defBody s_Rounds_eq, defScope s_Rounds_eq, [], []⟩
def d_Form_init : He.DefD := ⟨("Form", some "__init__"), "__init__", "Form.__init__", defArgs s_Form_init, defBody s_Form_init, defScope s_Form_init, [], []⟩
def d_Form_eq : He.DefD := ⟨("Form", some "__eq__"), "__eq__", "Form.__eq__", defArgs s_Form_eq, defBody s_Form_eq, defScope s_Form_eq, [], []⟩
def d_Form_outline : He.DefD := ⟨("Form", some "outline"), "outline", "Form.outline", defArgs s_Form_outline, defBody s_Form_outline, defScope s_Form_outline, [], []⟩
def d_Form_names : He.DefD := ⟨("Form", some "names"), "names", "Form.names", defArgs s_Form_names, defBody s_Form_names, defScope s_Form_names, [], []⟩
def d_Form_question : He.DefD := ⟨("Form", some "question"), "question", "Form.question", defArgs s_Form_question, defBody s_Form_question, defScope s_Form_question, [], []⟩
def d_Form_in_rounds : He.DefD := ⟨("Form", some "in_rounds"), "in_rounds", "Form.in_rounds", defArgs s_Form_in_rounds, defBody s_Form_in_rounds, defScope s_Form_in_rounds, [], []⟩
def d_is_question : He.DefD := ⟨("is_question", none), "is_question", "is_question", defArgs s_is_question, defBody s_is_question, defScope s_is_question, [], []⟩
def d_is_named : He.DefD := ⟨("is_named", none), "is_named", "is_named", defArgs s_is_named, defBody s_is_named, defScope s_is_named, [], []⟩
def d_lay_out : He.DefD := ⟨("lay_out", none), "lay_out", "lay_out", defArgs s_lay_out, defBody s_lay_out, defScope s_lay_out, [], []⟩
def d_check_rows : He.DefD := ⟨("check_rows", none), "check_rows", "check_rows", defArgs s_check_rows, defBody s_check_rows, defScope s_check_rows, [], []⟩
def d_check_row : He.DefD := ⟨("check_row", none), "check_row", "check_row", defArgs s_check_row, defBody s_check_row, defScope s_check_row, [], []⟩
def d_check_name : He.DefD := ⟨("check_name", none), "check_name", "check_name", defArgs s_check_name, defBody s_check_name, defScope s_check_name, [], []⟩
def d_check_options : He.DefD := ⟨("check_options", none), "check_options", "check_options", defArgs s_check_options, defBody s_check_options, defScope s_check_options, [], []⟩
def d_refuse_options : He.DefD := ⟨("refuse_options", none), "refuse_options", "refuse_options", defArgs s_refuse_options, defBody s_refuse_options, defScope s_refuse_options, [], []⟩
def d_check_bounds : He.DefD := ⟨("check_bounds", none), "check_bounds", "check_bounds", defArgs s_check_bounds, defBody s_check_bounds, defScope s_check_bounds, [], []⟩
def d_check_inner_rows : He.DefD := ⟨("check_inner_rows", none), "check_inner_rows", "check_inner_rows", defArgs s_check_inner_rows, defBody s_check_inner_rows, defScope s_check_inner_rows, [], []⟩
def d_check_count : He.DefD := ⟨("check_count", none), "check_count", "check_count", defArgs s_check_count, defBody s_check_count, defScope s_check_count, [], []⟩
def d_check_conditions : He.DefD := ⟨("check_conditions", none), "check_conditions", "check_conditions", defArgs s_check_conditions, defBody s_check_conditions, defScope s_check_conditions, [], []⟩
def d_conditions_of : He.DefD := ⟨("conditions_of", none), "conditions_of", "conditions_of", defArgs s_conditions_of, defBody s_conditions_of, defScope s_conditions_of, [], []⟩
def d_question_ahead : He.DefD := ⟨("question_ahead", none), "question_ahead", "question_ahead", defArgs s_question_ahead, defBody s_question_ahead, defScope s_question_ahead, [], []⟩
def d_suits : He.DefD := ⟨("suits", none), "suits", "suits", defArgs s_suits, defBody s_suits, defScope s_suits, [], []⟩
def d__law_source : He.DefD := ⟨("_law_source", none), "_law_source", "_law_source", defArgs s__law_source, defBody s__law_source, defScope s__law_source, [], []⟩
def d__law_take : He.DefD := ⟨("_law_take", none), "_law_take", "_law_take", defArgs s__law_take, defBody s__law_take, defScope s__law_take, [], []⟩
def d__law_names : He.DefD := ⟨("_law_names", none), "_law_names", "_law_names", defArgs s__law_names, defBody s__law_names, defScope s__law_names, [], []⟩
def d__law_simple : He.DefD := ⟨("_law_simple", none), "_law_simple", "_law_simple", defArgs s__law_simple, defBody s__law_simple, defScope s__law_simple, [], []⟩
def d__law_condition : He.DefD := ⟨("_law_condition", none), "_law_condition", "_law_condition", defArgs s__law_condition, defBody s__law_condition, defScope s__law_condition, [], []⟩
def d__law_perhaps : He.DefD := ⟨("_law_perhaps", none), "_law_perhaps", "_law_perhaps", defArgs s__law_perhaps, defBody s__law_perhaps, defScope s__law_perhaps, [], []⟩
def d__law_question : He.DefD := ⟨("_law_question", none), "_law_question", "_law_question", defArgs s__law_question, defBody s__law_question, defScope s__law_question, [], []⟩
def d__law_rows : He.DefD := ⟨("_law_rows", none), "_law_rows", "_law_rows", defArgs s__law_rows, defBody s__law_rows, defScope s__law_rows, [], []⟩
def d__law_form : He.DefD := ⟨("_law_form", none), "_law_form", "_law_form", defArgs s__law_form, defBody s__law_form, defScope s__law_form, [], []⟩
def d__law_made_condition : He.DefD := ⟨("_law_made_condition", none), "_law_made_condition", "_law_made_condition", defArgs s__law_made_condition, defBody s__law_made_condition, defScope s__law_made_condition, [], []⟩
def d__law_made_row : He.DefD := ⟨("_law_made_row", none), "_law_made_row", "_law_made_row", defArgs s__law_made_row, defBody s__law_made_row, defScope s__law_made_row, [], []⟩
def d__law_all : He.DefD := ⟨("_law_all", none), "_law_all", "_law_all", defArgs s__law_all, defBody s__law_all, defScope s__law_all, [], []⟩
def d__law_spoilt_fields : He.DefD := ⟨("_law_spoilt_fields", none), "_law_spoilt_fields", "_law_spoilt_fields", defArgs s__law_spoilt_fields, defBody s__law_spoilt_fields, defScope s__law_spoilt_fields, [], []⟩
def d__law_any_condition : He.DefD := ⟨("_law_any_condition", none), "_law_any_condition", "_law_any_condition", defArgs s__law_any_condition, defBody s__law_any_condition, defScope s__law_any_condition, [], []⟩
def d__law_spoilt : He.DefD := ⟨("_law_spoilt", none), "_law_spoilt", "_law_spoilt", defArgs s__law_spoilt, defBody s__law_spoilt, defScope s__law_spoilt, [], []⟩
def d__law_big : He.DefD := ⟨("_law_big", none), "_law_big", "_law_big", defArgs s__law_big, defBody s__law_big, defScope s__law_big, [], []⟩
def d__law_is_name : He.DefD := ⟨("_law_is_name", none), "_law_is_name", "_law_is_name", defArgs s__law_is_name, defBody s__law_is_name, defScope s__law_is_name, [], []⟩
def d__law_spoken : He.DefD := ⟨("_law_spoken", none), "_law_spoken", "_law_spoken", defArgs s__law_spoken, defBody s__law_spoken, defScope s__law_spoken, [], []⟩
def d__law_heard : He.DefD := ⟨("_law_heard", none), "_law_heard", "_law_heard", defArgs s__law_heard, defBody s__law_heard, defScope s__law_heard, [], []⟩
def d__law_conditions_amiss : He.DefD := ⟨("_law_conditions_amiss", none), "_law_conditions_amiss", "_law_conditions_amiss", defArgs s__law_conditions_amiss, defBody s__law_conditions_amiss, defScope s__law_conditions_amiss, [], []⟩
def d__law_fields_amiss : He.DefD := ⟨("_law_fields_amiss", none), "_law_fields_amiss", "_law_fields_amiss", defArgs s__law_fields_amiss, defBody s__law_fields_amiss, defScope s__law_fields_amiss, [], []⟩
def d__law_amiss : He.DefD := ⟨("_law_amiss", none), "_law_amiss", "_law_amiss", defArgs s__law_amiss, defBody s__law_amiss, defScope s__law_amiss, [], []⟩
def d__law_due : He.DefD := ⟨("_law_due", none), "_law_due", "_law_due", defArgs s__law_due, defBody s__law_due, defScope s__law_due, [], []⟩
def d__law_said : He.DefD := ⟨("_law_said", none), "_law_said", "_law_said", defArgs s__law_said, defBody s__law_said, defScope s__law_said, [], []⟩
def d_law : He.DefD := ⟨("law", none), "law", "law", defArgs s_law, defBody s_law, defScope s_law, [], []⟩
def fn : List He.DefD := [d__wall, d_Is_init, d_Is_eq, d_Has_init, d_Has_eq, d_Above_init, d_Above_eq, d_Below_init, d_Below_eq, d_Not_init, d_Not_eq, d_Both_init, d_Both_eq, d_Either_init, d_Either_eq, d_simple_ones, d_HallError_told, d_BadCount_init, d_BadCount_told, d_NoName_init, d_NoName_told, d_Twice_init, d_Twice_told, d_NoQuestion_init, d_NoQuestion_told, d_NoFit_init, d_NoFit_told, d_is_name, d_refuse_no_name, d_refuse_twice, d_One_init, d_One_eq, d_Some_init, d_Some_eq, d_Number_init, d_Number_eq, d_Check_init, d_Check_eq, d_Section_init, d_Section_eq, d_Rounds_init, d_Rounds_eq, d_Form_init, d_Form_eq, d_Form_outline, d_Form_names, d_Form_question, d_Form_in_rounds, d_is_question, d_is_named, d_lay_out, d_check_rows, d_check_row, d_check_name, d_check_options, d_refuse_options, d_check_bounds, d_check_inner_rows, d_check_count, d_check_conditions, d_conditions_of, d_question_ahead, d_suits, d__law_source, d__law_take, d__law_names, d__law_simple, d__law_condition, d__law_perhaps, d__law_question, d__law_rows, d__law_form, d__law_made_condition, d__law_made_row, d__law_all, d__law_spoilt_fields, d__law_any_condition, d__law_spoilt, d__law_big, d__law_is_name, d__law_spoken, d__law_heard, d__law_conditions_amiss, d__law_fields_amiss, d__law_amiss, d__law_due, d__law_said, d_law]
def fa : List He.Fa := [.glo "_wall",
  .glo "Condition",
  .keep "Condition",
  .glo "Is",
  .keep "Is",
  .glo "Has",
  .keep "Has",
  .glo "Above",
  .keep "Above",
  .glo "Below",
  .keep "Below",
  .glo "Not",
  .keep "Not",
  .glo "Both",
  .keep "Both",
  .glo "Either",
  .keep "Either",
  .glo "simple_ones",
  .glo "HallError",
  .keep "HallError",
  .glo "BadCount",
  .keep "BadCount",
  .glo "NoName",
  .keep "NoName",
  .glo "Twice",
  .keep "Twice",
  .glo "NoQuestion",
  .keep "NoQuestion",
  .glo "NoFit",
  .keep "NoFit",
  .str "FIGURES" "0123456789",
  .str "LETTERS" "abcdefghijklmnopqrstuvwxyz",
  .int "LONGEST_NAME" 8,
  .glo "is_name",
  .glo "refuse_no_name",
  .glo "refuse_twice",
  .int "MOST_ROWS" 40,
  .int "MOST_OPTIONS_OF_ONE" 6,
  .int "MOST_OPTIONS_OF_SOME" 4,
  .int "MOST_ROUNDS" 4,
  .glo "Row",
  .keep "Row",
  .glo "One",
  .keep "One",
  .glo "Some",
  .keep "Some",
  .glo "Number",
  .keep "Number",
  .glo "Check",
  .keep "Check",
  .glo "Section",
  .keep "Section",
  .glo "Rounds",
  .keep "Rounds",
  .glo "Form",
  .keep "Form",
  .glo "is_question",
  .glo "is_named",
  .glo "lay_out",
  .glo "check_rows",
  .glo "check_row",
  .glo "check_name",
  .glo "check_options",
  .glo "refuse_options",
  .glo "check_bounds",
  .glo "check_inner_rows",
  .glo "check_count",
  .glo "check_conditions",
  .glo "conditions_of",
  .glo "question_ahead",
  .glo "suits",
  .glo "_law_source",
  .glo "_law_take",
  .glo "_law_names",
  .glo "_law_simple",
  .glo "_law_condition",
  .glo "_law_perhaps",
  .glo "_law_question",
  .glo "_law_rows",
  .glo "_law_form",
  .glo "_law_made_condition",
  .glo "_law_made_row",
  .glo "_law_all",
  .glo "_law_spoilt_fields",
  .glo "_law_any_condition",
  .glo "_law_spoilt",
  .glo "_law_big",
  .glo "_law_is_name",
  .glo "_law_spoken",
  .glo "_law_heard",
  .glo "_law_conditions_amiss",
  .glo "_law_fields_amiss",
  .glo "_law_amiss",
  .glo "_law_due",
  .glo "_law_said",
  .glo "law",
  .free "ValueError",
  .free "abs",
  .free "all",
  .free "enumerate",
  .free "int",
  .free "isinstance",
  .free "len",
  .free "list",
  .free "range",
  .free "set",
  .free "str",
  .free "tuple",
  .cls "Is",
  .mkr "Is",
  .noat "Is" "name",
  .noat "Is" "option",
  .meth "Is" "__init__",
  .meth "Is" "__eq__",
  .cls "Has",
  .mkr "Has",
  .noat "Has" "name",
  .noat "Has" "option",
  .meth "Has" "__init__",
  .meth "Has" "__eq__",
  .cls "Above",
  .mkr "Above",
  .noat "Above" "name",
  .noat "Above" "number",
  .meth "Above" "__init__",
  .meth "Above" "__eq__",
  .cls "Below",
  .mkr "Below",
  .noat "Below" "name",
  .noat "Below" "number",
  .meth "Below" "__init__",
  .meth "Below" "__eq__",
  .cls "Not",
  .mkr "Not",
  .noat "Not" "inner",
  .meth "Not" "__init__",
  .meth "Not" "__eq__",
  .cls "Both",
  .mkr "Both",
  .noat "Both" "left",
  .noat "Both" "right",
  .meth "Both" "__init__",
  .meth "Both" "__eq__",
  .cls "Either",
  .mkr "Either",
  .noat "Either" "left",
  .noat "Either" "right",
  .meth "Either" "__init__",
  .meth "Either" "__eq__",
  .noat "BadCount" "what",
  .noat "BadCount" "count",
  .meth "BadCount" "__init__",
  .noat "NoName" "name",
  .meth "NoName" "__init__",
  .noat "Twice" "name",
  .meth "Twice" "__init__",
  .noat "NoQuestion" "name",
  .meth "NoQuestion" "__init__",
  .noat "NoFit" "name",
  .meth "NoFit" "__init__",
  .cls "One",
  .mkr "One",
  .noat "One" "name",
  .noat "One" "options",
  .noat "One" "where",
  .meth "One" "__init__",
  .meth "One" "__eq__",
  .cls "Some",
  .mkr "Some",
  .noat "Some" "name",
  .noat "Some" "options",
  .noat "Some" "where",
  .meth "Some" "__init__",
  .meth "Some" "__eq__",
  .cls "Number",
  .mkr "Number",
  .noat "Number" "name",
  .noat "Number" "low",
  .noat "Number" "high",
  .noat "Number" "where",
  .meth "Number" "__init__",
  .meth "Number" "__eq__",
  .cls "Check",
  .mkr "Check",
  .noat "Check" "name",
  .noat "Check" "must",
  .noat "Check" "where",
  .meth "Check" "__init__",
  .meth "Check" "__eq__",
  .cls "Section",
  .mkr "Section",
  .noat "Section" "rows",
  .noat "Section" "where",
  .meth "Section" "__init__",
  .meth "Section" "__eq__",
  .cls "Rounds",
  .mkr "Rounds",
  .noat "Rounds" "count",
  .noat "Rounds" "rows",
  .noat "Rounds" "where",
  .meth "Rounds" "__init__",
  .meth "Rounds" "__eq__",
  .cls "Form",
  .mkr "Form",
  .noat "Form" "rows",
  .noat "Form" "questions",
  .noat "Form" "repeated",
  .meth "Form" "__init__",
  .meth "Form" "__eq__",
  .meth "Form" "outline",
  .meth "Form" "names",
  .meth "Form" "question",
  .meth "Form" "in_rounds"]
end D
/-! ### what an own exception class with its __init__ says -/
def oexB (K : PySem.W.Frag) (C : Addr) : Bool := (match K.lookup C with
  | some ⟨.type "type", _, .cls cd, sl⟩ => (match cd.mro, sl.toList with
    | .ref C' :: bm, [_, _, _, _, some (.builtin n), _] => C' == C && (n == "ValueError.__new__" && (!cd.hasDel && (cd.hasDict && PySem.HandSPX.refsVE bm)))
    | _, _ => false)
  | _ => false) && (eqB (PySem.W.findIn K (.ref C) "__setattr__") (some (some (.builtin "object.__setattr__"))) && (eqB (PySem.W.subIn K (.ref C) (.type "BaseException")) (some true) && (eqB (PySem.W.typeIn K (.ref C)) (some (.type "type")) && PySem.W.keepIn K (.ref C))))
where eqB {α : Type} [DecidableEq α] (a b : α) : Bool := decide (a = b)
/-! done -/
end K3
end H0_part
section HX_part
set_option Elab.async false
set_option linter.all false
set_option maxRecDepth 100000
set_option maxHeartbeats 0
namespace K3
open PySem PySem.Spec PyProof.Rows L2
/-! ### further facts of the written part, as Bools -/
def eqB {α : Type} [DecidableEq α] (a b : α) : Bool := decide (a = b)
theorem eqB_ok {α : Type} [DecidableEq α] {a b : α} (h : eqB a b = true) : a = b := of_decide_eq_true h
def kclsB (K : PySem.W.Frag) (C : Addr) : Bool := eqB (PySem.W.findIn K (.ref C) "__class__") (some (some (.builtin "object.__class__"))) && eqB (PySem.W.mroIn K C (.type "object")) (some true)
def getsetB (K : PySem.W.Frag) : Bool := eqB (PySem.W.specialIn K (.builtin "object.__class__") "__get__") (some (some (.builtin "getset_descriptor.__get__"))) && eqB (PySem.W.takesIn K (.builtin "object.__class__")) (some true)
def oexcB (K : PySem.W.Frag) (C : Addr) : Bool := match K.lookup C with
  | some ⟨.type "type", _, .cls cd, sl⟩ => (match cd.mro, sl.toList with
    | .ref C' :: bm, [_, _, _, _, some (.builtin n), _] => C' == C && (n == "ValueError.__new__" && (!cd.hasDel && (cd.hasDict && PySem.HandSPX.refsVE bm)))
    | _, _ => false)
  | _ => false
def excB (K : PySem.W.Frag) (C : Addr) : Bool := oexcB K C && (eqB (PySem.W.findIn K (.ref C) "__setattr__") (some (some (.builtin "object.__setattr__"))) && (eqB (PySem.W.typeIn K (.ref C)) (some (.type "type")) && (PySem.W.keepIn K (.ref C) && xfB K C)))
def kitB2 (K : PySem.W.Frag) (x y : Str) : Bool := eqB (PySem.W.kitOne K (.ref (He.ga K x)) (.ref (He.ga K y))) (some (x == y))
def errN : List Str := [("BadCount" : Str), ("NoName" : Str), ("Twice" : Str), ("NoQuestion" : Str), ("NoFit" : Str)]
def cndN : List Str := [("Is" : Str), ("Has" : Str), ("Above" : Str), ("Below" : Str), ("Not" : Str), ("Both" : Str), ("Either" : Str)]
def cndT : List Str := [("Is" : Str), ("Has" : Str), ("Not" : Str), ("Both" : Str), ("Either" : Str)]
def rowN : List Str := [("One" : Str), ("Some" : Str), ("Number" : Str), ("Check" : Str), ("Section" : Str), ("Rounds" : Str)]
def ex (K : PySem.W.Frag) : Bool :=
  getsetB K && ((errN.all fun x => excB K (He.ga K x) && (kclsB K (He.ga K x) && (eqB (PySem.W.exmOne K (.ref (He.ga K x)) (.ref (He.ga K "HallError"))) (some true) && (eqB (PySem.W.kitOne K (.ref (He.ga K x)) (.type "ValueError")) (some true) && errN.all fun y => kitB2 K x y)))) &&
  ((cndN.all fun x => kclsB K (He.ga K x) && cndT.all fun y => kitB2 K x y) && (rowN.all fun x => kclsB K (He.ga K x) && rowN.all fun y => kitB2 K x y)))
/-! ### the Hook -/
def hookE (n : Nat) : PySem.W.Hook where
  α := He.AlD × Bool
  obs := fun s => (He.obsDG n D.fa D.fn s.heap.get?, ex (He.frG s.heap.get? (He.asD s.heap.get? n)))
  val := fun _ => (He.valD D.fn, true)
  says := fun _ h => ∃ K : PySem.W.Frag, K.In h ∧ He.SaysD D.fa D.fn K ∧ ex K = true
  of := fun _ h e => ⟨_, He.frG_in, congrArg Prod.fst e, congrArg Prod.snd e⟩
  keeps := fun _ _ _ ⟨K, hK, c⟩ k => ⟨K, PySem.W.Frag.In.keeps hK k, c⟩
def ob (n : Nat) (s : PySem.W.SharedT) : He.AlD × Bool := (He.obsDG n D.fa D.fn (HandSHeadRun.getT s), ex (He.frG (HandSHeadRun.getT s) (He.asD (HandSHeadRun.getT s) n)))
theorem ob_eq (n : Nat) (s : PySem.W.SharedT) : ob n s = (hookE n).obs s.abs := by
  have e : HandSHeadRun.getT s = s.abs.heap.get? := funext (HandSHeadRun.getT_eq s)
  unfold ob
  rw [e] <;> rfl
end K3
end HX_part
section H1_part
set_option Elab.async false
set_option linter.all false
set_option maxRecDepth 100000
set_option maxHeartbeats 0
namespace K3
open PySem PySem.Spec PyProof.Rows L2 PySem.W PySem.Calls HandSHeadRun
abbrev R : PySem.W.OpenRow := PySem.W.OpenLaw.row PySem.Challenge.rw_skiphall_k03_what_may_be_spoken_of
def loose1 : List Str := [("_wall" : Str), ("Condition" : Str), ("Is" : Str), ("Has" : Str), ("Above" : Str), ("Below" : Str), ("Not" : Str), ("Both" : Str), ("Either" : Str), ("simple_ones" : Str), ("HallError" : Str), ("BadCount" : Str), ("NoName" : Str), ("Twice" : Str), ("NoQuestion" : Str), ("NoFit" : Str), ("LETTERS" : Str), ("FIGURES" : Str), ("LONGEST_NAME" : Str), ("is_name" : Str), ("refuse_no_name" : Str), ("refuse_twice" : Str), ("MOST_ROWS" : Str), ("MOST_OPTIONS_OF_ONE" : Str), ("MOST_OPTIONS_OF_SOME" : Str), ("MOST_ROUNDS" : Str), ("Row" : Str), ("One" : Str), ("Some" : Str), ("Number" : Str), ("Check" : Str), ("Section" : Str), ("Rounds" : Str), ("Form" : Str), ("is_question" : Str), ("is_named" : Str), ("lay_out" : Str)]
def loose2 : List Str := [("check_rows" : Str), ("check_row" : Str), ("check_name" : Str), ("check_options" : Str), ("refuse_options" : Str), ("check_bounds" : Str), ("check_inner_rows" : Str), ("check_count" : Str), ("check_conditions" : Str), ("conditions_of" : Str), ("question_ahead" : Str), ("suits" : Str), ("_law_source" : Str), ("_law_take" : Str), ("_law_names" : Str), ("_law_simple" : Str), ("_law_condition" : Str), ("_law_perhaps" : Str), ("_law_question" : Str), ("_law_rows" : Str), ("_law_form" : Str), ("_law_made_condition" : Str), ("_law_made_row" : Str), ("_law_all" : Str), ("_law_spoilt_fields" : Str), ("_law_any_condition" : Str), ("_law_spoilt" : Str), ("_law_big" : Str), ("_law_is_name" : Str), ("_law_spoken" : Str), ("_law_heard" : Str), ("_law_conditions_amiss" : Str), ("_law_fields_amiss" : Str), ("_law_amiss" : Str), ("_law_due" : Str), ("_law_said" : Str)]
def loose : List Str := loose1 ++ loose2
abbrev qv : Program := PySem.W.view R.prog [78]
/-! the head's run, looked at three times: one run with all three looks wants more memory than there is -/
theorem run1 (w : World) (os : OsState) : (endF (stepQ (denQ tabQ) R.prog w) 8000 R.prog w os).map (fun s => looksF R.prog (boot_heap w.params) s.abs) = some true := by
  kernel_rfl
theorem run2 (w : World) (os : OsState) : (endF (stepQ (denQ tabQ) R.prog w) 8000 R.prog w os).map (fun s => seenQ qv loose (importedModules R.prog.main.body) (fun s => xlAt qv [] s && recOk R.toRowW.records s) s.abs) = some (openGood qv loose) := by
  kernel_rfl
theorem run3 (w : World) (os : OsState) : (endF (stepQ (denQ tabQ) R.prog w) 8000 R.prog w os).map (fun s => ob 4 s) = some ((hookE 4).val w) := by
  kernel_rfl
theorem join3 {α A B C : Type} {f : α → A} {g : α → B} {h : α → C} {a : A} {b : B} {c : C} : ∀ {o : Option α}, o.map f = some a → o.map g = some b → o.map h = some c → o.map (fun s => (f s, g s, h s)) = some (a, b, c)
  | none, h1, _, _ => by cases h1
  | some s, h1, h2, h3 => by
    have e1 := Option.some.inj h1
    have e2 := Option.some.inj h2
    have e3 := Option.some.inj h3
    show some (f s, g s, h s) = _
    rw [e1, e2, e3]
theorem run (w : World) : HandSHeadRun.RunEq R qv (hookE 4) (ob 4) 8000 loose w := fun os => join3 (run1 w os) (run2 w os) (run3 w os)
end K3
end H1_part
section A0_part
set_option Elab.async false
set_option linter.all false
set_option maxRecDepth 100000
set_option maxHeartbeats 0
namespace K3
open PySem PySem.Spec PyProof.Rows L2
/-- what the top has written -/
structure Tx (K : PySem.W.Frag) (mg : Str → Option Value) : Prop where
  c : He.SaysD D.fa D.fn K
  e : ex K = true
  h : ∃ h : Heap, K.In h ∧ h.Ns mainGlobals mg
section
variable {K : PySem.W.Frag} {mg : Str → Option Value}
theorem Tx.glo (T : Tx K mg) {x : Str} (c : (He.Fa.glo x).ok K = true) : mg x = some (.ref (He.ga K x)) := by
  obtain ⟨h, X, G⟩ := T.h
  exact He.glo_ok X G c
theorem Tx.free (T : Tx K mg) {x : Str} (c : (He.Fa.free x).ok K = true) : mg x = none := by
  obtain ⟨h, X, G⟩ := T.h
  exact He.free_ok X G c
theorem Tx.int (T : Tx K mg) {x : Str} {i : Int} (c : (He.Fa.int x i).ok K = true) : ∃ t, mg x = some (.int i t) := by
  obtain ⟨h, X, G⟩ := T.h
  exact He.int_ok X G c
theorem Tx.str (T : Tx K mg) {x z : Str} (c : (He.Fa.str x z).ok K = true) : ∃ t, mg x = some (.str z t) := by
  obtain ⟨h, X, G⟩ := T.h
  exact He.str_ok X G c
theorem Tx.g__wall (T : Tx K mg) : mg "_wall" = some (.ref (He.ga K "_wall")) := T.glo (T.c.fact 0 rfl)
theorem Tx.g_Condition (T : Tx K mg) : mg "Condition" = some (.ref (He.ga K "Condition")) := T.glo (T.c.fact 1 rfl)
theorem Tx.k_Condition (T : Tx K mg) : PySem.W.keepIn K (.ref (He.ga K "Condition")) = true := He.keep_ok (x := "Condition") (T.c.fact 2 rfl)
theorem Tx.g_Is (T : Tx K mg) : mg "Is" = some (.ref (He.ga K "Is")) := T.glo (T.c.fact 3 rfl)
theorem Tx.k_Is (T : Tx K mg) : PySem.W.keepIn K (.ref (He.ga K "Is")) = true := He.keep_ok (x := "Is") (T.c.fact 4 rfl)
theorem Tx.g_Has (T : Tx K mg) : mg "Has" = some (.ref (He.ga K "Has")) := T.glo (T.c.fact 5 rfl)
theorem Tx.k_Has (T : Tx K mg) : PySem.W.keepIn K (.ref (He.ga K "Has")) = true := He.keep_ok (x := "Has") (T.c.fact 6 rfl)
theorem Tx.g_Above (T : Tx K mg) : mg "Above" = some (.ref (He.ga K "Above")) := T.glo (T.c.fact 7 rfl)
theorem Tx.k_Above (T : Tx K mg) : PySem.W.keepIn K (.ref (He.ga K "Above")) = true := He.keep_ok (x := "Above") (T.c.fact 8 rfl)
theorem Tx.g_Below (T : Tx K mg) : mg "Below" = some (.ref (He.ga K "Below")) := T.glo (T.c.fact 9 rfl)
theorem Tx.k_Below (T : Tx K mg) : PySem.W.keepIn K (.ref (He.ga K "Below")) = true := He.keep_ok (x := "Below") (T.c.fact 10 rfl)
theorem Tx.g_Not (T : Tx K mg) : mg "Not" = some (.ref (He.ga K "Not")) := T.glo (T.c.fact 11 rfl)
theorem Tx.k_Not (T : Tx K mg) : PySem.W.keepIn K (.ref (He.ga K "Not")) = true := He.keep_ok (x := "Not") (T.c.fact 12 rfl)
theorem Tx.g_Both (T : Tx K mg) : mg "Both" = some (.ref (He.ga K "Both")) := T.glo (T.c.fact 13 rfl)
theorem Tx.k_Both (T : Tx K mg) : PySem.W.keepIn K (.ref (He.ga K "Both")) = true := He.keep_ok (x := "Both") (T.c.fact 14 rfl)
theorem Tx.g_Either (T : Tx K mg) : mg "Either" = some (.ref (He.ga K "Either")) := T.glo (T.c.fact 15 rfl)
theorem Tx.k_Either (T : Tx K mg) : PySem.W.keepIn K (.ref (He.ga K "Either")) = true := He.keep_ok (x := "Either") (T.c.fact 16 rfl)
theorem Tx.g_simple_ones (T : Tx K mg) : mg "simple_ones" = some (.ref (He.ga K "simple_ones")) := T.glo (T.c.fact 17 rfl)
theorem Tx.g_HallError (T : Tx K mg) : mg "HallError" = some (.ref (He.ga K "HallError")) := T.glo (T.c.fact 18 rfl)
theorem Tx.k_HallError (T : Tx K mg) : PySem.W.keepIn K (.ref (He.ga K "HallError")) = true := He.keep_ok (x := "HallError") (T.c.fact 19 rfl)
theorem Tx.g_BadCount (T : Tx K mg) : mg "BadCount" = some (.ref (He.ga K "BadCount")) := T.glo (T.c.fact 20 rfl)
theorem Tx.k_BadCount (T : Tx K mg) : PySem.W.keepIn K (.ref (He.ga K "BadCount")) = true := He.keep_ok (x := "BadCount") (T.c.fact 21 rfl)
theorem Tx.g_NoName (T : Tx K mg) : mg "NoName" = some (.ref (He.ga K "NoName")) := T.glo (T.c.fact 22 rfl)
theorem Tx.k_NoName (T : Tx K mg) : PySem.W.keepIn K (.ref (He.ga K "NoName")) = true := He.keep_ok (x := "NoName") (T.c.fact 23 rfl)
theorem Tx.g_Twice (T : Tx K mg) : mg "Twice" = some (.ref (He.ga K "Twice")) := T.glo (T.c.fact 24 rfl)
theorem Tx.k_Twice (T : Tx K mg) : PySem.W.keepIn K (.ref (He.ga K "Twice")) = true := He.keep_ok (x := "Twice") (T.c.fact 25 rfl)
theorem Tx.g_NoQuestion (T : Tx K mg) : mg "NoQuestion" = some (.ref (He.ga K "NoQuestion")) := T.glo (T.c.fact 26 rfl)
theorem Tx.k_NoQuestion (T : Tx K mg) : PySem.W.keepIn K (.ref (He.ga K "NoQuestion")) = true := He.keep_ok (x := "NoQuestion") (T.c.fact 27 rfl)
theorem Tx.g_NoFit (T : Tx K mg) : mg "NoFit" = some (.ref (He.ga K "NoFit")) := T.glo (T.c.fact 28 rfl)
theorem Tx.k_NoFit (T : Tx K mg) : PySem.W.keepIn K (.ref (He.ga K "NoFit")) = true := He.keep_ok (x := "NoFit") (T.c.fact 29 rfl)
theorem Tx.s_FIGURES (T : Tx K mg) : ∃ t, mg "FIGURES" = some (.str "0123456789" t) := T.str (T.c.fact 30 rfl)
theorem Tx.s_LETTERS (T : Tx K mg) : ∃ t, mg "LETTERS" = some (.str "abcdefghijklmnopqrstuvwxyz" t) := T.str (T.c.fact 31 rfl)
theorem Tx.i_LONGEST_NAME (T : Tx K mg) : ∃ t, mg "LONGEST_NAME" = some (.int 8 t) := T.int (T.c.fact 32 rfl)
theorem Tx.g_is_name (T : Tx K mg) : mg "is_name" = some (.ref (He.ga K "is_name")) := T.glo (T.c.fact 33 rfl)
theorem Tx.g_refuse_no_name (T : Tx K mg) : mg "refuse_no_name" = some (.ref (He.ga K "refuse_no_name")) := T.glo (T.c.fact 34 rfl)
theorem Tx.g_refuse_twice (T : Tx K mg) : mg "refuse_twice" = some (.ref (He.ga K "refuse_twice")) := T.glo (T.c.fact 35 rfl)
theorem Tx.i_MOST_ROWS (T : Tx K mg) : ∃ t, mg "MOST_ROWS" = some (.int 40 t) := T.int (T.c.fact 36 rfl)
theorem Tx.i_MOST_OPTIONS_OF_ONE (T : Tx K mg) : ∃ t, mg "MOST_OPTIONS_OF_ONE" = some (.int 6 t) := T.int (T.c.fact 37 rfl)
theorem Tx.i_MOST_OPTIONS_OF_SOME (T : Tx K mg) : ∃ t, mg "MOST_OPTIONS_OF_SOME" = some (.int 4 t) := T.int (T.c.fact 38 rfl)
theorem Tx.i_MOST_ROUNDS (T : Tx K mg) : ∃ t, mg "MOST_ROUNDS" = some (.int 4 t) := T.int (T.c.fact 39 rfl)
theorem Tx.g_Row (T : Tx K mg) : mg "Row" = some (.ref (He.ga K "Row")) := T.glo (T.c.fact 40 rfl)
theorem Tx.k_Row (T : Tx K mg) : PySem.W.keepIn K (.ref (He.ga K "Row")) = true := He.keep_ok (x := "Row") (T.c.fact 41 rfl)
theorem Tx.g_One (T : Tx K mg) : mg "One" = some (.ref (He.ga K "One")) := T.glo (T.c.fact 42 rfl)
theorem Tx.k_One (T : Tx K mg) : PySem.W.keepIn K (.ref (He.ga K "One")) = true := He.keep_ok (x := "One") (T.c.fact 43 rfl)
theorem Tx.g_Some (T : Tx K mg) : mg "Some" = some (.ref (He.ga K "Some")) := T.glo (T.c.fact 44 rfl)
theorem Tx.k_Some (T : Tx K mg) : PySem.W.keepIn K (.ref (He.ga K "Some")) = true := He.keep_ok (x := "Some") (T.c.fact 45 rfl)
theorem Tx.g_Number (T : Tx K mg) : mg "Number" = some (.ref (He.ga K "Number")) := T.glo (T.c.fact 46 rfl)
theorem Tx.k_Number (T : Tx K mg) : PySem.W.keepIn K (.ref (He.ga K "Number")) = true := He.keep_ok (x := "Number") (T.c.fact 47 rfl)
theorem Tx.g_Check (T : Tx K mg) : mg "Check" = some (.ref (He.ga K "Check")) := T.glo (T.c.fact 48 rfl)
theorem Tx.k_Check (T : Tx K mg) : PySem.W.keepIn K (.ref (He.ga K "Check")) = true := He.keep_ok (x := "Check") (T.c.fact 49 rfl)
theorem Tx.g_Section (T : Tx K mg) : mg "Section" = some (.ref (He.ga K "Section")) := T.glo (T.c.fact 50 rfl)
theorem Tx.k_Section (T : Tx K mg) : PySem.W.keepIn K (.ref (He.ga K "Section")) = true := He.keep_ok (x := "Section") (T.c.fact 51 rfl)
theorem Tx.g_Rounds (T : Tx K mg) : mg "Rounds" = some (.ref (He.ga K "Rounds")) := T.glo (T.c.fact 52 rfl)
theorem Tx.k_Rounds (T : Tx K mg) : PySem.W.keepIn K (.ref (He.ga K "Rounds")) = true := He.keep_ok (x := "Rounds") (T.c.fact 53 rfl)
theorem Tx.g_Form (T : Tx K mg) : mg "Form" = some (.ref (He.ga K "Form")) := T.glo (T.c.fact 54 rfl)
theorem Tx.k_Form (T : Tx K mg) : PySem.W.keepIn K (.ref (He.ga K "Form")) = true := He.keep_ok (x := "Form") (T.c.fact 55 rfl)
theorem Tx.g_is_question (T : Tx K mg) : mg "is_question" = some (.ref (He.ga K "is_question")) := T.glo (T.c.fact 56 rfl)
theorem Tx.g_is_named (T : Tx K mg) : mg "is_named" = some (.ref (He.ga K "is_named")) := T.glo (T.c.fact 57 rfl)
theorem Tx.g_lay_out (T : Tx K mg) : mg "lay_out" = some (.ref (He.ga K "lay_out")) := T.glo (T.c.fact 58 rfl)
theorem Tx.g_check_rows (T : Tx K mg) : mg "check_rows" = some (.ref (He.ga K "check_rows")) := T.glo (T.c.fact 59 rfl)
theorem Tx.g_check_row (T : Tx K mg) : mg "check_row" = some (.ref (He.ga K "check_row")) := T.glo (T.c.fact 60 rfl)
theorem Tx.g_check_name (T : Tx K mg) : mg "check_name" = some (.ref (He.ga K "check_name")) := T.glo (T.c.fact 61 rfl)
theorem Tx.g_check_options (T : Tx K mg) : mg "check_options" = some (.ref (He.ga K "check_options")) := T.glo (T.c.fact 62 rfl)
theorem Tx.g_refuse_options (T : Tx K mg) : mg "refuse_options" = some (.ref (He.ga K "refuse_options")) := T.glo (T.c.fact 63 rfl)
theorem Tx.g_check_bounds (T : Tx K mg) : mg "check_bounds" = some (.ref (He.ga K "check_bounds")) := T.glo (T.c.fact 64 rfl)
theorem Tx.g_check_inner_rows (T : Tx K mg) : mg "check_inner_rows" = some (.ref (He.ga K "check_inner_rows")) := T.glo (T.c.fact 65 rfl)
theorem Tx.g_check_count (T : Tx K mg) : mg "check_count" = some (.ref (He.ga K "check_count")) := T.glo (T.c.fact 66 rfl)
theorem Tx.g_check_conditions (T : Tx K mg) : mg "check_conditions" = some (.ref (He.ga K "check_conditions")) := T.glo (T.c.fact 67 rfl)
theorem Tx.g_conditions_of (T : Tx K mg) : mg "conditions_of" = some (.ref (He.ga K "conditions_of")) := T.glo (T.c.fact 68 rfl)
theorem Tx.g_question_ahead (T : Tx K mg) : mg "question_ahead" = some (.ref (He.ga K "question_ahead")) := T.glo (T.c.fact 69 rfl)
theorem Tx.g_suits (T : Tx K mg) : mg "suits" = some (.ref (He.ga K "suits")) := T.glo (T.c.fact 70 rfl)
theorem Tx.g__law_source (T : Tx K mg) : mg "_law_source" = some (.ref (He.ga K "_law_source")) := T.glo (T.c.fact 71 rfl)
theorem Tx.g__law_take (T : Tx K mg) : mg "_law_take" = some (.ref (He.ga K "_law_take")) := T.glo (T.c.fact 72 rfl)
theorem Tx.g__law_names (T : Tx K mg) : mg "_law_names" = some (.ref (He.ga K "_law_names")) := T.glo (T.c.fact 73 rfl)
theorem Tx.g__law_simple (T : Tx K mg) : mg "_law_simple" = some (.ref (He.ga K "_law_simple")) := T.glo (T.c.fact 74 rfl)
theorem Tx.g__law_condition (T : Tx K mg) : mg "_law_condition" = some (.ref (He.ga K "_law_condition")) := T.glo (T.c.fact 75 rfl)
theorem Tx.g__law_perhaps (T : Tx K mg) : mg "_law_perhaps" = some (.ref (He.ga K "_law_perhaps")) := T.glo (T.c.fact 76 rfl)
theorem Tx.g__law_question (T : Tx K mg) : mg "_law_question" = some (.ref (He.ga K "_law_question")) := T.glo (T.c.fact 77 rfl)
theorem Tx.g__law_rows (T : Tx K mg) : mg "_law_rows" = some (.ref (He.ga K "_law_rows")) := T.glo (T.c.fact 78 rfl)
theorem Tx.g__law_form (T : Tx K mg) : mg "_law_form" = some (.ref (He.ga K "_law_form")) := T.glo (T.c.fact 79 rfl)
theorem Tx.g__law_made_condition (T : Tx K mg) : mg "_law_made_condition" = some (.ref (He.ga K "_law_made_condition")) := T.glo (T.c.fact 80 rfl)
theorem Tx.g__law_made_row (T : Tx K mg) : mg "_law_made_row" = some (.ref (He.ga K "_law_made_row")) := T.glo (T.c.fact 81 rfl)
theorem Tx.g__law_all (T : Tx K mg) : mg "_law_all" = some (.ref (He.ga K "_law_all")) := T.glo (T.c.fact 82 rfl)
theorem Tx.g__law_spoilt_fields (T : Tx K mg) : mg "_law_spoilt_fields" = some (.ref (He.ga K "_law_spoilt_fields")) := T.glo (T.c.fact 83 rfl)
theorem Tx.g__law_any_condition (T : Tx K mg) : mg "_law_any_condition" = some (.ref (He.ga K "_law_any_condition")) := T.glo (T.c.fact 84 rfl)
theorem Tx.g__law_spoilt (T : Tx K mg) : mg "_law_spoilt" = some (.ref (He.ga K "_law_spoilt")) := T.glo (T.c.fact 85 rfl)
theorem Tx.g__law_big (T : Tx K mg) : mg "_law_big" = some (.ref (He.ga K "_law_big")) := T.glo (T.c.fact 86 rfl)
theorem Tx.g__law_is_name (T : Tx K mg) : mg "_law_is_name" = some (.ref (He.ga K "_law_is_name")) := T.glo (T.c.fact 87 rfl)
theorem Tx.g__law_spoken (T : Tx K mg) : mg "_law_spoken" = some (.ref (He.ga K "_law_spoken")) := T.glo (T.c.fact 88 rfl)
theorem Tx.g__law_heard (T : Tx K mg) : mg "_law_heard" = some (.ref (He.ga K "_law_heard")) := T.glo (T.c.fact 89 rfl)
theorem Tx.g__law_conditions_amiss (T : Tx K mg) : mg "_law_conditions_amiss" = some (.ref (He.ga K "_law_conditions_amiss")) := T.glo (T.c.fact 90 rfl)
theorem Tx.g__law_fields_amiss (T : Tx K mg) : mg "_law_fields_amiss" = some (.ref (He.ga K "_law_fields_amiss")) := T.glo (T.c.fact 91 rfl)
theorem Tx.g__law_amiss (T : Tx K mg) : mg "_law_amiss" = some (.ref (He.ga K "_law_amiss")) := T.glo (T.c.fact 92 rfl)
theorem Tx.g__law_due (T : Tx K mg) : mg "_law_due" = some (.ref (He.ga K "_law_due")) := T.glo (T.c.fact 93 rfl)
theorem Tx.g__law_said (T : Tx K mg) : mg "_law_said" = some (.ref (He.ga K "_law_said")) := T.glo (T.c.fact 94 rfl)
theorem Tx.g_law (T : Tx K mg) : mg "law" = some (.ref (He.ga K "law")) := T.glo (T.c.fact 95 rfl)
theorem Tx.z_ValueError (T : Tx K mg) : mg "ValueError" = none := T.free (T.c.fact 96 rfl)
theorem Tx.z_abs (T : Tx K mg) : mg "abs" = none := T.free (T.c.fact 97 rfl)
theorem Tx.z_all (T : Tx K mg) : mg "all" = none := T.free (T.c.fact 98 rfl)
theorem Tx.z_enumerate (T : Tx K mg) : mg "enumerate" = none := T.free (T.c.fact 99 rfl)
theorem Tx.z_int (T : Tx K mg) : mg "int" = none := T.free (T.c.fact 100 rfl)
theorem Tx.z_isinstance (T : Tx K mg) : mg "isinstance" = none := T.free (T.c.fact 101 rfl)
theorem Tx.z_len (T : Tx K mg) : mg "len" = none := T.free (T.c.fact 102 rfl)
theorem Tx.z_list (T : Tx K mg) : mg "list" = none := T.free (T.c.fact 103 rfl)
theorem Tx.z_range (T : Tx K mg) : mg "range" = none := T.free (T.c.fact 104 rfl)
theorem Tx.z_set (T : Tx K mg) : mg "set" = none := T.free (T.c.fact 105 rfl)
theorem Tx.z_str (T : Tx K mg) : mg "str" = none := T.free (T.c.fact 106 rfl)
theorem Tx.z_tuple (T : Tx K mg) : mg "tuple" = none := T.free (T.c.fact 107 rfl)
theorem Tx.cl_Is (T : Tx K mg) : Cls K (He.ga K "Is") := He.cls_ok (x := "Is") (T.c.fact 108 rfl)
theorem Tx.mk_Is (T : Tx K mg) : Mk K (He.ga K "Is") (He.ma K (He.ga K "Is") "__init__") := He.mkr_ok (x := "Is") (T.c.fact 109 rfl)
theorem Tx.n_Is_name (T : Tx K mg) : NoAttr K (He.ga K "Is") "name" := He.noat_ok (x := "Is") (f := "name") (T.c.fact 110 rfl)
theorem Tx.n_Is_option (T : Tx K mg) : NoAttr K (He.ga K "Is") "option" := He.noat_ok (x := "Is") (f := "option") (T.c.fact 111 rfl)
theorem Tx.m_Is_init (T : Tx K mg) : Meth K (He.ga K "Is") "__init__" (He.ma K (He.ga K "Is") "__init__") := He.meth_ok (x := "Is") (m := "__init__") (T.c.fact 112 rfl)
theorem Tx.m_Is_eq (T : Tx K mg) : Meth K (He.ga K "Is") "__eq__" (He.ma K (He.ga K "Is") "__eq__") := He.meth_ok (x := "Is") (m := "__eq__") (T.c.fact 113 rfl)
theorem Tx.cl_Has (T : Tx K mg) : Cls K (He.ga K "Has") := He.cls_ok (x := "Has") (T.c.fact 114 rfl)
theorem Tx.mk_Has (T : Tx K mg) : Mk K (He.ga K "Has") (He.ma K (He.ga K "Has") "__init__") := He.mkr_ok (x := "Has") (T.c.fact 115 rfl)
theorem Tx.n_Has_name (T : Tx K mg) : NoAttr K (He.ga K "Has") "name" := He.noat_ok (x := "Has") (f := "name") (T.c.fact 116 rfl)
theorem Tx.n_Has_option (T : Tx K mg) : NoAttr K (He.ga K "Has") "option" := He.noat_ok (x := "Has") (f := "option") (T.c.fact 117 rfl)
theorem Tx.m_Has_init (T : Tx K mg) : Meth K (He.ga K "Has") "__init__" (He.ma K (He.ga K "Has") "__init__") := He.meth_ok (x := "Has") (m := "__init__") (T.c.fact 118 rfl)
theorem Tx.m_Has_eq (T : Tx K mg) : Meth K (He.ga K "Has") "__eq__" (He.ma K (He.ga K "Has") "__eq__") := He.meth_ok (x := "Has") (m := "__eq__") (T.c.fact 119 rfl)
theorem Tx.cl_Above (T : Tx K mg) : Cls K (He.ga K "Above") := He.cls_ok (x := "Above") (T.c.fact 120 rfl)
theorem Tx.mk_Above (T : Tx K mg) : Mk K (He.ga K "Above") (He.ma K (He.ga K "Above") "__init__") := He.mkr_ok (x := "Above") (T.c.fact 121 rfl)
theorem Tx.n_Above_name (T : Tx K mg) : NoAttr K (He.ga K "Above") "name" := He.noat_ok (x := "Above") (f := "name") (T.c.fact 122 rfl)
theorem Tx.n_Above_number (T : Tx K mg) : NoAttr K (He.ga K "Above") "number" := He.noat_ok (x := "Above") (f := "number") (T.c.fact 123 rfl)
theorem Tx.m_Above_init (T : Tx K mg) : Meth K (He.ga K "Above") "__init__" (He.ma K (He.ga K "Above") "__init__") := He.meth_ok (x := "Above") (m := "__init__") (T.c.fact 124 rfl)
theorem Tx.m_Above_eq (T : Tx K mg) : Meth K (He.ga K "Above") "__eq__" (He.ma K (He.ga K "Above") "__eq__") := He.meth_ok (x := "Above") (m := "__eq__") (T.c.fact 125 rfl)
theorem Tx.cl_Below (T : Tx K mg) : Cls K (He.ga K "Below") := He.cls_ok (x := "Below") (T.c.fact 126 rfl)
theorem Tx.mk_Below (T : Tx K mg) : Mk K (He.ga K "Below") (He.ma K (He.ga K "Below") "__init__") := He.mkr_ok (x := "Below") (T.c.fact 127 rfl)
theorem Tx.n_Below_name (T : Tx K mg) : NoAttr K (He.ga K "Below") "name" := He.noat_ok (x := "Below") (f := "name") (T.c.fact 128 rfl)
theorem Tx.n_Below_number (T : Tx K mg) : NoAttr K (He.ga K "Below") "number" := He.noat_ok (x := "Below") (f := "number") (T.c.fact 129 rfl)
theorem Tx.m_Below_init (T : Tx K mg) : Meth K (He.ga K "Below") "__init__" (He.ma K (He.ga K "Below") "__init__") := He.meth_ok (x := "Below") (m := "__init__") (T.c.fact 130 rfl)
theorem Tx.m_Below_eq (T : Tx K mg) : Meth K (He.ga K "Below") "__eq__" (He.ma K (He.ga K "Below") "__eq__") := He.meth_ok (x := "Below") (m := "__eq__") (T.c.fact 131 rfl)
theorem Tx.cl_Not (T : Tx K mg) : Cls K (He.ga K "Not") := He.cls_ok (x := "Not") (T.c.fact 132 rfl)
theorem Tx.mk_Not (T : Tx K mg) : Mk K (He.ga K "Not") (He.ma K (He.ga K "Not") "__init__") := He.mkr_ok (x := "Not") (T.c.fact 133 rfl)
theorem Tx.n_Not_inner (T : Tx K mg) : NoAttr K (He.ga K "Not") "inner" := He.noat_ok (x := "Not") (f := "inner") (T.c.fact 134 rfl)
theorem Tx.m_Not_init (T : Tx K mg) : Meth K (He.ga K "Not") "__init__" (He.ma K (He.ga K "Not") "__init__") := He.meth_ok (x := "Not") (m := "__init__") (T.c.fact 135 rfl)
theorem Tx.m_Not_eq (T : Tx K mg) : Meth K (He.ga K "Not") "__eq__" (He.ma K (He.ga K "Not") "__eq__") := He.meth_ok (x := "Not") (m := "__eq__") (T.c.fact 136 rfl)
theorem Tx.cl_Both (T : Tx K mg) : Cls K (He.ga K "Both") := He.cls_ok (x := "Both") (T.c.fact 137 rfl)
theorem Tx.mk_Both (T : Tx K mg) : Mk K (He.ga K "Both") (He.ma K (He.ga K "Both") "__init__") := He.mkr_ok (x := "Both") (T.c.fact 138 rfl)
theorem Tx.n_Both_left (T : Tx K mg) : NoAttr K (He.ga K "Both") "left" := He.noat_ok (x := "Both") (f := "left") (T.c.fact 139 rfl)
theorem Tx.n_Both_right (T : Tx K mg) : NoAttr K (He.ga K "Both") "right" := He.noat_ok (x := "Both") (f := "right") (T.c.fact 140 rfl)
theorem Tx.m_Both_init (T : Tx K mg) : Meth K (He.ga K "Both") "__init__" (He.ma K (He.ga K "Both") "__init__") := He.meth_ok (x := "Both") (m := "__init__") (T.c.fact 141 rfl)
theorem Tx.m_Both_eq (T : Tx K mg) : Meth K (He.ga K "Both") "__eq__" (He.ma K (He.ga K "Both") "__eq__") := He.meth_ok (x := "Both") (m := "__eq__") (T.c.fact 142 rfl)
theorem Tx.cl_Either (T : Tx K mg) : Cls K (He.ga K "Either") := He.cls_ok (x := "Either") (T.c.fact 143 rfl)
theorem Tx.mk_Either (T : Tx K mg) : Mk K (He.ga K "Either") (He.ma K (He.ga K "Either") "__init__") := He.mkr_ok (x := "Either") (T.c.fact 144 rfl)
theorem Tx.n_Either_left (T : Tx K mg) : NoAttr K (He.ga K "Either") "left" := He.noat_ok (x := "Either") (f := "left") (T.c.fact 145 rfl)
theorem Tx.n_Either_right (T : Tx K mg) : NoAttr K (He.ga K "Either") "right" := He.noat_ok (x := "Either") (f := "right") (T.c.fact 146 rfl)
theorem Tx.m_Either_init (T : Tx K mg) : Meth K (He.ga K "Either") "__init__" (He.ma K (He.ga K "Either") "__init__") := He.meth_ok (x := "Either") (m := "__init__") (T.c.fact 147 rfl)
theorem Tx.m_Either_eq (T : Tx K mg) : Meth K (He.ga K "Either") "__eq__" (He.ma K (He.ga K "Either") "__eq__") := He.meth_ok (x := "Either") (m := "__eq__") (T.c.fact 148 rfl)
theorem Tx.n_BadCount_what (T : Tx K mg) : NoAttr K (He.ga K "BadCount") "what" := He.noat_ok (x := "BadCount") (f := "what") (T.c.fact 149 rfl)
theorem Tx.n_BadCount_count (T : Tx K mg) : NoAttr K (He.ga K "BadCount") "count" := He.noat_ok (x := "BadCount") (f := "count") (T.c.fact 150 rfl)
theorem Tx.m_BadCount_init (T : Tx K mg) : Meth K (He.ga K "BadCount") "__init__" (He.ma K (He.ga K "BadCount") "__init__") := He.meth_ok (x := "BadCount") (m := "__init__") (T.c.fact 151 rfl)
theorem Tx.n_NoName_name (T : Tx K mg) : NoAttr K (He.ga K "NoName") "name" := He.noat_ok (x := "NoName") (f := "name") (T.c.fact 152 rfl)
theorem Tx.m_NoName_init (T : Tx K mg) : Meth K (He.ga K "NoName") "__init__" (He.ma K (He.ga K "NoName") "__init__") := He.meth_ok (x := "NoName") (m := "__init__") (T.c.fact 153 rfl)
theorem Tx.n_Twice_name (T : Tx K mg) : NoAttr K (He.ga K "Twice") "name" := He.noat_ok (x := "Twice") (f := "name") (T.c.fact 154 rfl)
theorem Tx.m_Twice_init (T : Tx K mg) : Meth K (He.ga K "Twice") "__init__" (He.ma K (He.ga K "Twice") "__init__") := He.meth_ok (x := "Twice") (m := "__init__") (T.c.fact 155 rfl)
theorem Tx.n_NoQuestion_name (T : Tx K mg) : NoAttr K (He.ga K "NoQuestion") "name" := He.noat_ok (x := "NoQuestion") (f := "name") (T.c.fact 156 rfl)
theorem Tx.m_NoQuestion_init (T : Tx K mg) : Meth K (He.ga K "NoQuestion") "__init__" (He.ma K (He.ga K "NoQuestion") "__init__") := He.meth_ok (x := "NoQuestion") (m := "__init__") (T.c.fact 157 rfl)
theorem Tx.n_NoFit_name (T : Tx K mg) : NoAttr K (He.ga K "NoFit") "name" := He.noat_ok (x := "NoFit") (f := "name") (T.c.fact 158 rfl)
theorem Tx.m_NoFit_init (T : Tx K mg) : Meth K (He.ga K "NoFit") "__init__" (He.ma K (He.ga K "NoFit") "__init__") := He.meth_ok (x := "NoFit") (m := "__init__") (T.c.fact 159 rfl)
theorem Tx.cl_One (T : Tx K mg) : Cls K (He.ga K "One") := He.cls_ok (x := "One") (T.c.fact 160 rfl)
theorem Tx.mk_One (T : Tx K mg) : Mk K (He.ga K "One") (He.ma K (He.ga K "One") "__init__") := He.mkr_ok (x := "One") (T.c.fact 161 rfl)
theorem Tx.n_One_name (T : Tx K mg) : NoAttr K (He.ga K "One") "name" := He.noat_ok (x := "One") (f := "name") (T.c.fact 162 rfl)
theorem Tx.n_One_options (T : Tx K mg) : NoAttr K (He.ga K "One") "options" := He.noat_ok (x := "One") (f := "options") (T.c.fact 163 rfl)
theorem Tx.n_One_where (T : Tx K mg) : NoAttr K (He.ga K "One") "where" := He.noat_ok (x := "One") (f := "where") (T.c.fact 164 rfl)
theorem Tx.m_One_init (T : Tx K mg) : Meth K (He.ga K "One") "__init__" (He.ma K (He.ga K "One") "__init__") := He.meth_ok (x := "One") (m := "__init__") (T.c.fact 165 rfl)
theorem Tx.m_One_eq (T : Tx K mg) : Meth K (He.ga K "One") "__eq__" (He.ma K (He.ga K "One") "__eq__") := He.meth_ok (x := "One") (m := "__eq__") (T.c.fact 166 rfl)
theorem Tx.cl_Some (T : Tx K mg) : Cls K (He.ga K "Some") := He.cls_ok (x := "Some") (T.c.fact 167 rfl)
theorem Tx.mk_Some (T : Tx K mg) : Mk K (He.ga K "Some") (He.ma K (He.ga K "Some") "__init__") := He.mkr_ok (x := "Some") (T.c.fact 168 rfl)
theorem Tx.n_Some_name (T : Tx K mg) : NoAttr K (He.ga K "Some") "name" := He.noat_ok (x := "Some") (f := "name") (T.c.fact 169 rfl)
theorem Tx.n_Some_options (T : Tx K mg) : NoAttr K (He.ga K "Some") "options" := He.noat_ok (x := "Some") (f := "options") (T.c.fact 170 rfl)
theorem Tx.n_Some_where (T : Tx K mg) : NoAttr K (He.ga K "Some") "where" := He.noat_ok (x := "Some") (f := "where") (T.c.fact 171 rfl)
theorem Tx.m_Some_init (T : Tx K mg) : Meth K (He.ga K "Some") "__init__" (He.ma K (He.ga K "Some") "__init__") := He.meth_ok (x := "Some") (m := "__init__") (T.c.fact 172 rfl)
theorem Tx.m_Some_eq (T : Tx K mg) : Meth K (He.ga K "Some") "__eq__" (He.ma K (He.ga K "Some") "__eq__") := He.meth_ok (x := "Some") (m := "__eq__") (T.c.fact 173 rfl)
theorem Tx.cl_Number (T : Tx K mg) : Cls K (He.ga K "Number") := He.cls_ok (x := "Number") (T.c.fact 174 rfl)
theorem Tx.mk_Number (T : Tx K mg) : Mk K (He.ga K "Number") (He.ma K (He.ga K "Number") "__init__") := He.mkr_ok (x := "Number") (T.c.fact 175 rfl)
theorem Tx.n_Number_name (T : Tx K mg) : NoAttr K (He.ga K "Number") "name" := He.noat_ok (x := "Number") (f := "name") (T.c.fact 176 rfl)
theorem Tx.n_Number_low (T : Tx K mg) : NoAttr K (He.ga K "Number") "low" := He.noat_ok (x := "Number") (f := "low") (T.c.fact 177 rfl)
theorem Tx.n_Number_high (T : Tx K mg) : NoAttr K (He.ga K "Number") "high" := He.noat_ok (x := "Number") (f := "high") (T.c.fact 178 rfl)
theorem Tx.n_Number_where (T : Tx K mg) : NoAttr K (He.ga K "Number") "where" := He.noat_ok (x := "Number") (f := "where") (T.c.fact 179 rfl)
theorem Tx.m_Number_init (T : Tx K mg) : Meth K (He.ga K "Number") "__init__" (He.ma K (He.ga K "Number") "__init__") := He.meth_ok (x := "Number") (m := "__init__") (T.c.fact 180 rfl)
theorem Tx.m_Number_eq (T : Tx K mg) : Meth K (He.ga K "Number") "__eq__" (He.ma K (He.ga K "Number") "__eq__") := He.meth_ok (x := "Number") (m := "__eq__") (T.c.fact 181 rfl)
theorem Tx.cl_Check (T : Tx K mg) : Cls K (He.ga K "Check") := He.cls_ok (x := "Check") (T.c.fact 182 rfl)
theorem Tx.mk_Check (T : Tx K mg) : Mk K (He.ga K "Check") (He.ma K (He.ga K "Check") "__init__") := He.mkr_ok (x := "Check") (T.c.fact 183 rfl)
theorem Tx.n_Check_name (T : Tx K mg) : NoAttr K (He.ga K "Check") "name" := He.noat_ok (x := "Check") (f := "name") (T.c.fact 184 rfl)
theorem Tx.n_Check_must (T : Tx K mg) : NoAttr K (He.ga K "Check") "must" := He.noat_ok (x := "Check") (f := "must") (T.c.fact 185 rfl)
theorem Tx.n_Check_where (T : Tx K mg) : NoAttr K (He.ga K "Check") "where" := He.noat_ok (x := "Check") (f := "where") (T.c.fact 186 rfl)
theorem Tx.m_Check_init (T : Tx K mg) : Meth K (He.ga K "Check") "__init__" (He.ma K (He.ga K "Check") "__init__") := He.meth_ok (x := "Check") (m := "__init__") (T.c.fact 187 rfl)
theorem Tx.m_Check_eq (T : Tx K mg) : Meth K (He.ga K "Check") "__eq__" (He.ma K (He.ga K "Check") "__eq__") := He.meth_ok (x := "Check") (m := "__eq__") (T.c.fact 188 rfl)
theorem Tx.cl_Section (T : Tx K mg) : Cls K (He.ga K "Section") := He.cls_ok (x := "Section") (T.c.fact 189 rfl)
theorem Tx.mk_Section (T : Tx K mg) : Mk K (He.ga K "Section") (He.ma K (He.ga K "Section") "__init__") := He.mkr_ok (x := "Section") (T.c.fact 190 rfl)
theorem Tx.n_Section_rows (T : Tx K mg) : NoAttr K (He.ga K "Section") "rows" := He.noat_ok (x := "Section") (f := "rows") (T.c.fact 191 rfl)
theorem Tx.n_Section_where (T : Tx K mg) : NoAttr K (He.ga K "Section") "where" := He.noat_ok (x := "Section") (f := "where") (T.c.fact 192 rfl)
theorem Tx.m_Section_init (T : Tx K mg) : Meth K (He.ga K "Section") "__init__" (He.ma K (He.ga K "Section") "__init__") := He.meth_ok (x := "Section") (m := "__init__") (T.c.fact 193 rfl)
theorem Tx.m_Section_eq (T : Tx K mg) : Meth K (He.ga K "Section") "__eq__" (He.ma K (He.ga K "Section") "__eq__") := He.meth_ok (x := "Section") (m := "__eq__") (T.c.fact 194 rfl)
theorem Tx.cl_Rounds (T : Tx K mg) : Cls K (He.ga K "Rounds") := He.cls_ok (x := "Rounds") (T.c.fact 195 rfl)
theorem Tx.mk_Rounds (T : Tx K mg) : Mk K (He.ga K "Rounds") (He.ma K (He.ga K "Rounds") "__init__") := He.mkr_ok (x := "Rounds") (T.c.fact 196 rfl)
theorem Tx.n_Rounds_count (T : Tx K mg) : NoAttr K (He.ga K "Rounds") "count" := He.noat_ok (x := "Rounds") (f := "count") (T.c.fact 197 rfl)
theorem Tx.n_Rounds_rows (T : Tx K mg) : NoAttr K (He.ga K "Rounds") "rows" := He.noat_ok (x := "Rounds") (f := "rows") (T.c.fact 198 rfl)
theorem Tx.n_Rounds_where (T : Tx K mg) : NoAttr K (He.ga K "Rounds") "where" := He.noat_ok (x := "Rounds") (f := "where") (T.c.fact 199 rfl)
theorem Tx.m_Rounds_init (T : Tx K mg) : Meth K (He.ga K "Rounds") "__init__" (He.ma K (He.ga K "Rounds") "__init__") := He.meth_ok (x := "Rounds") (m := "__init__") (T.c.fact 200 rfl)
theorem Tx.m_Rounds_eq (T : Tx K mg) : Meth K (He.ga K "Rounds") "__eq__" (He.ma K (He.ga K "Rounds") "__eq__") := He.meth_ok (x := "Rounds") (m := "__eq__") (T.c.fact 201 rfl)
theorem Tx.cl_Form (T : Tx K mg) : Cls K (He.ga K "Form") := He.cls_ok (x := "Form") (T.c.fact 202 rfl)
theorem Tx.mk_Form (T : Tx K mg) : Mk K (He.ga K "Form") (He.ma K (He.ga K "Form") "__init__") := He.mkr_ok (x := "Form") (T.c.fact 203 rfl)
theorem Tx.n_Form_rows (T : Tx K mg) : NoAttr K (He.ga K "Form") "rows" := He.noat_ok (x := "Form") (f := "rows") (T.c.fact 204 rfl)
theorem Tx.n_Form_questions (T : Tx K mg) : NoAttr K (He.ga K "Form") "questions" := He.noat_ok (x := "Form") (f := "questions") (T.c.fact 205 rfl)
theorem Tx.n_Form_repeated (T : Tx K mg) : NoAttr K (He.ga K "Form") "repeated" := He.noat_ok (x := "Form") (f := "repeated") (T.c.fact 206 rfl)
theorem Tx.m_Form_init (T : Tx K mg) : Meth K (He.ga K "Form") "__init__" (He.ma K (He.ga K "Form") "__init__") := He.meth_ok (x := "Form") (m := "__init__") (T.c.fact 207 rfl)
theorem Tx.m_Form_eq (T : Tx K mg) : Meth K (He.ga K "Form") "__eq__" (He.ma K (He.ga K "Form") "__eq__") := He.meth_ok (x := "Form") (m := "__eq__") (T.c.fact 208 rfl)
theorem Tx.m_Form_outline (T : Tx K mg) : Meth K (He.ga K "Form") "outline" (He.ma K (He.ga K "Form") "outline") := He.meth_ok (x := "Form") (m := "outline") (T.c.fact 209 rfl)
theorem Tx.m_Form_names (T : Tx K mg) : Meth K (He.ga K "Form") "names" (He.ma K (He.ga K "Form") "names") := He.meth_ok (x := "Form") (m := "names") (T.c.fact 210 rfl)
theorem Tx.m_Form_question (T : Tx K mg) : Meth K (He.ga K "Form") "question" (He.ma K (He.ga K "Form") "question") := He.meth_ok (x := "Form") (m := "question") (T.c.fact 211 rfl)
theorem Tx.m_Form_in_rounds (T : Tx K mg) : Meth K (He.ga K "Form") "in_rounds" (He.ma K (He.ga K "Form") "in_rounds") := He.meth_ok (x := "Form") (m := "in_rounds") (T.c.fact 212 rfl)
theorem Tx.f__wall (T : Tx K mg) : ∃ fd, FunD K "_wall" "_wall" (defArgs s__wall) (defBody s__wall) (defScope s__wall) [] [] (He.ga K "_wall") fd := T.c.def_ 0 (d := D.d__wall) rfl
theorem Tx.f_Is_init (T : Tx K mg) : ∃ fd, FunD K "__init__" "Is.__init__" (defArgs s_Is_init) (defBody s_Is_init) (defScope s_Is_init) [] [] (He.ma K (He.ga K "Is") "__init__") fd := T.c.def_ 1 (d := D.d_Is_init) rfl
theorem Tx.f_Is_eq (T : Tx K mg) : ∃ fd, FunD K "__eq__" "Is.__eq__" (defArgs s_Is_eq) (defBody s_Is_eq) (defScope s_Is_eq) [] [] (He.ma K (He.ga K "Is") "__eq__") fd := T.c.def_ 2 (d := D.d_Is_eq) rfl
theorem Tx.f_Has_init (T : Tx K mg) : ∃ fd, FunD K "__init__" "Has.__init__" (defArgs s_Has_init) (defBody s_Has_init) (defScope s_Has_init) [] [] (He.ma K (He.ga K "Has") "__init__") fd := T.c.def_ 3 (d := D.d_Has_init) rfl
theorem Tx.f_Has_eq (T : Tx K mg) : ∃ fd, FunD K "__eq__" "Has.__eq__" (defArgs s_Has_eq) (defBody s_Has_eq) (defScope s_Has_eq) [] [] (He.ma K (He.ga K "Has") "__eq__") fd := T.c.def_ 4 (d := D.d_Has_eq) rfl
theorem Tx.f_Above_init (T : Tx K mg) : ∃ fd, FunD K "__init__" "Above.__init__" (defArgs s_Above_init) (defBody s_Above_init) (defScope s_Above_init) [] [] (He.ma K (He.ga K "Above") "__init__") fd := T.c.def_ 5 (d := D.d_Above_init) rfl
theorem Tx.f_Above_eq (T : Tx K mg) : ∃ fd, FunD K "__eq__" "Above.__eq__" (defArgs s_Above_eq) (defBody s_Above_eq) (defScope s_Above_eq) [] [] (He.ma K (He.ga K "Above") "__eq__") fd := T.c.def_ 6 (d := D.d_Above_eq) rfl
theorem Tx.f_Below_init (T : Tx K mg) : ∃ fd, FunD K "__init__" "Below.__init__" (defArgs s_Below_init) (defBody s_Below_init) (defScope s_Below_init) [] [] (He.ma K (He.ga K "Below") "__init__") fd := T.c.def_ 7 (d := D.d_Below_init) rfl
theorem Tx.f_Below_eq (T : Tx K mg) : ∃ fd, FunD K "__eq__" "Below.__eq__" (defArgs s_Below_eq) (defBody s_Below_eq) (defScope s_Below_eq) [] [] (He.ma K (He.ga K "Below") "__eq__") fd := T.c.def_ 8 (d := D.d_Below_eq) rfl
theorem Tx.f_Not_init (T : Tx K mg) : ∃ fd, FunD K "__init__" "Not.__init__" (defArgs s_Not_init) (defBody s_Not_init) (defScope s_Not_init) [] [] (He.ma K (He.ga K "Not") "__init__") fd := T.c.def_ 9 (d := D.d_Not_init) rfl
theorem Tx.f_Not_eq (T : Tx K mg) : ∃ fd, FunD K "__eq__" "Not.__eq__" (defArgs s_Not_eq) (defBody s_Not_eq) (defScope s_Not_eq) [] [] (He.ma K (He.ga K "Not") "__eq__") fd := T.c.def_ 10 (d := D.d_Not_eq) rfl
theorem Tx.f_Both_init (T : Tx K mg) : ∃ fd, FunD K "__init__" "Both.__init__" (defArgs s_Both_init) (defBody s_Both_init) (defScope s_Both_init) [] [] (He.ma K (He.ga K "Both") "__init__") fd := T.c.def_ 11 (d := D.d_Both_init) rfl
theorem Tx.f_Both_eq (T : Tx K mg) : ∃ fd, FunD K "__eq__" "Both.__eq__" (defArgs s_Both_eq) (defBody s_Both_eq) (defScope s_Both_eq) [] [] (He.ma K (He.ga K "Both") "__eq__") fd := T.c.def_ 12 (d := D.d_Both_eq) rfl
theorem Tx.f_Either_init (T : Tx K mg) : ∃ fd, FunD K "__init__" "Either.__init__" (defArgs s_Either_init) (defBody s_Either_init) (defScope s_Either_init) [] [] (He.ma K (He.ga K "Either") "__init__") fd := T.c.def_ 13 (d := D.d_Either_init) rfl
theorem Tx.f_Either_eq (T : Tx K mg) : ∃ fd, FunD K "__eq__" "Either.__eq__" (defArgs s_Either_eq) (defBody s_Either_eq) (defScope s_Either_eq) [] [] (He.ma K (He.ga K "Either") "__eq__") fd := T.c.def_ 14 (d := D.d_Either_eq) rfl
theorem Tx.f_simple_ones (T : Tx K mg) : ∃ fd, FunD K "simple_ones" "simple_ones" (defArgs s_simple_ones) (defBody s_simple_ones) (defScope s_simple_ones) [] [] (He.ga K "simple_ones") fd := T.c.def_ 15 (d := D.d_simple_ones) rfl
theorem Tx.f_HallError_told (T : Tx K mg) : ∃ fd, FunD K "told" "HallError.told" (defArgs s_HallError_told) (defBody s_HallError_told) (defScope s_HallError_told) [] [] (He.ma K (He.ga K "HallError") "told") fd := T.c.def_ 16 (d := D.d_HallError_told) rfl
theorem Tx.f_BadCount_init (T : Tx K mg) : ∃ fd, FunD K "__init__" "BadCount.__init__" (defArgs s_BadCount_init) (defBody s_BadCount_init) (defScope s_BadCount_init) [] [] (He.ma K (He.ga K "BadCount") "__init__") fd := T.c.def_ 17 (d := D.d_BadCount_init) rfl
theorem Tx.f_BadCount_told (T : Tx K mg) : ∃ fd, FunD K "told" "BadCount.told" (defArgs s_BadCount_told) (defBody s_BadCount_told) (defScope s_BadCount_told) [] [] (He.ma K (He.ga K "BadCount") "told") fd := T.c.def_ 18 (d := D.d_BadCount_told) rfl
theorem Tx.f_NoName_init (T : Tx K mg) : ∃ fd, FunD K "__init__" "NoName.__init__" (defArgs s_NoName_init) (defBody s_NoName_init) (defScope s_NoName_init) [] [] (He.ma K (He.ga K "NoName") "__init__") fd := T.c.def_ 19 (d := D.d_NoName_init) rfl
theorem Tx.f_NoName_told (T : Tx K mg) : ∃ fd, FunD K "told" "NoName.told" (defArgs s_NoName_told) (defBody s_NoName_told) (defScope s_NoName_told) [] [] (He.ma K (He.ga K "NoName") "told") fd := T.c.def_ 20 (d := D.d_NoName_told) rfl
theorem Tx.f_Twice_init (T : Tx K mg) : ∃ fd, FunD K "__init__" "Twice.__init__" (defArgs s_Twice_init) (defBody s_Twice_init) (defScope s_Twice_init) [] [] (He.ma K (He.ga K "Twice") "__init__") fd := T.c.def_ 21 (d := D.d_Twice_init) rfl
theorem Tx.f_Twice_told (T : Tx K mg) : ∃ fd, FunD K "told" "Twice.told" (defArgs s_Twice_told) (defBody s_Twice_told) (defScope s_Twice_told) [] [] (He.ma K (He.ga K "Twice") "told") fd := T.c.def_ 22 (d := D.d_Twice_told) rfl
theorem Tx.f_NoQuestion_init (T : Tx K mg) : ∃ fd, FunD K "__init__" "NoQuestion.__init__" (defArgs s_NoQuestion_init) (defBody s_NoQuestion_init) (defScope s_NoQuestion_init) [] [] (He.ma K (He.ga K "NoQuestion") "__init__") fd := T.c.def_ 23 (d := D.d_NoQuestion_init) rfl
theorem Tx.f_NoQuestion_told (T : Tx K mg) : ∃ fd, FunD K "told" "NoQuestion.told" (defArgs s_NoQuestion_told) (defBody s_NoQuestion_told) (defScope s_NoQuestion_told) [] [] (He.ma K (He.ga K "NoQuestion") "told") fd := T.c.def_ 24 (d := D.d_NoQuestion_told) rfl
theorem Tx.f_NoFit_init (T : Tx K mg) : ∃ fd, FunD K "__init__" "NoFit.__init__" (defArgs s_NoFit_init) (defBody s_NoFit_init) (defScope s_NoFit_init) [] [] (He.ma K (He.ga K "NoFit") "__init__") fd := T.c.def_ 25 (d := D.d_NoFit_init) rfl
theorem Tx.f_NoFit_told (T : Tx K mg) : ∃ fd, FunD K "told" "NoFit.told" (defArgs s_NoFit_told) (defBody s_NoFit_told) (defScope s_NoFit_told) [] [] (He.ma K (He.ga K "NoFit") "told") fd := T.c.def_ 26 (d := D.d_NoFit_told) rfl
theorem Tx.f_is_name (T : Tx K mg) : ∃ fd, FunD K "is_name" "is_name" (defArgs s_is_name) (defBody s_is_name) (defScope s_is_name) [] [] (He.ga K "is_name") fd := T.c.def_ 27 (d := D.d_is_name) rfl
theorem Tx.f_refuse_no_name (T : Tx K mg) : ∃ fd, FunD K "refuse_no_name" "refuse_no_name" (defArgs s_refuse_no_name) (defBody s_refuse_no_name) (defScope s_refuse_no_name) [] [] (He.ga K "refuse_no_name") fd := T.c.def_ 28 (d := D.d_refuse_no_name) rfl
theorem Tx.f_refuse_twice (T : Tx K mg) : ∃ fd, FunD K "refuse_twice" "refuse_twice" (defArgs s_refuse_twice) (defBody s_refuse_twice) (defScope s_refuse_twice) [] [] (He.ga K "refuse_twice") fd := T.c.def_ 29 (d := D.d_refuse_twice) rfl
theorem Tx.f_One_init (T : Tx K mg) : ∃ fd, FunD K "__init__" "One.__init__" (defArgs s_One_init) (defBody s_One_init) (defScope s_One_init) [] [("where", V.non)] (He.ma K (He.ga K "One") "__init__") fd := T.c.def_ 30 (d := D.d_One_init) rfl
theorem Tx.f_One_eq (T : Tx K mg) : ∃ fd, FunD K "__eq__" "One.__eq__" (defArgs s_One_eq) (defBody s_One_eq) (defScope s_One_eq) [] [] (He.ma K (He.ga K "One") "__eq__") fd := T.c.def_ 31 (d := D.d_One_eq) rfl
theorem Tx.f_Some_init (T : Tx K mg) : ∃ fd, FunD K "__init__" "Some.__init__" (defArgs s_Some_init) (defBody s_Some_init) (defScope s_Some_init) [] [("where", V.non)] (He.ma K (He.ga K "Some") "__init__") fd := T.c.def_ 32 (d := D.d_Some_init) rfl
theorem Tx.f_Some_eq (T : Tx K mg) : ∃ fd, FunD K "__eq__" "Some.__eq__" (defArgs s_Some_eq) (defBody s_Some_eq) (defScope s_Some_eq) [] [] (He.ma K (He.ga K "Some") "__eq__") fd := T.c.def_ 33 (d := D.d_Some_eq) rfl
theorem Tx.f_Number_init (T : Tx K mg) : ∃ fd, FunD K "__init__" "Number.__init__" (defArgs s_Number_init) (defBody s_Number_init) (defScope s_Number_init) [] [("where", V.non)] (He.ma K (He.ga K "Number") "__init__") fd := T.c.def_ 34 (d := D.d_Number_init) rfl
theorem Tx.f_Number_eq (T : Tx K mg) : ∃ fd, FunD K "__eq__" "Number.__eq__" (defArgs s_Number_eq) (defBody s_Number_eq) (defScope s_Number_eq) [] [] (He.ma K (He.ga K "Number") "__eq__") fd := T.c.def_ 35 (d := D.d_Number_eq) rfl
theorem Tx.f_Check_init (T : Tx K mg) : ∃ fd, FunD K "__init__" "Check.__init__" (defArgs s_Check_init) (defBody s_Check_init) (defScope s_Check_init) [] [("where", V.non)] (He.ma K (He.ga K "Check") "__init__") fd := T.c.def_ 36 (d := D.d_Check_init) rfl
theorem Tx.f_Check_eq (T : Tx K mg) : ∃ fd, FunD K "__eq__" "Check.__eq__" (defArgs s_Check_eq) (defBody s_Check_eq) (defScope s_Check_eq) [] [] (He.ma K (He.ga K "Check") "__eq__") fd := T.c.def_ 37 (d := D.d_Check_eq) rfl
theorem Tx.f_Section_init (T : Tx K mg) : ∃ fd, FunD K "__init__" "Section.__init__" (defArgs s_Section_init) (defBody s_Section_init) (defScope s_Section_init) [] [("where", V.non)] (He.ma K (He.ga K "Section") "__init__") fd := T.c.def_ 38 (d := D.d_Section_init) rfl
theorem Tx.f_Section_eq (T : Tx K mg) : ∃ fd, FunD K "__eq__" "Section.__eq__" (defArgs s_Section_eq) (defBody s_Section_eq) (defScope s_Section_eq) [] [] (He.ma K (He.ga K "Section") "__eq__") fd := T.c.def_ 39 (d := D.d_Section_eq) rfl
theorem Tx.f_Rounds_init (T : Tx K mg) : ∃ fd, FunD K "__init__" "Rounds.__init__" (defArgs s_Rounds_init) (defBody s_Rounds_init) (defScope s_Rounds_init) [] [("where", V.non)] (He.ma K (He.ga K "Rounds") "__init__") fd := T.c.def_ 40 (d := D.d_Rounds_init) rfl
theorem Tx.f_Rounds_eq (T : Tx K mg) : ∃ fd, FunD K "__eq__" "Rounds.__eq__" (defArgs s_Rounds_eq) (defBody s_Rounds_eq) (defScope s_Rounds_eq) [] [] (He.ma K (He.ga K "Rounds") "__eq__") fd := T.c.def_ 41 (d := D.d_Rounds_eq) rfl
theorem Tx.f_Form_init (T : Tx K mg) : ∃ fd, FunD K "__init__" "Form.__init__" (defArgs s_Form_init) (defBody s_Form_init) (defScope s_Form_init) [] [] (He.ma K (He.ga K "Form") "__init__") fd := T.c.def_ 42 (d := D.d_Form_init) rfl
theorem Tx.f_Form_eq (T : Tx K mg) : ∃ fd, FunD K "__eq__" "Form.__eq__" (defArgs s_Form_eq) (defBody s_Form_eq) (defScope s_Form_eq) [] [] (He.ma K (He.ga K "Form") "__eq__") fd := T.c.def_ 43 (d := D.d_Form_eq) rfl
theorem Tx.f_Form_outline (T : Tx K mg) : ∃ fd, FunD K "outline" "Form.outline" (defArgs s_Form_outline) (defBody s_Form_outline) (defScope s_Form_outline) [] [] (He.ma K (He.ga K "Form") "outline") fd := T.c.def_ 44 (d := D.d_Form_outline) rfl
theorem Tx.f_Form_names (T : Tx K mg) : ∃ fd, FunD K "names" "Form.names" (defArgs s_Form_names) (defBody s_Form_names) (defScope s_Form_names) [] [] (He.ma K (He.ga K "Form") "names") fd := T.c.def_ 45 (d := D.d_Form_names) rfl
theorem Tx.f_Form_question (T : Tx K mg) : ∃ fd, FunD K "question" "Form.question" (defArgs s_Form_question) (defBody s_Form_question) (defScope s_Form_question) [] [] (He.ma K (He.ga K "Form") "question") fd := T.c.def_ 46 (d := D.d_Form_question) rfl
theorem Tx.f_Form_in_rounds (T : Tx K mg) : ∃ fd, FunD K "in_rounds" "Form.in_rounds" (defArgs s_Form_in_rounds) (defBody s_Form_in_rounds) (defScope s_Form_in_rounds) [] [] (He.ma K (He.ga K "Form") "in_rounds") fd := T.c.def_ 47 (d := D.d_Form_in_rounds) rfl
theorem Tx.f_is_question (T : Tx K mg) : ∃ fd, FunD K "is_question" "is_question" (defArgs s_is_question) (defBody s_is_question) (defScope s_is_question) [] [] (He.ga K "is_question") fd := T.c.def_ 48 (d := D.d_is_question) rfl
theorem Tx.f_is_named (T : Tx K mg) : ∃ fd, FunD K "is_named" "is_named" (defArgs s_is_named) (defBody s_is_named) (defScope s_is_named) [] [] (He.ga K "is_named") fd := T.c.def_ 49 (d := D.d_is_named) rfl
theorem Tx.f_lay_out (T : Tx K mg) : ∃ fd, FunD K "lay_out" "lay_out" (defArgs s_lay_out) (defBody s_lay_out) (defScope s_lay_out) [] [] (He.ga K "lay_out") fd := T.c.def_ 50 (d := D.d_lay_out) rfl
theorem Tx.f_check_rows (T : Tx K mg) : ∃ fd, FunD K "check_rows" "check_rows" (defArgs s_check_rows) (defBody s_check_rows) (defScope s_check_rows) [] [] (He.ga K "check_rows") fd := T.c.def_ 51 (d := D.d_check_rows) rfl
theorem Tx.f_check_row (T : Tx K mg) : ∃ fd, FunD K "check_row" "check_row" (defArgs s_check_row) (defBody s_check_row) (defScope s_check_row) [] [] (He.ga K "check_row") fd := T.c.def_ 52 (d := D.d_check_row) rfl
theorem Tx.f_check_name (T : Tx K mg) : ∃ fd, FunD K "check_name" "check_name" (defArgs s_check_name) (defBody s_check_name) (defScope s_check_name) [] [] (He.ga K "check_name") fd := T.c.def_ 53 (d := D.d_check_name) rfl
theorem Tx.f_check_options (T : Tx K mg) : ∃ fd, FunD K "check_options" "check_options" (defArgs s_check_options) (defBody s_check_options) (defScope s_check_options) [] [] (He.ga K "check_options") fd := T.c.def_ 54 (d := D.d_check_options) rfl
theorem Tx.f_refuse_options (T : Tx K mg) : ∃ fd, FunD K "refuse_options" "refuse_options" (defArgs s_refuse_options) (defBody s_refuse_options) (defScope s_refuse_options) [] [] (He.ga K "refuse_options") fd := T.c.def_ 55 (d := D.d_refuse_options) rfl
theorem Tx.f_check_bounds (T : Tx K mg) : ∃ fd, FunD K "check_bounds" "check_bounds" (defArgs s_check_bounds) (defBody s_check_bounds) (defScope s_check_bounds) [] [] (He.ga K "check_bounds") fd := T.c.def_ 56 (d := D.d_check_bounds) rfl
theorem Tx.f_check_inner_rows (T : Tx K mg) : ∃ fd, FunD K "check_inner_rows" "check_inner_rows" (defArgs s_check_inner_rows) (defBody s_check_inner_rows) (defScope s_check_inner_rows) [] [] (He.ga K "check_inner_rows") fd := T.c.def_ 57 (d := D.d_check_inner_rows) rfl
theorem Tx.f_check_count (T : Tx K mg) : ∃ fd, FunD K "check_count" "check_count" (defArgs s_check_count) (defBody s_check_count) (defScope s_check_count) [] [] (He.ga K "check_count") fd := T.c.def_ 58 (d := D.d_check_count) rfl
theorem Tx.f_check_conditions (T : Tx K mg) : ∃ fd, FunD K "check_conditions" "check_conditions" (defArgs s_check_conditions) (defBody s_check_conditions) (defScope s_check_conditions) [] [] (He.ga K "check_conditions") fd := T.c.def_ 59 (d := D.d_check_conditions) rfl
theorem Tx.f_conditions_of (T : Tx K mg) : ∃ fd, FunD K "conditions_of" "conditions_of" (defArgs s_conditions_of) (defBody s_conditions_of) (defScope s_conditions_of) [] [] (He.ga K "conditions_of") fd := T.c.def_ 60 (d := D.d_conditions_of) rfl
theorem Tx.f_question_ahead (T : Tx K mg) : ∃ fd, FunD K "question_ahead" "question_ahead" (defArgs s_question_ahead) (defBody s_question_ahead) (defScope s_question_ahead) [] [] (He.ga K "question_ahead") fd := T.c.def_ 61 (d := D.d_question_ahead) rfl
theorem Tx.f_suits (T : Tx K mg) : ∃ fd, FunD K "suits" "suits" (defArgs s_suits) (defBody s_suits) (defScope s_suits) [] [] (He.ga K "suits") fd := T.c.def_ 62 (d := D.d_suits) rfl
theorem Tx.f__law_source (T : Tx K mg) : ∃ fd, FunD K "_law_source" "_law_source" (defArgs s__law_source) (defBody s__law_source) (defScope s__law_source) [] [] (He.ga K "_law_source") fd := T.c.def_ 63 (d := D.d__law_source) rfl
theorem Tx.f__law_take (T : Tx K mg) : ∃ fd, FunD K "_law_take" "_law_take" (defArgs s__law_take) (defBody s__law_take) (defScope s__law_take) [] [] (He.ga K "_law_take") fd := T.c.def_ 64 (d := D.d__law_take) rfl
theorem Tx.f__law_names (T : Tx K mg) : ∃ fd, FunD K "_law_names" "_law_names" (defArgs s__law_names) (defBody s__law_names) (defScope s__law_names) [] [] (He.ga K "_law_names") fd := T.c.def_ 65 (d := D.d__law_names) rfl
theorem Tx.f__law_simple (T : Tx K mg) : ∃ fd, FunD K "_law_simple" "_law_simple" (defArgs s__law_simple) (defBody s__law_simple) (defScope s__law_simple) [] [] (He.ga K "_law_simple") fd := T.c.def_ 66 (d := D.d__law_simple) rfl
theorem Tx.f__law_condition (T : Tx K mg) : ∃ fd, FunD K "_law_condition" "_law_condition" (defArgs s__law_condition) (defBody s__law_condition) (defScope s__law_condition) [] [] (He.ga K "_law_condition") fd := T.c.def_ 67 (d := D.d__law_condition) rfl
theorem Tx.f__law_perhaps (T : Tx K mg) : ∃ fd, FunD K "_law_perhaps" "_law_perhaps" (defArgs s__law_perhaps) (defBody s__law_perhaps) (defScope s__law_perhaps) [] [] (He.ga K "_law_perhaps") fd := T.c.def_ 68 (d := D.d__law_perhaps) rfl
theorem Tx.f__law_question (T : Tx K mg) : ∃ fd, FunD K "_law_question" "_law_question" (defArgs s__law_question) (defBody s__law_question) (defScope s__law_question) [] [] (He.ga K "_law_question") fd := T.c.def_ 69 (d := D.d__law_question) rfl
theorem Tx.f__law_rows (T : Tx K mg) : ∃ fd, FunD K "_law_rows" "_law_rows" (defArgs s__law_rows) (defBody s__law_rows) (defScope s__law_rows) [] [] (He.ga K "_law_rows") fd := T.c.def_ 70 (d := D.d__law_rows) rfl
theorem Tx.f__law_form (T : Tx K mg) : ∃ fd, FunD K "_law_form" "_law_form" (defArgs s__law_form) (defBody s__law_form) (defScope s__law_form) [] [] (He.ga K "_law_form") fd := T.c.def_ 71 (d := D.d__law_form) rfl
theorem Tx.f__law_made_condition (T : Tx K mg) : ∃ fd, FunD K "_law_made_condition" "_law_made_condition" (defArgs s__law_made_condition) (defBody s__law_made_condition) (defScope s__law_made_condition) [] [] (He.ga K "_law_made_condition") fd := T.c.def_ 72 (d := D.d__law_made_condition) rfl
theorem Tx.f__law_made_row (T : Tx K mg) : ∃ fd, FunD K "_law_made_row" "_law_made_row" (defArgs s__law_made_row) (defBody s__law_made_row) (defScope s__law_made_row) [] [] (He.ga K "_law_made_row") fd := T.c.def_ 73 (d := D.d__law_made_row) rfl
theorem Tx.f__law_all (T : Tx K mg) : ∃ fd, FunD K "_law_all" "_law_all" (defArgs s__law_all) (defBody s__law_all) (defScope s__law_all) [] [] (He.ga K "_law_all") fd := T.c.def_ 74 (d := D.d__law_all) rfl
theorem Tx.f__law_spoilt_fields (T : Tx K mg) : ∃ fd, FunD K "_law_spoilt_fields" "_law_spoilt_fields" (defArgs s__law_spoilt_fields) (defBody s__law_spoilt_fields) (defScope s__law_spoilt_fields) [] [] (He.ga K "_law_spoilt_fields") fd := T.c.def_ 75 (d := D.d__law_spoilt_fields) rfl
theorem Tx.f__law_any_condition (T : Tx K mg) : ∃ fd, FunD K "_law_any_condition" "_law_any_condition" (defArgs s__law_any_condition) (defBody s__law_any_condition) (defScope s__law_any_condition) [] [] (He.ga K "_law_any_condition") fd := T.c.def_ 76 (d := D.d__law_any_condition) rfl
theorem Tx.f__law_spoilt (T : Tx K mg) : ∃ fd, FunD K "_law_spoilt" "_law_spoilt" (defArgs s__law_spoilt) (defBody s__law_spoilt) (defScope s__law_spoilt) [] [] (He.ga K "_law_spoilt") fd := T.c.def_ 77 (d := D.d__law_spoilt) rfl
theorem Tx.f__law_big (T : Tx K mg) : ∃ fd, FunD K "_law_big" "_law_big" (defArgs s__law_big) (defBody s__law_big) (defScope s__law_big) [] [] (He.ga K "_law_big") fd := T.c.def_ 78 (d := D.d__law_big) rfl
theorem Tx.f__law_is_name (T : Tx K mg) : ∃ fd, FunD K "_law_is_name" "_law_is_name" (defArgs s__law_is_name) (defBody s__law_is_name) (defScope s__law_is_name) [] [] (He.ga K "_law_is_name") fd := T.c.def_ 79 (d := D.d__law_is_name) rfl
theorem Tx.f__law_spoken (T : Tx K mg) : ∃ fd, FunD K "_law_spoken" "_law_spoken" (defArgs s__law_spoken) (defBody s__law_spoken) (defScope s__law_spoken) [] [] (He.ga K "_law_spoken") fd := T.c.def_ 80 (d := D.d__law_spoken) rfl
theorem Tx.f__law_heard (T : Tx K mg) : ∃ fd, FunD K "_law_heard" "_law_heard" (defArgs s__law_heard) (defBody s__law_heard) (defScope s__law_heard) [] [] (He.ga K "_law_heard") fd := T.c.def_ 81 (d := D.d__law_heard) rfl
theorem Tx.f__law_conditions_amiss (T : Tx K mg) : ∃ fd, FunD K "_law_conditions_amiss" "_law_conditions_amiss" (defArgs s__law_conditions_amiss) (defBody s__law_conditions_amiss) (defScope s__law_conditions_amiss) [] [] (He.ga K "_law_conditions_amiss") fd := T.c.def_ 82 (d := D.d__law_conditions_amiss) rfl
theorem Tx.f__law_fields_amiss (T : Tx K mg) : ∃ fd, FunD K "_law_fields_amiss" "_law_fields_amiss" (defArgs s__law_fields_amiss) (defBody s__law_fields_amiss) (defScope s__law_fields_amiss) [] [] (He.ga K "_law_fields_amiss") fd := T.c.def_ 83 (d := D.d__law_fields_amiss) rfl
theorem Tx.f__law_amiss (T : Tx K mg) : ∃ fd, FunD K "_law_amiss" "_law_amiss" (defArgs s__law_amiss) (defBody s__law_amiss) (defScope s__law_amiss) [] [] (He.ga K "_law_amiss") fd := T.c.def_ 84 (d := D.d__law_amiss) rfl
theorem Tx.f__law_due (T : Tx K mg) : ∃ fd, FunD K "_law_due" "_law_due" (defArgs s__law_due) (defBody s__law_due) (defScope s__law_due) [] [] (He.ga K "_law_due") fd := T.c.def_ 85 (d := D.d__law_due) rfl
theorem Tx.f__law_said (T : Tx K mg) : ∃ fd, FunD K "_law_said" "_law_said" (defArgs s__law_said) (defBody s__law_said) (defScope s__law_said) [] [] (He.ga K "_law_said") fd := T.c.def_ 86 (d := D.d__law_said) rfl
theorem Tx.f_law (T : Tx K mg) : ∃ fd, FunD K "law" "law" (defArgs s_law) (defBody s_law) (defScope s_law) [] [] (He.ga K "law") fd := T.c.def_ 87 (d := D.d_law) rfl
end
end K3
end A0_part
section V0_part
set_option Elab.async false
set_option linter.all false
set_option maxRecDepth 100000
set_option maxHeartbeats 0
namespace L2
open PySem PySem.Spec PyProof.Rows
/-! ### a def and its promise, for all callers -/
structure Ok (P : Program) (w : World) (K : PySem.W.Frag) (mg : Str → Option Value) (base : Heap) (k : Nat) (f : Addr) (ps : List Str) (sp : Sp) : Prop where
  run : ∃ fd, FnOk P w K mg base (L2.CX P w) k f fd ps sp ∧ Binds K fd ps [] ∧ PySem.W.keepIn K (.ref f) = true
section
variable {X : Cx} {k : Nat} {f : Addr} {ps : List Str} {sp : Sp} {x : Str} {e : Expr} {es : List Expr} {p pos : Pos} {t : TA}
/-- f(e, ..), nothing is raised -/
theorem pe_f (O : Ok X.prog X.w X.K X.mg X.base k f ps sp) (hr : Room k X.A) (hm : X.mg x = some (.ref f)) (ha : PA X (e :: es) t) (hg : Gl X x := by rfl) (hdb : (x == ("__debug__" : Str)) = false := by decide)
    (he : starEach (e :: es) X.env = (false, eval e X.env) :: starEach es X.env := by rfl) (hpl : (backTo pos (starEach es X.env)).any (·.1) = false := by rfl) :
    PE X (.Call (.Name x p) (e :: es) [] pos) (tCall sp [] E0 t) := by
  obtain ⟨fd, F, b, kp⟩ := O.run
  exact pe_call F hr hg hm kp b .nil passL ha hdb he hpl
/-- f(e, ..), what is raised is wished for by W at the slots -/
theorem pe_fE {W : WX} (tk : Takes X W) (O : Ok X.prog X.w X.K X.mg X.base k f ps sp) (hr : Room k X.A) (hm : X.mg x = some (.ref f)) (ha : PA X (e :: es) t) (hg : Gl X x := by rfl) (hdb : (x == ("__debug__" : Str)) = false := by decide)
    (he : starEach (e :: es) X.env = (false, eval e X.env) :: starEach es X.env := by rfl) (hpl : (backTo pos (starEach es X.env)).any (·.1) = false := by rfl) :
    PE X (.Call (.Name x p) (e :: es) [] pos) (tCallS sp (WE W) t) := by
  obtain ⟨fd, F, b, kp⟩ := O.run
  exact pe_callS F hr hg hm kp b (fun σ => passAt tk σ) ha hdb he hpl
theorem pe_gint {i : Int} (hm : ∃ t, X.mg x = some (.int i t)) (hg : Gl X x := by rfl) (hd : (x == ("__debug__" : Str)) = false := by decide) : PE X (.Name x pos) (tC (.int i)) := by
  obtain ⟨t, h⟩ := hm
  exact pe_glob hg h ⟨_, rfl⟩ hd
theorem pe_gstr {i : Str} (hm : ∃ t, X.mg x = some (.str i t)) (hg : Gl X x := by rfl) (hd : (x == ("__debug__" : Str)) = false := by decide) : PE X (.Name x pos) (tC (.str i)) := by
  obtain ⟨t, h⟩ := hm
  exact pe_glob hg h ⟨_, rfl⟩ hd
theorem pe_gref {a : Addr} (hm : X.mg x = some (.ref a)) (hg : Gl X x := by rfl) (hd : (x == ("__debug__" : Str)) = false := by decide) : PE X (.Name x pos) (tC (.ref a)) := pe_glob hg hm rfl hd
end
/-! ### readings, step by step -/
section
variable {σ : St} {H : Hp} {D : Ends} {t u : TS} {te ta tb tc : TE} {tt tt2 : TT} {tr : TA} {Q : VK} {QB : Bool → Hp → Prop} {QA : List V → Hp → Prop} {i : Nat} {v x y : V}
theorem w_seq (h : t { D with nx := u D } σ H) : tSeq t u D σ H := h
theorem w_next (h : D.nx σ H) : tNext D σ H := h
theorem w_set (h : te σ H fun x H1 => D.nx (σ.set i (some x)) H1) : tAsg te (gName i) D σ H := h
theorem w_drop (h : te σ H fun _ H1 => D.nx σ H1) : tDrop te D σ H := h
theorem w_ret (h : te σ H D.rt) : tRet te D σ H := h
theorem w_retN (h : D.rt .non H) : tRetN D σ H := h
theorem w_if (h : tt σ H fun b H1 => if b = true then t D σ H1 else u D σ H1) : tIfS tt t u D σ H := h
theorem w_var (h : σ[i]? = some (some v)) (q : Q v H) : tVar i σ H Q := ⟨v, h, q⟩
theorem w_c (q : Q v H) : tC v σ H Q := q
theorem w_nil (q : QA [] H) : tNil σ H QA := q
theorem w_cons (h : te σ H fun x H1 => tr σ H1 fun xs H2 => QA (x :: xs) H2) : tCons te tr σ H QA := h
theorem w_op {r : R2} (h : ta σ H fun x H1 => tb σ H1 fun y H2 => r x y H2 Q) : tOp r ta tb σ H Q := h
theorem w_un {r : V → Hp → VK → Prop} (h : ta σ H fun x H1 => r x H1 Q) : tUn r ta σ H Q := h
theorem w_test (h : te σ H fun x H' => ∃ k, x = .bl k ∧ QB k H') : tTest te σ H QB := h
theorem w_tB (h : te σ H fun x H' => ∃ k, x = .bl k ∧ QB k H') : tB te σ H QB := h
theorem w_not (h : tt σ H fun c H1 => QB (!c) H1) : tNot tt σ H QB := h
theorem w_and (h : tt σ H fun c H1 => if c = true then tt2 σ H1 QB else QB false H1) : tAnd tt tt2 σ H QB := h
theorem w_or (h : tt σ H fun c H1 => if c = true then QB true H1 else tt2 σ H1 QB) : tOr tt tt2 σ H QB := h
theorem w_bl {b : Bool} {P : Bool → Prop} (h : P b) : ∃ k, V.bl b = .bl k ∧ P k := ⟨b, rfl, h⟩
theorem w_nT {A B : Prop} (h : B) : if (!true) = true then A else B := iteF h
theorem w_nF {A B : Prop} (h : A) : if (!false) = true then A else B := iteT h
theorem w_nN {A B : Prop} {b : Bool} (h : if b = true then B else A) : if (!b) = true then A else B := by cases b <;> exact h
theorem w_andV (h : ta σ H fun x H1 => ∃ c, x = .bl c ∧ if c = true then tb σ H1 Q else Q (.bl false) H1) : tAndV ta tb σ H Q := h
theorem w_orV (h : ta σ H fun x H1 => ∃ c, x = .bl c ∧ if c = true then Q (.bl true) H1 else tb σ H1 Q) : tOrV ta tb σ H Q := h
theorem w_notV (h : ta σ H fun x H1 => ∃ c, x = .bl c ∧ Q (.bl (!c)) H1) : tNotV ta σ H Q := h
theorem w_ifE (h : tt σ H fun c H1 => if c = true then ta σ H1 Q else tb σ H1 Q) : tIf tt ta tb σ H Q := h
theorem w_chain {r r' : R2} (h : ta σ H fun x H1 => tb σ H1 fun y H2 => r x y H2 fun z H3 => ∃ k, z = .bl k ∧ (if k = true then tc σ H3 fun w' H4 => r' y w' H4 Q else Q (.bl false) H3)) : tChain r r' ta tb tc σ H Q := h
theorem w_i0 {g : Int → Int → V} {i j : Int} (h : Q (g i j) H) : rI0 g (.int i) (.int j) H Q := ⟨i, j, rfl, rfl, h⟩
theorem w_i {C : Int → Int → Prop} {g : Int → Int → V} {i j : Int} (c : C i j) (h : Q (g i j) H) : rI C g (.int i) (.int j) H Q := ⟨i, j, rfl, rfl, c, h⟩
theorem w_call {sp : Sp} {dvs : List V} {E : XK} (h : tr σ H fun vs H1 => sp (vs ++ dvs) H1 Q E) : tCall sp dvs E tr σ H Q := h
theorem w_callS {sp : Sp} {E : St → XK} (h : tr σ H fun vs H1 => sp vs H1 Q (E σ)) : tCallS sp E tr σ H Q := h
theorem w_cB {r : List V → Hp → VK → Prop} (h : tr σ H fun vs H1 => r vs H1 Q) : tCB r tr σ H Q := h
theorem w_tup (h : tr σ H fun xs H1 => xs.length ≤ sizeLine ∧ ∀ p, H1 p = none → Q (.ref p) (upd H1 p (.tup xs))) : tTup tr σ H Q := h
theorem w_lst (h : tr σ H fun xs H1 => xs.length ≤ sizeLine ∧ ∀ p, H1 p = none → Q (.ref p) (upd H1 p (.lst xs))) : tLst tr σ H Q := h
theorem w_fldV {K : PySem.W.Frag} {f : Str} (h : ta σ H fun x H1 => ∃ a C dx fs v, x = .ref a ∧ H1 a = some (.ins C dx fs) ∧ Cls K C ∧ NoAttr K C f ∧ fs.lookup f = some v ∧ Q v H1) : tFld K ta f σ H Q := h
theorem w_eqS {a b : Str} (h : Q (.bl (decide (V.str a = V.str b))) H) : rEq (.str a) (.str b) H Q := ⟨rfl, h⟩
theorem w_neF {A B : Prop} {a b : Bool} (h : if b = true then A else B) : if (if false = true then a else b) = true then A else B := by
  rw [if_neg Bool.false_ne_true]
  exact h
theorem w_neT {A B : Prop} {a b : Bool} (h : if a = true then A else B) : if (if true = true then a else b) = true then A else B := by
  rw [if_pos (rfl : true = true)]
  exact h
theorem w_yes (h : QB true H) : tYes σ H QB := h
theorem w_notN (h : ta σ H fun x H1 => Q (.bl (!decide (x = .non))) H1) : tNotN ta σ H Q := h
theorem w_isN (h : ta σ H fun x H1 => Q (.bl (decide (x = .non))) H1) : tIsN ta σ H Q := h
theorem w_gname {QS : L2.St → Hp → Prop} (h : QS (σ.set i (some v)) H) : gName i v σ H QS := h
theorem w_gsub {to ti : TE} {t : TSet} {QS : L2.St → Hp → Prop} (h : to σ H fun o H1 => ti σ H1 fun i H2 => t o i v H2 fun H3 => QS σ H3) : gSub to ti t v σ H QS := h
theorem w_asg {g : TG} (h : te σ H fun x H1 => g x σ H1 D.nx) : tAsg te g D σ H := h
theorem w_ixL {K : PySem.W.Frag} {p : Addr} {xs : List V} {i : Int} (hl : H p = some (.lst xs)) (ha : atI xs i = some v) (h : Q v H) : rIxL K (.ref p) (.int i) H Q := ⟨p, xs, i, v, rfl, rfl, SqL.of hl, ha, h⟩
theorem w_ixT {K : PySem.W.Frag} {p : Addr} {xs : List V} {i : Int} (hl : SqT K H p xs) (ha : atI xs i = some v) (h : Q v H) : rIxT K (.ref p) (.int i) H Q := ⟨p, xs, i, v, rfl, rfl, hl, ha, h⟩
theorem w_setL {p : Addr} {xs : List V} {i : Int} {j : Nat} {QH : Hp → Prop} (hl : H p = some (.lst xs)) (hj : ixN xs.length i = some j) (h : QH (upd H p (.lst (xs.set j v)))) : rSetL (.ref p) (.int i) v H QH := ⟨p, xs, i, j, rfl, rfl, hl, hj, h⟩
theorem w_iteT {A B : Prop} (h : A) : if true = true then A else B := iteT h
theorem w_iteF {A B : Prop} (h : B) : if false = true then A else B := iteF h
end
end L2
namespace L2
open PySem PySem.Spec PyProof.Rows
theorem Same.new {H : Hp} {p : Addr} (h : H p = none) (o : HO) : Same H (upd H p o) := fun b u q => by rw [upd_ne (ne_of_none q h)]; exact q
theorem Same.at {H H' : Hp} (s : Same H H') {a : Addr} {o : HO} (h : H a = some o) : H' a = some o := s _ _ h
/-- an object that H does not know may change -/
theorem Same.mut {H H' : Hp} {p : Addr} {o : HO} (e : Same H H') (h : H p = none) : Same H (upd H' p o) := fun a u ha => by
  rw [upd_ne (ne_of_none ha h)]
  exact e a u ha
theorem Same.sqt {K : PySem.W.Frag} {H H' : Hp} {a : Addr} {xs : List V} (e : Same H H') (h : SqT K H a xs) : SqT K H' a xs := by
  rcases h with (h | ⟨o, h⟩) | h
  · exact .inl (.inl (e _ _ h))
  · exact .inl (.inr ⟨o, e _ _ h⟩)
  · exact .inr h
/-- instances and tuples stand -/
def keepF : List (Str × V) → Bool
  | [] => false
  | [(f, _)] => decide (f = ("inner" : Str))
  | [_, (g, _)] => !decide (g = ("questions" : Str))
  | _ => true
def keepO : HO → Bool
  | .ins _ _ fs => keepF fs
  | .tup _ => true
  | .frz _ _ => true
  | _ => false
def SI (H H' : Hp) : Prop := ∀ b o, keepO o = true → H b = some o → H' b = some o
theorem Same.si {H H' : Hp} (e : Same H H') : SI H H' := fun b o _ h => e b o h
theorem SI.trans {H H1 H2 : Hp} (a : SI H H1) (b : SI H1 H2) : SI H H2 := fun c o k h => b c o k (a c o k h)
theorem SI.refl (H : Hp) : SI H H := fun _ _ _ h => h
theorem SI.upd {H : Hp} {p : Addr} {u : HO} (h : H p = some u) (hu : keepO u = false) (o : HO) : SI H (upd H p o) := fun b o' k q => by
  rw [upd_ne (fun z => by rw [z, h] at q; rw [← Option.some.inj q, hu] at k; cases k)]
  exact q
theorem SI.sqt {K : PySem.W.Frag} {H H' : Hp} {a : Addr} {xs : List V} (e : SI H H') (h : SqT K H a xs) : SqT K H' a xs := by
  rcases h with (h | ⟨o, h⟩) | h
  · exact .inl (.inl (e _ _ rfl h))
  · exact .inl (.inr ⟨o, e _ _ rfl h⟩)
  · exact .inr h
/-- [te for c in z]: each element is f c -/
theorem lc_strF {z : Str} {f : Nat → V} {σ : St} {i : Nat} {vs : List Nat} {ta te : TE} {H : Hp} {Q : VK} (ha : ∀ (Q : VK), Q (.str z) H → ta σ H Q) (hz : z.cps.size ≤ 1000) (hw : ∀ x, wipe ((wipe σ vs).set i (some x)) vs = wipe σ vs)
    (he : ∀ (c : Nat) (H' : Hp) (Q : VK), Same H H' → Q (f c) H' → te ((wipe σ vs).set i (some (.str ⟨#[c]⟩))) H' Q)
    (q : ∀ (p : Addr) (H' : Hp), H p = none → Same H H' → H' p = some (.lst (z.cps.toList.map f)) → Q (.ref p) H') : tLc (iStr ta) (gName i) tYes te vs σ H Q := by
  refine ha _ ⟨z, rfl, fun p hp => ?_⟩
  refine lc_it (n := z.cps.size) walk_str (fun n H' => Same H H' ∧ H' p = some (.lst ((z.cps.toList.take n).map f))) ⟨Same.new hp _, upd_same⟩ (fun _ _ _ _ => trivial) ?_ ?_
  · rintro n x H1 H2 hn ⟨s1, e1⟩ ⟨rfl, c, hc, rfl⟩
    refine ⟨hw _, ?_⟩
    refine w_yes ?_
    refine w_iteT ?_
    refine (he c _ _ s1 ⟨_, e1, ?_, s1.mut hp, ?_⟩)
    · rw [List.length_map, List.length_take, Array.length_toList]
      exact Nat.lt_of_lt_of_le (Nat.lt_of_le_of_lt (Nat.min_le_left _ _) (Nat.lt_of_lt_of_le hn hz)) (by decide)
    · rw [upd_same, List.take_add_one]
      have : z.cps.toList[n]? = some c := by rw [Array.getElem?_toList]; exact hc
      rw [this]
      simp
  · rintro H' ⟨s1, e1⟩
    refine q p H' hp s1 ?_
    rw [e1, List.take_of_length_le (by rw [Array.length_toList] <;> exact Nat.le_refl _)]
end L2
end V0_part
section P1_part
set_option Elab.async false
set_option linter.all false
set_option maxRecDepth 100000
set_option maxHeartbeats 1000000
set_option pp.deepTerms.threshold 5
open PySem PySem.Spec PyProof.Rows L2
/-- go on as far as nothing is open -/
local macro_rules | `(tactic| walk_at "go") => `(tactic| repeat (first
  | with_reducible refine w_seq ?_ | with_reducible refine w_next ?_ | with_reducible refine w_set ?_ | with_reducible refine w_drop ?_ | with_reducible refine w_ret ?_ | with_reducible refine w_retN ?_
  | with_reducible refine w_if ?_ | ((with_reducible refine' w_var ?hv ?_); (case hv => exact rfl)) | with_reducible refine w_c ?_ | with_reducible refine w_nil ?_ | with_reducible refine w_cons ?_ | with_reducible refine w_op ?_ | with_reducible refine w_un ?_
  | with_reducible refine w_test ?_ | with_reducible refine w_tB ?_ | with_reducible refine w_not ?_ | with_reducible refine w_and ?_ | with_reducible refine w_or ?_ | with_reducible refine w_bl ?_
  | with_reducible refine w_andV ?_ | with_reducible refine w_orV ?_ | with_reducible refine w_notV ?_ | with_reducible refine w_ifE ?_ | with_reducible refine w_chain ?_ | with_reducible refine w_i0 ?_
  | with_reducible refine w_call ?_ | with_reducible refine w_callS ?_ | with_reducible refine w_cB ?_ | with_reducible refine w_tup ?_ | with_reducible refine w_lst ?_ | with_reducible refine w_fldV ?_
  | with_reducible refine w_neF ?_ | with_reducible refine w_neT ?_ | with_reducible refine w_notN ?_ | with_reducible refine w_isN ?_ | with_reducible refine w_gname ?_ | with_reducible refine w_gsub ?_ | with_reducible refine w_asg ?_ | with_reducible refine w_yes ?_ | with_reducible refine w_nT ?_ | with_reducible refine w_nF ?_ | with_reducible refine w_iteT ?_ | with_reducible refine w_iteF ?_))
namespace K3
/-! ### names -/
def lets : Str := "abcdefghijklmnopqrstuvwxyz"
def figs : Str := "0123456789"
def isName (z : Str) : Bool := decide (1 ≤ z.length) && (decide (z.length ≤ 8) && (match z.cps.toList with
  | [] => false
  | c :: r => decide (c ∈ lets.cps.toList) && (c :: r).all fun c => decide (c ∈ lets.cps.toList) || decide (c ∈ figs.cps.toList)))
def spIsName : Sp := fun vs H Q _ => ∃ z : Str, vs = [.str z] ∧ z.length ≤ 1000 ∧ ∀ H', Same H H' → Q (.bl (isName z)) H'
section
variable {P : Program} {w : World} {K : PySem.W.Frag} {mg : Str → Option Value} {base : Heap}
theorem sc_is_name : FnScope ["text", "sign"] ["text"] (defScope s_is_name) := ⟨rfl, rfl, rfl, by decide +kernel, rfl, by decide +kernel, by decide +kernel⟩
theorem ok_is_name (T : Tx K mg) : Ok P w K mg base 1 (He.ga K "is_name") ["text"] spIsName := by
  obtain ⟨fd, F⟩ := T.f_is_name
  refine ⟨fd, F.ok sc_is_name (fun vs H Q E h => ?_) (fun cdv A outer s H vs Q E hr h => ?_), F.bindsN fun _ _ _ _ _ _ us hl => match us, hl with | [_], _ => rfl, F.kp⟩
  · obtain ⟨z, rfl, _⟩ := h
    rfl
  obtain ⟨z, rfl, hz, q⟩ := h
  refine ⟨_, pss_cons (ps_if (pt_not (pt_chain op_le op_le pe_int (pe_callB call_len_str (by rfl) T.z_len PySem.boot_len (pa_cons (pv 0) pa_nil)) (pe_gint T.i_LONGEST_NAME))) (pss_one (ps_ret pe_bl)) pss_nil)
    (pss_one (ps_ret (pe_and (pe_cmpR op_in_sign (pe_ix ix_str (pv 0) pe_int (fun _ _ => rfl)) (pe_gstr T.s_LETTERS) rfl)
      (pe_one (pe_callB (cr_all rfl) (by rfl) T.z_all (by decide +kernel) (pa_cons (pe_lc (own := [("sign", 1)]) (g := gName 1) (by rfl) sc_is_name.nd (pi_str (pv 0)) (blkOk_by (own := [("sign", 1)]) (N := ["text", "sign"]) (sc := defScope s_is_name) (by decide +kernel))
        (fun _ _ _ _ _ => pg_name (i := 1) sc_is_name.nd rfl (Or.inl rfl)) (fun _ _ _ _ _ => pts_nil) (fun _ _ _ _ _ => pe_or (pe_cmpR op_in_sign (pv 1) (pe_gstr T.s_LETTERS) rfl) (pe_one (pe_cmpR op_in_sign (pv 1) (pe_gstr T.s_FIGURES) rfl)))) pa_nil)))))), ?_⟩
  walk_at "go"
  refine ⟨z, rfl, Nat.le_trans hz (by decide), ?_⟩
  walk_at "go"
  have key : ∀ H', Same H H' → ∀ b, isName z = b → Q (.bl b) H' := fun H' e b h => h ▸ q H' e
  by_cases h1 : (1 : Int) ≤ (z.length : Int)
  · rw [decide_eq_true h1]
    walk_at "go"
    by_cases h2 : (z.length : Int) ≤ 8
    · rw [decide_eq_true h2]
      walk_at "go"
      obtain ⟨c, r, hc⟩ : ∃ c r, z.cps.toList = c :: r := by
        cases e : z.cps.toList with
        | nil =>
          have : z.length = 0 := by show z.cps.size = 0; rw [← Array.length_toList, e]; rfl
          omega
        | cons c r => exact ⟨c, r, rfl⟩
      refine ⟨z, 0, c, rfl, rfl, Nat.le_trans hz (by decide), by rw [hc]; exact atI_nat (j := 0) rfl, ?_⟩
      walk_at "go"
      refine ⟨c, lets, rfl, rfl, ?_⟩
      walk_at "go"
      cases h3 : decide (c ∈ lets.cps.toList) with
      | false =>
        walk_at "go"
        refine key _ (Same.refl _) _ ?_
        unfold isName
        rw [hc]
        simp only [h3, Bool.false_and, Bool.and_false]
      | true =>
        walk_at "go"
        refine lc_strF (z := z) (f := fun c => .bl (decide (c ∈ lets.cps.toList) || decide (c ∈ figs.cps.toList))) (fun Q h => w_var rfl h) hz (fun _ => rfl) (fun c H' Q e k => ?_) (fun p H' hp e h => ?_)
        · walk_at "go"
          refine ⟨c, lets, rfl, rfl, ?_⟩
          walk_at "go"
          cases h4 : decide (c ∈ lets.cps.toList) with
          | true =>
            walk_at "go"
            rw [h4] at k
            exact k
          | false =>
            walk_at "go"
            refine ⟨c, figs, rfl, rfl, ?_⟩
            rw [h4] at k
            exact k
        · walk_at "go"
          refine ⟨p, z.cps.toList.map fun c => decide (c ∈ lets.cps.toList) || decide (c ∈ figs.cps.toList), rfl, SqL.of (by rw [h, List.map_map]; rfl), ?_⟩
          refine key _ e _ ?_
          unfold isName
          rw [decide_eq_true (show 1 ≤ z.length by omega), decide_eq_true (show z.length ≤ 8 by omega), hc]
          simp only [h3, Bool.true_and, List.all_map, Function.comp_def, id]
    · rw [decide_eq_false h2]
      walk_at "go"
      refine key _ (Same.refl _) _ ?_
      unfold isName
      rw [decide_eq_false (show ¬ z.length ≤ 8 by omega)]
      simp
  · rw [decide_eq_false h1]
    walk_at "go"
    refine key _ (Same.refl _) _ ?_
    unfold isName
    rw [decide_eq_false (show ¬ 1 ≤ z.length by omega)]
    simp
end
end K3
end P1_part
section P2_part
set_option Elab.async false
set_option linter.all false
set_option maxRecDepth 100000
set_option maxHeartbeats 1000000
set_option pp.deepTerms.threshold 5
open PySem PySem.Spec PyProof.Rows L2
/-- go on as far as nothing is open -/
local macro_rules | `(tactic| walk_at "go") => `(tactic| repeat (first
  | with_reducible refine w_seq ?_ | with_reducible refine w_next ?_ | with_reducible refine w_set ?_ | with_reducible refine w_drop ?_ | with_reducible refine w_ret ?_ | with_reducible refine w_retN ?_
  | with_reducible refine w_if ?_ | ((with_reducible refine' w_var ?hv ?_); (case hv => exact rfl)) | with_reducible refine w_c ?_ | with_reducible refine w_nil ?_ | with_reducible refine w_cons ?_ | with_reducible refine w_op ?_ | with_reducible refine w_un ?_
  | with_reducible refine w_test ?_ | with_reducible refine w_tB ?_ | with_reducible refine w_not ?_ | with_reducible refine w_and ?_ | with_reducible refine w_or ?_ | with_reducible refine w_bl ?_
  | with_reducible refine w_andV ?_ | with_reducible refine w_orV ?_ | with_reducible refine w_notV ?_ | with_reducible refine w_ifE ?_ | with_reducible refine w_chain ?_ | with_reducible refine w_i0 ?_
  | with_reducible refine w_call ?_ | with_reducible refine w_callS ?_ | with_reducible refine w_cB ?_ | with_reducible refine w_tup ?_ | with_reducible refine w_lst ?_ | with_reducible refine w_fldV ?_
  | with_reducible refine w_neF ?_ | with_reducible refine w_neT ?_ | with_reducible refine w_notN ?_ | with_reducible refine w_isN ?_ | with_reducible refine w_gname ?_ | with_reducible refine w_gsub ?_ | with_reducible refine w_asg ?_ | with_reducible refine w_yes ?_ | with_reducible refine w_nT ?_ | with_reducible refine w_nF ?_ | with_reducible refine w_iteT ?_ | with_reducible refine w_iteF ?_))
namespace K3
/-! ### the refusals -/
theorem and2 {a b : Bool} (h : (a && b) = true) : a = true ∧ b = true := Bool.and_eq_true_iff.mp h
section
variable {K : PySem.W.Frag} {mg : Str → Option Value}
theorem oexcB_ok {C : Addr} (h : oexcB K C = true) : ∃ nm q N bs bm sn sub ab col dd k0 k1 k2 k3 k5, K.lookup C = some (excClassObj nm q C N bs bm true sn sub ab col dd k0 k1 k2 k3 k5 "ValueError.__new__") ∧ PySem.HandSPX.refsVE bm = true := by
  unfold oexcB at h
  split at h
  · rename_i dd cd sl ho
    split at h
    · rename_i C' bm k0 k1 k2 k3 n k5 hm hs
      simp only [Bool.and_eq_true, beq_iff_eq, Bool.not_eq_true'] at h
      obtain ⟨rfl, rfl, hdel, hhd, ht⟩ := h
      obtain ⟨nm, bs, mro, ns, qn, hd, sn, sub, ab, col, del⟩ := cd
      dsimp only at hm hdel hhd
      subst hm hdel hhd
      have hsl : sl = #[k0, k1, k2, k3, some (.builtin "ValueError.__new__"), k5] := by
        obtain ⟨l⟩ := sl
        simp only at hs
        rw [hs]
      subst hsl
      exact ⟨nm, qn, ns, bs, bm, sn, sub, ab, col, dd, k0, k1, k2, k3, k5, ho, ht⟩
    · cases h
  · cases h
/-- what K says of the error class x -/
structure ErrC (K : PySem.W.Frag) (x : Str) : Prop where
  o : OexC K (He.ga K x)
  f : XfC K (He.ga K x)
  k : kclsB K (He.ga K x) = true
  m : PySem.W.exmOne K (.ref (He.ga K x)) (.ref (He.ga K "HallError")) = some true
  v : PySem.W.kitOne K (.ref (He.ga K x)) (.type "ValueError") = some true
  i : ∀ y ∈ errN, PySem.W.kitOne K (.ref (He.ga K x)) (.ref (He.ga K y)) = some (x == y)
theorem Tx.err (T : Tx K mg) {x : Str} (hx : x ∈ errN) : ErrC K x := by
  have e := (and2 (and2 T.e).2).1
  have q := List.all_eq_true.mp e x hx
  obtain ⟨q1, q⟩ := and2 q
  obtain ⟨q2, q⟩ := and2 q
  obtain ⟨q3, q⟩ := and2 q
  obtain ⟨q4, q5⟩ := and2 q
  obtain ⟨r1, r⟩ := and2 (show (oexcB K (He.ga K x) && _) = true from q1)
  obtain ⟨r2, r⟩ := and2 r
  obtain ⟨r3, r⟩ := and2 r
  obtain ⟨r4, r5⟩ := and2 r
  have X := xfB_ok r5
  exact ⟨⟨oexcB_ok r1, eqB_ok r2, X.exC, eqB_ok r3, r4⟩, X, q2, eqB_ok q3, eqB_ok q4, fun y hy => eqB_ok (List.all_eq_true.mp q5 y hy)⟩
end
/-- an exception of the error class x, with these fields -/
def Err (K : PySem.W.Frag) (x : Str) (fs : List (Str × V)) (cls : Value) (d : Option Addr) (H : Hp) : Prop := cls = .ref (He.ga K x) ∧ ∃ dd, d = some dd ∧ H dd = some (.xd fs)
/-- __init__(self, f) of an error class -/
def spE1 (K : PySem.W.Frag) (x f : Str) : Sp := fun vs H Q _ => ∃ (a : Addr) (v : V), vs = [.ref a, v] ∧ H a = some (exo a (He.ga K x) none) ∧
  ∀ dx, H dx = none → dx ≠ a → Q .non (upd (upd H dx (exd dx [(f, v)])) a (exo a (He.ga K x) (some dx)))
def spE2 (K : PySem.W.Frag) (x f g : Str) : Sp := fun vs H Q _ => ∃ (a : Addr) (v u : V), vs = [.ref a, v, u] ∧ H a = some (exo a (He.ga K x) none) ∧
  ∀ dx, H dx = none → dx ≠ a → Q .non (upd (upd (upd H dx (exd dx [(f, v)])) a (exo a (He.ga K x) (some dx))) dx (exd dx [(g, u), (f, v)]))
/-- what the making of it asks: all that was tracked stands, its dict is new -/
def gErr1 (K : PySem.W.Frag) (x f : Str) (v : V) (H1 : Hp) (Q : XK) : Prop := [v].length ≤ 1000 ∧ ∀ a, H1 a = none → spE1 K x f (.ref a :: ([v] ++ [])) (upd H1 a (exo a (He.ga K x) none))
  (fun u H2 => u = .non ∧ ∃ (d : Addr) (fs : List (Str × V)), H2 a = some (exo a (He.ga K x) (some d)) ∧ H2 d = some (exd d fs) ∧ H1 d = none ∧ Q (.ref (He.ga K x)) (some d) (upd (del H2 a) d (.xd fs))) (fun _ _ _ => False)
def gErr2 (K : PySem.W.Frag) (x f g : Str) (v u : V) (H1 : Hp) (Q : XK) : Prop := [v, u].length ≤ 1000 ∧ ∀ a, H1 a = none → spE2 K x f g (.ref a :: ([v, u] ++ [])) (upd H1 a (exo a (He.ga K x) none))
  (fun u H2 => u = .non ∧ ∃ (d : Addr) (fs : List (Str × V)), H2 a = some (exo a (He.ga K x) (some d)) ∧ H2 d = some (exd d fs) ∧ H1 d = none ∧ Q (.ref (He.ga K x)) (some d) (upd (del H2 a) d (.xd fs))) (fun _ _ _ => False)
theorem del_none {H : Hp} {a b : Addr} (h : H a = none) (q : H b = none) : (if b = a then none else H b) = (none : Option HO) := by split <;> first | rfl | exact q
theorem gErr1_of {K : PySem.W.Frag} {x f : Str} {v : V} {H : Hp} {Q : XK} (q : ∀ (d : Addr) (H' : Hp), Same H H' → H' d = some (.xd [(f, v)]) → Q (.ref (He.ga K x)) (some d) H') : gErr1 K x f v H Q := by
  refine ⟨(by show 1 ≤ 1000; decide), fun a ha => ⟨a, v, rfl, upd_same, fun dx hd hne => ⟨rfl, dx, [(f, v)], upd_same, by rw [upd_ne hne]; exact upd_same, ?_, ?_⟩⟩⟩
  · rw [upd_ne hne] at hd
    exact hd
  · rw [upd_ne hne] at hd
    refine q dx _ (fun b o hb => ?_) upd_same
    rw [upd_ne (ne_of_none hb hd), del_ne (ne_of_none hb ha), upd_ne (ne_of_none hb ha), upd_ne (ne_of_none hb hd), upd_ne (ne_of_none hb ha)]
    exact hb
theorem gErr2_of {K : PySem.W.Frag} {x f g : Str} {v u : V} {H : Hp} {Q : XK} (q : ∀ (d : Addr) (H' : Hp), Same H H' → H' d = some (.xd [(g, u), (f, v)]) → Q (.ref (He.ga K x)) (some d) H') : gErr2 K x f g v u H Q := by
  refine ⟨(by show 2 ≤ 1000; decide), fun a ha => ⟨a, v, u, rfl, upd_same, fun dx hd hne => ⟨rfl, dx, [(g, u), (f, v)], by rw [upd_ne (Ne.symm hne)]; exact upd_same, upd_same, ?_, ?_⟩⟩⟩
  · rw [upd_ne hne] at hd
    exact hd
  · rw [upd_ne hne] at hd
    refine q dx _ (fun b o hb => ?_) upd_same
    rw [upd_ne (ne_of_none hb hd), del_ne (ne_of_none hb ha), upd_ne (ne_of_none hb hd), upd_ne (ne_of_none hb ha), upd_ne (ne_of_none hb hd), upd_ne (ne_of_none hb ha)]
    exact hb
def tErr1 (K : PySem.W.Frag) (x f : Str) (te : TE) (W : WX) : TS := fun _ σ H => te σ H fun v H1 => gErr1 K x f v H1 fun cls d H' => W cls d σ H'
def tErr2 (K : PySem.W.Frag) (x f g : Str) (te tu : TE) (W : WX) : TS := fun _ σ H => te σ H fun v H1 => tu σ H1 fun u H2 => gErr2 K x f g v u H2 fun cls d H' => W cls d σ H'
theorem w_err1 {K : PySem.W.Frag} {x f : Str} {te : TE} {W : WX} {D : Ends} {σ : L2.St} {H : Hp} (h : te σ H fun v H1 => gErr1 K x f v H1 fun cls d H' => W cls d σ H') : tErr1 K x f te W D σ H := h
theorem w_err2 {K : PySem.W.Frag} {x f g : Str} {te tu : TE} {W : WX} {D : Ends} {σ : L2.St} {H : Hp} (h : te σ H fun v H1 => tu σ H1 fun u H2 => gErr2 K x f g v u H2 fun cls d H' => W cls d σ H') : tErr2 K x f g te tu W D σ H := h
section
variable {X : Cx} {x f g : Str} {k : Nat} {fI : Addr} {p pos pos2 : Pos} {e e2 : Expr} {te te2 : TE} {ta : TA} {ps : List Str} {W : WX}
theorem ps_err1 (C : ErrC X.K x) (iC : Meth X.K (He.ga X.K x) "__init__" fI) (O : Ok X.prog X.w X.K X.mg X.base k fI ps (spE1 X.K x f)) (hr : Room (k + 1) X.A) (hm : X.mg x = some (.ref (He.ga X.K x))) (tk : Takes X W)
    (ha : PE X e te) (hc : X.calm = true := by rfl) (hg : Gl X x := by rfl) (hdb : (x == ("__debug__" : Str)) = false := by decide) (he : starEach (e :: []) X.env = (false, eval e X.env) :: starEach [] X.env := by rfl) (hpl : (backTo pos (starEach [] X.env)).any (·.1) = false := by rfl) :
    PS X (.Raise (some (.Call (.Name x p) [e] [] pos)) none pos2) (tErr1 X.K x f te W) := by
  obtain ⟨fd, F, b, kp⟩ := O.run
  exact ps_raise (pos := pos2) hc tk (pmk_oex (pos := pos) (p := p) C.o iC.at_ (beq_iff_eq.mp iC.fn) F hr b .nil passL hg hm (pa_cons ha pa_nil he) hdb he hpl)
theorem ps_err2 (C : ErrC X.K x) (iC : Meth X.K (He.ga X.K x) "__init__" fI) (O : Ok X.prog X.w X.K X.mg X.base k fI ps (spE2 X.K x f g)) (hr : Room (k + 1) X.A) (hm : X.mg x = some (.ref (He.ga X.K x))) (tk : Takes X W)
    (ha : PE X e te) (ha2 : PE X e2 te2) (hc : X.calm = true := by rfl) (hg : Gl X x := by rfl) (hdb : (x == ("__debug__" : Str)) = false := by decide) (he : starEach (e :: [e2]) X.env = (false, eval e X.env) :: starEach [e2] X.env := by rfl)
    (he2 : starEach (e2 :: []) X.env = (false, eval e2 X.env) :: starEach [] X.env := by rfl) (hpl : (backTo pos (starEach [e2] X.env)).any (·.1) = false := by rfl) :
    PS X (.Raise (some (.Call (.Name x p) [e, e2] [] pos)) none pos2) (tErr2 X.K x f g te te2 W) := by
  obtain ⟨fd, F, b, kp⟩ := O.run
  exact ps_raise (pos := pos2) hc tk (pmk_oex (pos := pos) (p := p) C.o iC.at_ (beq_iff_eq.mp iC.fn) F hr b .nil passL hg hm (pa_cons ha (pa_cons ha2 pa_nil he2) he) hdb he hpl)
end
section
variable {P : Program} {w : World} {K : PySem.W.Frag} {mg : Str → Option Value} {base : Heap}
theorem sc_NoName : FnScope ["self", "name"] ["self", "name"] (defScope s_NoName_init) := ⟨rfl, rfl, rfl, by decide +kernel, rfl, by decide +kernel, by decide +kernel⟩
theorem ok_NoName (T : Tx K mg) : Ok P w K mg base 1 (He.ma K (He.ga K "NoName") "__init__") ["self", "name"] (spE1 K "NoName" "name") := by
  obtain ⟨fd, F⟩ := T.f_NoName_init
  refine ⟨fd, F.ok sc_NoName (fun vs H Q E h => ?_) (fun cdv A outer s H vs Q E hr h => ?_), F.bindsN fun _ _ _ _ _ _ us hl => match us, hl with | [_, _], _ => rfl, F.kp⟩
  · obtain ⟨a, v, rfl, _⟩ := h
    rfl
  obtain ⟨a, v, rfl, ha, q⟩ := h
  refine ⟨_, pss_one (ps_ost (pv 0) (pv 1)), ?_⟩
  exact ⟨_, rfl, _, rfl, a, _, rfl, (T.err (x := "NoName") (by decide)).o, T.n_NoName_name, .inl ⟨ha, fun dx hd hne => q dx hd hne⟩⟩
theorem sc_Twice : FnScope ["self", "name"] ["self", "name"] (defScope s_Twice_init) := ⟨rfl, rfl, rfl, by decide +kernel, rfl, by decide +kernel, by decide +kernel⟩
theorem ok_Twice (T : Tx K mg) : Ok P w K mg base 1 (He.ma K (He.ga K "Twice") "__init__") ["self", "name"] (spE1 K "Twice" "name") := by
  obtain ⟨fd, F⟩ := T.f_Twice_init
  refine ⟨fd, F.ok sc_Twice (fun vs H Q E h => ?_) (fun cdv A outer s H vs Q E hr h => ?_), F.bindsN fun _ _ _ _ _ _ us hl => match us, hl with | [_, _], _ => rfl, F.kp⟩
  · obtain ⟨a, v, rfl, _⟩ := h
    rfl
  obtain ⟨a, v, rfl, ha, q⟩ := h
  refine ⟨_, pss_one (ps_ost (pv 0) (pv 1)), ?_⟩
  exact ⟨_, rfl, _, rfl, a, _, rfl, (T.err (x := "Twice") (by decide)).o, T.n_Twice_name, .inl ⟨ha, fun dx hd hne => q dx hd hne⟩⟩
theorem sc_NoQuestion : FnScope ["self", "name"] ["self", "name"] (defScope s_NoQuestion_init) := ⟨rfl, rfl, rfl, by decide +kernel, rfl, by decide +kernel, by decide +kernel⟩
theorem ok_NoQuestion (T : Tx K mg) : Ok P w K mg base 1 (He.ma K (He.ga K "NoQuestion") "__init__") ["self", "name"] (spE1 K "NoQuestion" "name") := by
  obtain ⟨fd, F⟩ := T.f_NoQuestion_init
  refine ⟨fd, F.ok sc_NoQuestion (fun vs H Q E h => ?_) (fun cdv A outer s H vs Q E hr h => ?_), F.bindsN fun _ _ _ _ _ _ us hl => match us, hl with | [_, _], _ => rfl, F.kp⟩
  · obtain ⟨a, v, rfl, _⟩ := h
    rfl
  obtain ⟨a, v, rfl, ha, q⟩ := h
  refine ⟨_, pss_one (ps_ost (pv 0) (pv 1)), ?_⟩
  exact ⟨_, rfl, _, rfl, a, _, rfl, (T.err (x := "NoQuestion") (by decide)).o, T.n_NoQuestion_name, .inl ⟨ha, fun dx hd hne => q dx hd hne⟩⟩
theorem sc_NoFit : FnScope ["self", "name"] ["self", "name"] (defScope s_NoFit_init) := ⟨rfl, rfl, rfl, by decide +kernel, rfl, by decide +kernel, by decide +kernel⟩
theorem ok_NoFit (T : Tx K mg) : Ok P w K mg base 1 (He.ma K (He.ga K "NoFit") "__init__") ["self", "name"] (spE1 K "NoFit" "name") := by
  obtain ⟨fd, F⟩ := T.f_NoFit_init
  refine ⟨fd, F.ok sc_NoFit (fun vs H Q E h => ?_) (fun cdv A outer s H vs Q E hr h => ?_), F.bindsN fun _ _ _ _ _ _ us hl => match us, hl with | [_, _], _ => rfl, F.kp⟩
  · obtain ⟨a, v, rfl, _⟩ := h
    rfl
  obtain ⟨a, v, rfl, ha, q⟩ := h
  refine ⟨_, pss_one (ps_ost (pv 0) (pv 1)), ?_⟩
  exact ⟨_, rfl, _, rfl, a, _, rfl, (T.err (x := "NoFit") (by decide)).o, T.n_NoFit_name, .inl ⟨ha, fun dx hd hne => q dx hd hne⟩⟩
theorem sc_BadCount : FnScope ["self", "what", "count"] ["self", "what", "count"] (defScope s_BadCount_init) := ⟨rfl, rfl, rfl, by decide +kernel, rfl, by decide +kernel, by decide +kernel⟩
theorem ok_BadCount (T : Tx K mg) : Ok P w K mg base 1 (He.ma K (He.ga K "BadCount") "__init__") ["self", "what", "count"] (spE2 K "BadCount" "what" "count") := by
  obtain ⟨fd, F⟩ := T.f_BadCount_init
  refine ⟨fd, F.ok sc_BadCount (fun vs H Q E h => ?_) (fun cdv A outer s H vs Q E hr h => ?_), F.bindsN fun _ _ _ _ _ _ us hl => match us, hl with | [_, _, _], _ => rfl, F.kp⟩
  · obtain ⟨a, v, u, rfl, _⟩ := h
    rfl
  obtain ⟨a, v, u, rfl, ha, q⟩ := h
  refine ⟨_, pss_cons (ps_ost (pv 0) (pv 1)) (pss_one (ps_ost (pv 0) (pv 2))), ?_⟩
  refine ⟨_, rfl, _, rfl, a, _, rfl, (T.err (x := "BadCount") (by decide)).o, T.n_BadCount_what, .inl ⟨ha, fun dx hd hne => ?_⟩⟩
  refine ⟨_, rfl, _, rfl, a, _, rfl, (T.err (x := "BadCount") (by decide)).o, T.n_BadCount_count, .inr ⟨dx, _, upd_same, by rw [upd_ne hne]; exact upd_same, (by show 1 ≤ 900; decide), ?_⟩⟩
  have := q dx hd hne
  exact this
end
end K3
end P2_part
section P3_part
set_option Elab.async false
set_option linter.all false
set_option maxRecDepth 100000
set_option maxHeartbeats 1000000
set_option pp.deepTerms.threshold 5
open PySem PySem.Spec PyProof.Rows L2
/-- go on as far as nothing is open -/
local macro_rules | `(tactic| walk_at "go") => `(tactic| repeat (first
  | with_reducible refine w_seq ?_ | with_reducible refine w_next ?_ | with_reducible refine w_set ?_ | with_reducible refine w_drop ?_ | with_reducible refine w_ret ?_ | with_reducible refine w_retN ?_
  | with_reducible refine w_if ?_ | ((with_reducible refine' w_var ?hv ?_); (case hv => exact rfl)) | with_reducible refine w_c ?_ | with_reducible refine w_nil ?_ | with_reducible refine w_cons ?_ | with_reducible refine w_op ?_ | with_reducible refine w_un ?_
  | with_reducible refine w_test ?_ | with_reducible refine w_tB ?_ | with_reducible refine w_not ?_ | with_reducible refine w_and ?_ | with_reducible refine w_or ?_ | with_reducible refine w_bl ?_
  | with_reducible refine w_andV ?_ | with_reducible refine w_orV ?_ | with_reducible refine w_notV ?_ | with_reducible refine w_ifE ?_ | with_reducible refine w_chain ?_ | with_reducible refine w_i0 ?_
  | with_reducible refine w_call ?_ | with_reducible refine w_callS ?_ | with_reducible refine w_cB ?_ | with_reducible refine w_tup ?_ | with_reducible refine w_lst ?_ | with_reducible refine w_fldV ?_
  | with_reducible refine w_neF ?_ | with_reducible refine w_neT ?_ | with_reducible refine w_notN ?_ | with_reducible refine w_isN ?_ | with_reducible refine w_gname ?_ | with_reducible refine w_gsub ?_ | with_reducible refine w_asg ?_ | with_reducible refine w_yes ?_ | with_reducible refine w_nT ?_ | with_reducible refine w_nF ?_ | with_reducible refine w_iteT ?_ | with_reducible refine w_iteF ?_))
namespace K3
/-! ### what a form refuses -/
inductive Flt where
  | count (what : Str) (n : Int)
  | name (z : Str)
  | twice (z : Str)
  | quest (z : Str)
  | fit (z : Str)
def IsF (K : PySem.W.Frag) : Flt → Value → Option Addr → Hp → Prop
  | .count w n => Err K "BadCount" [("count", .int n), ("what", .str w)]
  | .name z => Err K "NoName" [("name", .str z)]
  | .twice z => Err K "Twice" [("name", .str z)]
  | .quest z => Err K "NoQuestion" [("name", .str z)]
  | .fit z => Err K "NoFit" [("name", .str z)]
/-- refused by r, or told nothing; all that was tracked stands -/
def End (K : PySem.W.Frag) (r : Option Flt) (H : Hp) (Q : VK) (E : XK) : Prop := match r with
  | none => ∀ H', Same H H' → Q .non H'
  | some f => ∀ cls d H', Same H H' → IsF K f cls d H' → E cls d H'
theorem End.mono {K : PySem.W.Frag} {r : Option Flt} {H H1 : Hp} {Q : VK} {E : XK} (h : End K r H Q E) (s : Same H H1) : End K r H1 Q E := by
  cases r with
  | none => exact fun H' e => h H' (s.trans e)
  | some f => exact fun cls d H' e => h cls d H' (s.trans e)
def nameF (z : Str) : Option Flt := if isName z then none else some (.name z)
def spNoName (K : PySem.W.Frag) : Sp := fun vs H Q E => ∃ z : Str, vs = [.str z] ∧ z.length ≤ 1000 ∧ End K (nameF z) H Q E
/-- the first that stands ahead of it -/
def dupOf : List Str → List Str → Option Str
  | _, [] => none
  | seen, x :: r => if x ∈ seen then some x else dupOf (seen ++ [x]) r
def dupF (os : List Str) : Option Flt := (dupOf [] os).map .twice
def spTwice (K : PySem.W.Frag) : Sp := fun vs H Q E => ∃ (a : Addr) (os : List Str), vs = [.ref a] ∧ SqT K H a (os.map V.str) ∧ os.length ≤ 1000 ∧ End K (dupF os) H Q E
theorem dupOf_take {os : List Str} : ∀ {seen : List Str} {i : Nat} {x : Str}, os[i]? = some x → dupOf seen (os.take i) = none →
    (x ∈ seen ++ os.take i → dupOf seen os = some x) ∧ (x ∉ seen ++ os.take i → dupOf seen (os.take (i + 1)) = none) := by
  induction os with
  | nil => intro seen i x h; simp at h
  | cons a r ih =>
    intro seen i x h hn
    cases i with
    | zero =>
      have e : a = x := by simpa using h
      subst e
      refine ⟨fun m => ?_, fun m => ?_⟩
      · have m' : a ∈ seen := by simpa using m
        unfold dupOf
        rw [if_pos m']
      · have m' : a ∉ seen := by simpa using m
        show dupOf seen [a] = none
        unfold dupOf
        rw [if_neg m'] <;> rfl
    | succ i =>
      have h' : r[i]? = some x := by simpa using h
      have hn' : dupOf seen (a :: r.take i) = none := hn
      unfold dupOf at hn'
      by_cases m : a ∈ seen
      · rw [if_pos m] at hn'
        cases hn'
      · rw [if_neg m] at hn'
        have q := ih h' hn'
        refine ⟨fun mm => ?_, fun mm => ?_⟩
        · unfold dupOf
          rw [if_neg m]
          exact q.1 (by simpa using mm)
        · show dupOf seen (a :: r.take (i + 1)) = none
          unfold dupOf
          rw [if_neg m]
          exact q.2 (by simpa using mm)
/-- which keys are among these texts -/
def inK (l : List Str) : Key → Bool
  | .inl _ => false
  | .inr z => decide (z ∈ l)
theorem inK_nil : inK [] = fun _ => false := by
  funext k
  cases k <;> rfl
section
variable {P : Program} {w : World} {K : PySem.W.Frag} {mg : Str → Option Value} {base : Heap}
theorem sc_refuse_no_name : FnScope ["text"] ["text"] (defScope s_refuse_no_name) := ⟨rfl, rfl, rfl, by decide +kernel, rfl, by decide +kernel, by decide +kernel⟩
theorem ok_refuse_no_name (T : Tx K mg) : Ok P w K mg base 3 (He.ga K "refuse_no_name") ["text"] (spNoName K) := by
  obtain ⟨fd, F⟩ := T.f_refuse_no_name
  refine ⟨fd, F.ok sc_refuse_no_name (fun vs H Q E h => ?_) (fun cdv A outer s H vs Q E hr h => ?_), F.bindsN fun _ _ _ _ _ _ us hl => match us, hl with | [_], _ => rfl, F.kp⟩
  · obtain ⟨z, rfl, _⟩ := h
    rfl
  obtain ⟨z, rfl, hz, q⟩ := h
  refine ⟨_, pss_one (ps_if (pt_not (pt_val (pe_f (ok_is_name T) (hr.mono (by decide)) T.g_is_name (pa_cons (pv 0) pa_nil)))) (pss_one (ps_err1 (T.err (x := "NoName") (by decide)) T.m_NoName_init (ok_NoName T) (hr.mono (by decide)) T.g_NoName (takes_of rfl rfl rfl rfl) (pv 0))) pss_nil), ?_⟩
  walk_at "go"
  refine ⟨z, rfl, hz, fun H' e => ?_⟩
  have q' := q.mono e
  unfold nameF at q'
  cases hb : isName z with
  | true =>
    rw [hb] at q'
    walk_at "go"
    exact q' H' (Same.refl _)
  | false =>
    rw [hb] at q'
    walk_at "go"
    refine w_err1 ?_
    walk_at "go"
    exact gErr1_of fun d H2 e2 h2 => q' _ _ H2 e2 ⟨rfl, d, rfl, h2⟩
theorem sc_refuse_twice : FnScope ["names", "seen", "name"] ["names"] (defScope s_refuse_twice) := ⟨rfl, rfl, rfl, by decide +kernel, rfl, by decide +kernel, by decide +kernel⟩
theorem ok_refuse_twice (T : Tx K mg) : Ok P w K mg base 3 (He.ga K "refuse_twice") ["names"] (spTwice K) := by
  obtain ⟨fd, F⟩ := T.f_refuse_twice
  refine ⟨fd, F.ok sc_refuse_twice (fun vs H Q E h => ?_) (fun cdv A outer s H vs Q E hr h => ?_), F.bindsN fun _ _ _ _ _ _ us hl => match us, hl with | [_], _ => rfl, F.kp⟩
  · obtain ⟨a, os, rfl, _⟩ := h
    rfl
  obtain ⟨a, os, rfl, ha, hz, q⟩ := h
  refine ⟨_, pss_cons (ps_set (i := 1) sc_refuse_twice.nd rfl (Or.inl rfl) (pe_callTy0 cr_set0K (by rfl) T.z_set (by decide +kernel)))
    (pss_one (ps_for (passes_of rfl) rfl (pi_tup (pv 0)) (pg_name (i := 2) sc_refuse_twice.nd rfl (Or.inl rfl))
      (pss_cons (ps_if (pt_cmpR or_sinK (pv 2) (pv 1) rfl) (pss_one (ps_err1 (T.err (x := "Twice") (by decide)) T.m_Twice_init (ok_Twice T) (hr.mono (by decide)) T.g_Twice (takes_of rfl rfl rfl rfl) (pv 2))) pss_nil)
        (pss_one (ps_expr (pe_saddK (pv 1) (pa_cons (pv 2) pa_nil))))))), ?_⟩
  walk_at "go"
  refine ⟨rfl, fun p hp => ?_⟩
  walk_at "go"
  refine ⟨_, rfl, a, rfl, ⟨_, (Same.new hp _).sqt ha⟩, ?_⟩
  refine for_tup (K := K) (a := a) (xs := os.map V.str) (fun (i : Nat) σ H' => ∃ v : Option V, σ = [some (.ref a), some (.ref p), v] ∧ Same H H' ∧ dupOf [] (os.take i) = none ∧
    ∃ n : Nat, n ≤ i ∧ H' p = some (SetK P w p (inK (os.take i)) n)) ⟨none, rfl, Same.new hp _, rfl, 0, Nat.le_refl _, by show _ = some (SetK P w p (inK []) 0); rw [inK_nil]; exact upd_same⟩ (fun i σ H' _ ⟨_, _, e, _⟩ => e.sqt ha) ?_ ?_
  · rintro i x σ H' hi ⟨v, rfl, e, hd, n, hn, hs⟩
    obtain ⟨z, hz', rfl⟩ : ∃ z, os[i]? = some z ∧ x = V.str z := by
      rw [List.getElem?_map] at hi
      cases e : os[i]? with
      | none => rw [e] at hi; cases hi
      | some z => rw [e] at hi; exact ⟨z, rfl, (Option.some.inj hi).symm⟩
    have hlt : i < os.length := (List.getElem?_eq_some_iff.mp hz').1
    have hq := dupOf_take (seen := []) hz' hd
    show tSeq _ _ _ _ _
    walk_at "go"
    refine ⟨Sum.inr z, p, _, n, rfl, rfl, hs, ?_⟩
    walk_at "go"
    by_cases c : z ∈ os.take i
    · rw [show inK (os.take i) (Sum.inr z) = true from decide_eq_true c]
      walk_at "go"
      refine w_err1 ?_
      walk_at "go"
      have q' := q.mono e
      have ed : dupF os = some (.twice z) := by
        unfold dupF
        rw [hq.1 (by simpa using c)] <;> rfl
      rw [ed] at q'
      exact gErr1_of fun d H2 e2 h2 => q' _ _ H2 e2 ⟨rfl, d, rfl, h2⟩
    · rw [show inK (os.take i) (Sum.inr z) = false from decide_eq_false c]
      walk_at "go"
      refine ⟨_, rfl, ?_⟩
      refine ⟨⟨p, _, n, rfl, hs⟩, ?_⟩
      walk_at "go"
      refine ⟨p, Sum.inr z, _, n, rfl, rfl, hs, (by unfold scanBound; omega), ?_⟩
      refine ⟨some (.str z), rfl, e.mut hp, hq.2 (by simpa using c), n + 1, by omega, ?_⟩
      rw [upd_same, show inK (os.take i) (Sum.inr z) = false from decide_eq_false c]
      have ef : (fun j : Key => inK (os.take i) j || decide (j = Sum.inr z)) = inK (os.take (i + 1)) := by
        funext j
        rw [List.take_add_one, hz']
        cases j with
        | inl k => rfl
        | inr y =>
          show (decide (y ∈ os.take i) || decide ((Sum.inr y : Key) = Sum.inr z)) = decide (y ∈ os.take i ++ [z])
          by_cases h1 : y ∈ os.take i <;> by_cases h2 : y = z <;> simp [h1, h2]
      rw [ef] <;> rfl
  · rintro σ H' ⟨v, rfl, e, hd, _⟩
    rw [List.length_map, List.take_length] at hd
    have ed : dupF os = none := by
      unfold dupF
      rw [hd] <;> rfl
    rw [ed] at q
    exact q H' e
end
end K3
end P3_part
section P4_part
set_option Elab.async false
set_option linter.all false
set_option maxRecDepth 100000
set_option maxHeartbeats 1000000
set_option pp.deepTerms.threshold 5
open PySem PySem.Spec PyProof.Rows L2
/-- go on as far as nothing is open -/
local macro_rules | `(tactic| walk_at "go") => `(tactic| repeat (first
  | with_reducible refine w_seq ?_ | with_reducible refine w_next ?_ | with_reducible refine w_set ?_ | with_reducible refine w_drop ?_ | with_reducible refine w_ret ?_ | with_reducible refine w_retN ?_
  | with_reducible refine w_if ?_ | ((with_reducible refine' w_var ?hv ?_); (case hv => exact rfl)) | with_reducible refine w_c ?_ | with_reducible refine w_nil ?_ | with_reducible refine w_cons ?_ | with_reducible refine w_op ?_ | with_reducible refine w_un ?_
  | with_reducible refine w_test ?_ | with_reducible refine w_tB ?_ | with_reducible refine w_not ?_ | with_reducible refine w_and ?_ | with_reducible refine w_or ?_ | with_reducible refine w_bl ?_
  | with_reducible refine w_andV ?_ | with_reducible refine w_orV ?_ | with_reducible refine w_notV ?_ | with_reducible refine w_ifE ?_ | with_reducible refine w_chain ?_ | with_reducible refine w_i0 ?_
  | with_reducible refine w_call ?_ | with_reducible refine w_callS ?_ | with_reducible refine w_cB ?_ | with_reducible refine w_tup ?_ | with_reducible refine w_lst ?_ | with_reducible refine w_fldV ?_
  | with_reducible refine w_neF ?_ | with_reducible refine w_neT ?_ | with_reducible refine w_notN ?_ | with_reducible refine w_isN ?_ | with_reducible refine w_gname ?_ | with_reducible refine w_gsub ?_ | with_reducible refine w_asg ?_ | with_reducible refine w_yes ?_ | with_reducible refine w_nT ?_ | with_reducible refine w_nF ?_ | with_reducible refine w_iteT ?_ | with_reducible refine w_iteF ?_))
namespace K3
/-! ### conditions, rows -/
inductive Cd where
  | is (n o : Str)
  | has (n o : Str)
  | over (n : Str) (k : Int)
  | under (n : Str) (k : Int)
  | no (c : Cd)
  | both (c d : Cd)
  | either (c d : Cd)
inductive Rw where
  | one (n : Str) (os : List Str) (w : Option Cd)
  | some (n : Str) (os : List Str) (w : Option Cd)
  | number (n : Str) (lo hi : Int) (w : Option Cd)
  | check (n : Str) (m : Cd) (w : Option Cd)
  | sect (rs : List Rw) (w : Option Cd)
  | rounds (n : Str) (rs : List Rw) (w : Option Cd)
def Cd.nm : Cd → Str
  | .is _ _ => "Is" | .has _ _ => "Has" | .over _ _ => "Above" | .under _ _ => "Below" | .no _ => "Not" | .both _ _ => "Both" | .either _ _ => "Either"
def Rw.nm : Rw → Str
  | .one _ _ _ => "One" | .some _ _ _ => "Some" | .number _ _ _ _ => "Number" | .check _ _ _ => "Check" | .sect _ _ => "Section" | .rounds _ _ _ => "Rounds"
def Ins (K : PySem.W.Frag) (H : Hp) (a : Addr) (x : Str) (fs : List (Str × V)) : Prop := ∃ dx, H a = some (.ins (He.ga K x) dx fs)
theorem Ins.si {K : PySem.W.Frag} {H H' : Hp} {a : Addr} {x : Str} {fs : List (Str × V)} (h : Ins K H a x fs) (e : SI H H') (k : keepF fs = true := by rfl) : Ins K H' a x fs := let ⟨dx, q⟩ := h; ⟨dx, e _ _ k q⟩
theorem Ins.same {K : PySem.W.Frag} {H H' : Hp} {a : Addr} {x : Str} {fs : List (Str × V)} (h : Ins K H a x fs) (e : Same H H') : Ins K H' a x fs := let ⟨dx, q⟩ := h; ⟨dx, e _ _ q⟩
inductive CO (K : PySem.W.Frag) (H : Hp) : V → Cd → Prop where
  | is {a n o} : Ins K H a "Is" [("name", .str n), ("option", .str o)] → CO K H (.ref a) (.is n o)
  | has {a n o} : Ins K H a "Has" [("name", .str n), ("option", .str o)] → CO K H (.ref a) (.has n o)
  | over {a n k} : Ins K H a "Above" [("name", .str n), ("number", .int k)] → CO K H (.ref a) (.over n k)
  | under {a n k} : Ins K H a "Below" [("name", .str n), ("number", .int k)] → CO K H (.ref a) (.under n k)
  | no {a v c} : Ins K H a "Not" [("inner", v)] → CO K H v c → CO K H (.ref a) (.no c)
  | both {a v u c d} : Ins K H a "Both" [("left", v), ("right", u)] → CO K H v c → CO K H u d → CO K H (.ref a) (.both c d)
  | either {a v u c d} : Ins K H a "Either" [("left", v), ("right", u)] → CO K H v c → CO K H u d → CO K H (.ref a) (.either c d)
theorem CO.si {K : PySem.W.Frag} {H H' : Hp} (e : SI H H') : ∀ {c : Cd} {v : V}, CO K H v c → CO K H' v c := by
  intro c v h
  induction h with
  | is h => exact .is (h.si e)
  | has h => exact .has (h.si e)
  | over h => exact .over (h.si e)
  | under h => exact .under (h.si e)
  | no h _ i => exact .no (h.si e) i
  | both h _ _ i j => exact .both (h.si e) i j
  | either h _ _ i j => exact .either (h.si e) i j
theorem CO.same {K : PySem.W.Frag} {H H' : Hp} (e : Same H H') {c : Cd} {v : V} (h : CO K H v c) : CO K H' v c := h.si e.si
inductive WO (K : PySem.W.Frag) (H : Hp) : V → Option Cd → Prop where
  | none : WO K H .non none
  | some {v c} : CO K H v c → WO K H v (some c)
theorem WO.si {K : PySem.W.Frag} {H H' : Hp} (e : SI H H') {c : Option Cd} {v : V} (h : WO K H v c) : WO K H' v c := by
  cases h with
  | none => exact .none
  | some h => exact .some (h.si e)
theorem WO.same {K : PySem.W.Frag} {H H' : Hp} (e : Same H H') {c : Option Cd} {v : V} (h : WO K H v c) : WO K H' v c := h.si e.si
mutual
inductive RO (K : PySem.W.Frag) (H : Hp) : V → Rw → Prop where
  | one {a t n os w wv} : Ins K H a "One" [("name", .str n), ("options", .ref t), ("where", wv)] → SqT K H t (os.map V.str) → WO K H wv w → RO K H (.ref a) (.one n os w)
  | some {a t n os w wv} : Ins K H a "Some" [("name", .str n), ("options", .ref t), ("where", wv)] → SqT K H t (os.map V.str) → WO K H wv w → RO K H (.ref a) (.some n os w)
  | number {a n lo hi w wv} : Ins K H a "Number" [("name", .str n), ("low", .int lo), ("high", .int hi), ("where", wv)] → WO K H wv w → RO K H (.ref a) (.number n lo hi w)
  | check {a n m mv w wv} : Ins K H a "Check" [("name", .str n), ("must", mv), ("where", wv)] → CO K H mv m → WO K H wv w → RO K H (.ref a) (.check n m w)
  | sect {a t xs rs w wv} : Ins K H a "Section" [("rows", .ref t), ("where", wv)] → SqT K H t xs → ROs K H xs rs → WO K H wv w → RO K H (.ref a) (.sect rs w)
  | rounds {a t n xs rs w wv} : Ins K H a "Rounds" [("count", .str n), ("rows", .ref t), ("where", wv)] → SqT K H t xs → ROs K H xs rs → WO K H wv w → RO K H (.ref a) (.rounds n rs w)
inductive ROs (K : PySem.W.Frag) (H : Hp) : List V → List Rw → Prop where
  | nil : ROs K H [] []
  | cons {v vs r rs} : RO K H v r → ROs K H vs rs → ROs K H (v :: vs) (r :: rs)
end
mutual
theorem RO.si {K : PySem.W.Frag} {H H' : Hp} (e : SI H H') : ∀ {r : Rw} {v : V}, RO K H v r → RO K H' v r
  | _, _, .one h t w => .one (h.si e) (e.sqt t) (w.si e)
  | _, _, .some h t w => .some (h.si e) (e.sqt t) (w.si e)
  | _, _, .number h w => .number (h.si e) (w.si e)
  | _, _, .check h m w => .check (h.si e) (m.si e) (w.si e)
  | _, _, .sect h t rs w => .sect (h.si e) (e.sqt t) (ROs.si e rs) (w.si e)
  | _, _, .rounds h t rs w => .rounds (h.si e) (e.sqt t) (ROs.si e rs) (w.si e)
theorem ROs.si {K : PySem.W.Frag} {H H' : Hp} (e : SI H H') : ∀ {rs : List Rw} {vs : List V}, ROs K H vs rs → ROs K H' vs rs
  | _, _, .nil => .nil
  | _, _, .cons h t => .cons (RO.si e h) (ROs.si e t)
end
theorem RO.same {K : PySem.W.Frag} {H H' : Hp} (e : Same H H') {r : Rw} {v : V} (h : RO K H v r) : RO K H' v r := RO.si e.si h
theorem ROs.same {K : PySem.W.Frag} {H H' : Hp} (e : Same H H') {rs : List Rw} {vs : List V} (h : ROs K H vs rs) : ROs K H' vs rs := ROs.si e.si h
/-! ### isinstance -/
section
variable {K : PySem.W.Frag} {mg : Str → Option Value} {H : Hp}
theorem Tx.gs (T : Tx K mg) : getsetB K = true := (and2 T.e).1
theorem Tx.kc (T : Tx K mg) {x : Str} (hx : x ∈ cndN) : kclsB K (He.ga K x) = true ∧ ∀ y ∈ cndT, PySem.W.kitOne K (.ref (He.ga K x)) (.ref (He.ga K y)) = some (x == y) := by
  have q := List.all_eq_true.mp (and2 (and2 (and2 T.e).2).2).1 x hx
  obtain ⟨q1, q2⟩ := and2 q
  exact ⟨q1, fun y hy => eqB_ok (List.all_eq_true.mp q2 y hy)⟩
theorem Tx.kr (T : Tx K mg) {x : Str} (hx : x ∈ rowN) : kclsB K (He.ga K x) = true ∧ ∀ y ∈ rowN, PySem.W.kitOne K (.ref (He.ga K x)) (.ref (He.ga K y)) = some (x == y) := by
  have q := List.all_eq_true.mp (and2 (and2 (and2 T.e).2).2).2 x hx
  obtain ⟨q1, q2⟩ := and2 q
  exact ⟨q1, fun y hy => eqB_ok (List.all_eq_true.mp q2 y hy)⟩
theorem Tx.ty (T : Tx K mg) {x : Str} {a : Addr} {fs : List (Str × V)} (k : kclsB K (He.ga K x) = true) (c : Cls K (He.ga K x)) (h : Ins K H a x fs) : TyX K H (.ref a) (.ref (He.ga K x)) := by
  obtain ⟨dx, h⟩ := h
  obtain ⟨k1, k2⟩ := and2 (show (eqB _ _ && eqB _ _) = true from k)
  obtain ⟨g1, g2⟩ := and2 (show (eqB _ _ && eqB _ _) = true from T.gs)
  exact .base (.ins h c (eqB_ok k1) (eqB_ok g1) (eqB_ok g2) (eqB_ok k2))
theorem Tx.tyC (T : Tx K mg) {c : Cd} {v : V} (h : CO K H v c) : c.nm ∈ cndN ∧ TyX K H v (.ref (He.ga K c.nm)) := by
  cases h with
  | is h => exact ⟨(by show ("Is" : Str) ∈ cndN; decide), T.ty (T.kc (x := "Is") (by decide)).1 T.cl_Is h⟩
  | has h => exact ⟨(by show ("Has" : Str) ∈ cndN; decide), T.ty (T.kc (x := "Has") (by decide)).1 T.cl_Has h⟩
  | over h => exact ⟨(by show ("Above" : Str) ∈ cndN; decide), T.ty (T.kc (x := "Above") (by decide)).1 T.cl_Above h⟩
  | under h => exact ⟨(by show ("Below" : Str) ∈ cndN; decide), T.ty (T.kc (x := "Below") (by decide)).1 T.cl_Below h⟩
  | no h _ => exact ⟨(by show ("Not" : Str) ∈ cndN; decide), T.ty (T.kc (x := "Not") (by decide)).1 T.cl_Not h⟩
  | both h _ _ => exact ⟨(by show ("Both" : Str) ∈ cndN; decide), T.ty (T.kc (x := "Both") (by decide)).1 T.cl_Both h⟩
  | either h _ _ => exact ⟨(by show ("Either" : Str) ∈ cndN; decide), T.ty (T.kc (x := "Either") (by decide)).1 T.cl_Either h⟩
theorem Tx.tyR (T : Tx K mg) {r : Rw} {v : V} (h : RO K H v r) : r.nm ∈ rowN ∧ TyX K H v (.ref (He.ga K r.nm)) := by
  cases h with
  | one h _ _ => exact ⟨(by show ("One" : Str) ∈ rowN; decide), T.ty (T.kr (x := "One") (by decide)).1 T.cl_One h⟩
  | some h _ _ => exact ⟨(by show ("Some" : Str) ∈ rowN; decide), T.ty (T.kr (x := "Some") (by decide)).1 T.cl_Some h⟩
  | number h _ => exact ⟨(by show ("Number" : Str) ∈ rowN; decide), T.ty (T.kr (x := "Number") (by decide)).1 T.cl_Number h⟩
  | check h _ _ => exact ⟨(by show ("Check" : Str) ∈ rowN; decide), T.ty (T.kr (x := "Check") (by decide)).1 T.cl_Check h⟩
  | sect h _ _ _ => exact ⟨(by show ("Section" : Str) ∈ rowN; decide), T.ty (T.kr (x := "Section") (by decide)).1 T.cl_Section h⟩
  | rounds h _ _ _ => exact ⟨(by show ("Rounds" : Str) ∈ rowN; decide), T.ty (T.kr (x := "Rounds") (by decide)).1 T.cl_Rounds h⟩
theorem isiC (T : Tx K mg) {c : Cd} {v : V} {y : Str} {Q : VK} (h : CO K H v c) (hy : y ∈ cndT) (q : Q (.bl (c.nm == y)) H) : rIsi K [v, .ref (He.ga K y)] H Q :=
  ⟨_, _, _, _, _, rfl, .own _, (T.tyC h).2, (T.kc (T.tyC h).1).2 y hy, q⟩
theorem isiR (T : Tx K mg) {r : Rw} {v : V} {y : Str} {Q : VK} (h : RO K H v r) (hy : y ∈ rowN) (q : Q (.bl (r.nm == y)) H) : rIsi K [v, .ref (He.ga K y)] H Q :=
  ⟨_, _, _, _, _, rfl, .own _, (T.tyR h).2, (T.kr (T.tyR h).1).2 y hy, q⟩
theorem kitAny2 {t c d : Value} {a b : Bool} (h1 : PySem.W.kitOne K t c = some a) (h2 : PySem.W.kitOne K t d = some b) : PySem.W.kitAny K t [c, d] = some (a || b) := by
  unfold PySem.W.kitAny
  rw [h1]
  cases a with
  | true => rfl
  | false =>
    show PySem.W.kitAny K t [d] = _
    unfold PySem.W.kitAny
    rw [h2]
    cases b <;> rfl
theorem kitAny3 {t c d e : Value} {a b f : Bool} (h1 : PySem.W.kitOne K t c = some a) (h2 : PySem.W.kitOne K t d = some b) (h3 : PySem.W.kitOne K t e = some f) : PySem.W.kitAny K t [c, d, e] = some (a || (b || f)) := by
  have q := kitAny2 h2 h3
  unfold PySem.W.kitAny
  rw [h1]
  cases a with
  | true => rfl
  | false => exact q
theorem isiC2 (T : Tx K mg) {c : Cd} {v : V} {y z : Str} {p : Addr} {Q : VK} (h : CO K H v c) (hp : H p = some (.tup [.ref (He.ga K y), .ref (He.ga K z)])) (hy : y ∈ cndT) (hz : z ∈ cndT) (q : Q (.bl (c.nm == y || c.nm == z)) H) : rIsiT K [v, .ref p] H Q :=
  ⟨_, _, _, _, _, _, rfl, hp, .cons (.own _) (.cons (.own _) .nil), (T.tyC h).2, kitAny2 ((T.kc (T.tyC h).1).2 y hy) ((T.kc (T.tyC h).1).2 z hz), q⟩
theorem isiR2 (T : Tx K mg) {r : Rw} {v : V} {y z : Str} {p : Addr} {Q : VK} (h : RO K H v r) (hp : H p = some (.tup [.ref (He.ga K y), .ref (He.ga K z)])) (hy : y ∈ rowN) (hz : z ∈ rowN) (q : Q (.bl (r.nm == y || r.nm == z)) H) : rIsiT K [v, .ref p] H Q :=
  ⟨_, _, _, _, _, _, rfl, hp, .cons (.own _) (.cons (.own _) .nil), (T.tyR h).2, kitAny2 ((T.kr (T.tyR h).1).2 y hy) ((T.kr (T.tyR h).1).2 z hz), q⟩
theorem isiR3 (T : Tx K mg) {r : Rw} {v : V} {y z x : Str} {p : Addr} {Q : VK} (h : RO K H v r) (hp : H p = some (.tup [.ref (He.ga K y), .ref (He.ga K z), .ref (He.ga K x)])) (hy : y ∈ rowN) (hz : z ∈ rowN) (hx : x ∈ rowN) (q : Q (.bl (r.nm == y || (r.nm == z || r.nm == x))) H) : rIsiT K [v, .ref p] H Q :=
  ⟨_, _, _, _, _, _, rfl, hp, .cons (.own _) (.cons (.own _) (.cons (.own _) .nil)), (T.tyR h).2, kitAny3 ((T.kr (T.tyR h).1).2 y hy) ((T.kr (T.tyR h).1).2 z hz) ((T.kr (T.tyR h).1).2 x hx), q⟩
end
/-! ### the making of conditions and rows -/
/-- what __init__ leaves: the instance with these fields, all else as it was -/
def Left (K : PySem.W.Frag) (H : Hp) (a : Addr) (x : Str) (dx : Addr) (fs : List (Str × V)) (Q : VK) : Prop := ∀ H', H' a = some (.ins (He.ga K x) dx fs) → (∀ b o, b ≠ a → H b = some o → H' b = some o) → Q .non H'
def spI (K : PySem.W.Frag) (x : Str) (fs : List Str) : Sp := fun vs H Q _ => ∃ (a dx : Addr) (ws : List V), vs = .ref a :: ws ∧ ws.length = fs.length ∧ H a = some (.ins (He.ga K x) dx []) ∧ Left K H a x dx (fs.zip ws) Q
/-- with a row at the second place -/
def spIT (K : PySem.W.Frag) (x : Str) (f1 f2 f3 : Str) : Sp := fun vs H Q _ => ∃ (a dx l : Addr) (v1 v3 : V) (xs : List V), vs = [.ref a, v1, .ref l, v3] ∧ (SqL K H l xs ∨ SqT K H l xs) ∧ H a = some (.ins (He.ga K x) dx []) ∧
  ∀ t H', H' a = some (.ins (He.ga K x) dx [(f1, v1), (f2, .ref t), (f3, v3)]) → SqT K H' t xs → (∀ b o, b ≠ a → H b = some o → H' b = some o) → Q .non H'
def spIS (K : PySem.W.Frag) : Sp := fun vs H Q _ => ∃ (a dx l : Addr) (v3 : V) (xs : List V), vs = [.ref a, .ref l, v3] ∧ (SqL K H l xs ∨ SqT K H l xs) ∧ H a = some (.ins (He.ga K "Section") dx []) ∧
  ∀ t H', H' a = some (.ins (He.ga K "Section") dx [("rows", .ref t), ("where", v3)]) → SqT K H' t xs → (∀ b o, b ≠ a → H b = some o → H' b = some o) → Q .non H'
theorem SqL.far {K : PySem.W.Frag} {H : Hp} {l a C dx : Addr} {fs : List (Str × V)} {xs : List V} {o : HO} (ha : H a = some (.ins C dx fs)) (h : SqL K H l xs) : SqL K (upd H a o) l xs := by
  have q : ∀ u, H l = some u → (∀ C dx fs, u ≠ .ins C dx fs) → upd H a o l = some u := fun u hu hn => by
    rw [upd_ne (fun z => hn C dx fs (by rw [z, ha] at hu; exact (Option.some.inj hu).symm))]
    exact hu
  rcases h with (h | ⟨o', h⟩) | h
  · exact .inl (.inl (q _ h (by intro _ _ _ z; cases z)))
  · exact .inl (.inr ⟨o', q _ h (by intro _ _ _ z; cases z)⟩)
  · exact .inr h
theorem SqT.far {K : PySem.W.Frag} {H : Hp} {l a C dx : Addr} {fs : List (Str × V)} {xs : List V} {o : HO} (ha : H a = some (.ins C dx fs)) (h : SqT K H l xs) : SqT K (upd H a o) l xs := by
  have q : ∀ u, H l = some u → (∀ C dx fs, u ≠ .ins C dx fs) → upd H a o l = some u := fun u hu hn => by
    rw [upd_ne (fun z => hn C dx fs (by rw [z, ha] at hu; exact (Option.some.inj hu).symm))]
    exact hu
  rcases h with (h | ⟨o', h⟩) | h
  · exact .inl (.inl (q _ h (by intro _ _ _ z; cases z)))
  · exact .inl (.inr ⟨o', q _ h (by intro _ _ _ z; cases z)⟩)
  · exact .inr h
section
variable {P : Program} {w : World} {K : PySem.W.Frag} {mg : Str → Option Value} {base : Heap}
theorem sc_Is : FnScope ["self", "name", "option"] ["self", "name", "option"] (defScope s_Is_init) := ⟨rfl, rfl, rfl, by decide +kernel, rfl, by decide +kernel, by decide +kernel⟩
theorem ok_Is (T : Tx K mg) : Ok P w K mg base 1 (He.ma K (He.ga K "Is") "__init__") ["self", "name", "option"] (spI K "Is" ["name", "option"]) := by
  obtain ⟨fd, F⟩ := T.f_Is_init
  refine ⟨fd, F.ok sc_Is (fun vs H Q E h => ?_) (fun cdv A outer s H vs Q E hr h => ?_), F.bindsN fun _ _ _ _ _ _ us hl => match us, hl with | [_, _, _], _ => rfl, F.kp⟩
  · obtain ⟨a, dx, ws, rfl, hl, _⟩ := h
    exact congrArg Nat.succ hl
  obtain ⟨a, dx, ws, rfl, hl, ha, q⟩ := h
  obtain ⟨v1, v2, rfl⟩ : ∃ v1 v2, ws = [v1, v2] := match ws, hl with | [v1, v2], _ => ⟨v1, v2, rfl⟩
  refine ⟨_, pss_cons (ps_fld (pv 0) (pv 1) rfl) (pss_one (ps_fld (pv 0) (pv 2) rfl)), ?_⟩
  refine ⟨_, rfl, _, rfl, a, _, dx, _, rfl, ha, T.cl_Is, T.n_Is_name, (by show 0 < 1000; decide), ?_⟩
  refine ⟨_, rfl, _, rfl, a, _, dx, _, rfl, upd_same, T.cl_Is, T.n_Is_option, (by show 1 < 1000; decide), ?_⟩
  refine q _ upd_same fun b o hb ho => ?_
  rw [upd_ne hb, upd_ne hb]
  exact ho
theorem sc_Has : FnScope ["self", "name", "option"] ["self", "name", "option"] (defScope s_Has_init) := ⟨rfl, rfl, rfl, by decide +kernel, rfl, by decide +kernel, by decide +kernel⟩
theorem ok_Has (T : Tx K mg) : Ok P w K mg base 1 (He.ma K (He.ga K "Has") "__init__") ["self", "name", "option"] (spI K "Has" ["name", "option"]) := by
  obtain ⟨fd, F⟩ := T.f_Has_init
  refine ⟨fd, F.ok sc_Has (fun vs H Q E h => ?_) (fun cdv A outer s H vs Q E hr h => ?_), F.bindsN fun _ _ _ _ _ _ us hl => match us, hl with | [_, _, _], _ => rfl, F.kp⟩
  · obtain ⟨a, dx, ws, rfl, hl, _⟩ := h
    exact congrArg Nat.succ hl
  obtain ⟨a, dx, ws, rfl, hl, ha, q⟩ := h
  obtain ⟨v1, v2, rfl⟩ : ∃ v1 v2, ws = [v1, v2] := match ws, hl with | [v1, v2], _ => ⟨v1, v2, rfl⟩
  refine ⟨_, pss_cons (ps_fld (pv 0) (pv 1) rfl) (pss_one (ps_fld (pv 0) (pv 2) rfl)), ?_⟩
  refine ⟨_, rfl, _, rfl, a, _, dx, _, rfl, ha, T.cl_Has, T.n_Has_name, (by show 0 < 1000; decide), ?_⟩
  refine ⟨_, rfl, _, rfl, a, _, dx, _, rfl, upd_same, T.cl_Has, T.n_Has_option, (by show 1 < 1000; decide), ?_⟩
  refine q _ upd_same fun b o hb ho => ?_
  rw [upd_ne hb, upd_ne hb]
  exact ho
theorem sc_Above : FnScope ["self", "name", "number"] ["self", "name", "number"] (defScope s_Above_init) := ⟨rfl, rfl, rfl, by decide +kernel, rfl, by decide +kernel, by decide +kernel⟩
theorem ok_Above (T : Tx K mg) : Ok P w K mg base 1 (He.ma K (He.ga K "Above") "__init__") ["self", "name", "number"] (spI K "Above" ["name", "number"]) := by
  obtain ⟨fd, F⟩ := T.f_Above_init
  refine ⟨fd, F.ok sc_Above (fun vs H Q E h => ?_) (fun cdv A outer s H vs Q E hr h => ?_), F.bindsN fun _ _ _ _ _ _ us hl => match us, hl with | [_, _, _], _ => rfl, F.kp⟩
  · obtain ⟨a, dx, ws, rfl, hl, _⟩ := h
    exact congrArg Nat.succ hl
  obtain ⟨a, dx, ws, rfl, hl, ha, q⟩ := h
  obtain ⟨v1, v2, rfl⟩ : ∃ v1 v2, ws = [v1, v2] := match ws, hl with | [v1, v2], _ => ⟨v1, v2, rfl⟩
  refine ⟨_, pss_cons (ps_fld (pv 0) (pv 1) rfl) (pss_one (ps_fld (pv 0) (pv 2) rfl)), ?_⟩
  refine ⟨_, rfl, _, rfl, a, _, dx, _, rfl, ha, T.cl_Above, T.n_Above_name, (by show 0 < 1000; decide), ?_⟩
  refine ⟨_, rfl, _, rfl, a, _, dx, _, rfl, upd_same, T.cl_Above, T.n_Above_number, (by show 1 < 1000; decide), ?_⟩
  refine q _ upd_same fun b o hb ho => ?_
  rw [upd_ne hb, upd_ne hb]
  exact ho
theorem sc_Below : FnScope ["self", "name", "number"] ["self", "name", "number"] (defScope s_Below_init) := ⟨rfl, rfl, rfl, by decide +kernel, rfl, by decide +kernel, by decide +kernel⟩
theorem ok_Below (T : Tx K mg) : Ok P w K mg base 1 (He.ma K (He.ga K "Below") "__init__") ["self", "name", "number"] (spI K "Below" ["name", "number"]) := by
  obtain ⟨fd, F⟩ := T.f_Below_init
  refine ⟨fd, F.ok sc_Below (fun vs H Q E h => ?_) (fun cdv A outer s H vs Q E hr h => ?_), F.bindsN fun _ _ _ _ _ _ us hl => match us, hl with | [_, _, _], _ => rfl, F.kp⟩
  · obtain ⟨a, dx, ws, rfl, hl, _⟩ := h
    exact congrArg Nat.succ hl
  obtain ⟨a, dx, ws, rfl, hl, ha, q⟩ := h
  obtain ⟨v1, v2, rfl⟩ : ∃ v1 v2, ws = [v1, v2] := match ws, hl with | [v1, v2], _ => ⟨v1, v2, rfl⟩
  refine ⟨_, pss_cons (ps_fld (pv 0) (pv 1) rfl) (pss_one (ps_fld (pv 0) (pv 2) rfl)), ?_⟩
  refine ⟨_, rfl, _, rfl, a, _, dx, _, rfl, ha, T.cl_Below, T.n_Below_name, (by show 0 < 1000; decide), ?_⟩
  refine ⟨_, rfl, _, rfl, a, _, dx, _, rfl, upd_same, T.cl_Below, T.n_Below_number, (by show 1 < 1000; decide), ?_⟩
  refine q _ upd_same fun b o hb ho => ?_
  rw [upd_ne hb, upd_ne hb]
  exact ho
theorem sc_Not : FnScope ["self", "inner"] ["self", "inner"] (defScope s_Not_init) := ⟨rfl, rfl, rfl, by decide +kernel, rfl, by decide +kernel, by decide +kernel⟩
theorem ok_Not (T : Tx K mg) : Ok P w K mg base 1 (He.ma K (He.ga K "Not") "__init__") ["self", "inner"] (spI K "Not" ["inner"]) := by
  obtain ⟨fd, F⟩ := T.f_Not_init
  refine ⟨fd, F.ok sc_Not (fun vs H Q E h => ?_) (fun cdv A outer s H vs Q E hr h => ?_), F.bindsN fun _ _ _ _ _ _ us hl => match us, hl with | [_, _], _ => rfl, F.kp⟩
  · obtain ⟨a, dx, ws, rfl, hl, _⟩ := h
    exact congrArg Nat.succ hl
  obtain ⟨a, dx, ws, rfl, hl, ha, q⟩ := h
  obtain ⟨v1, rfl⟩ : ∃ v1, ws = [v1] := match ws, hl with | [v1], _ => ⟨v1, rfl⟩
  refine ⟨_, pss_one (ps_fld (pv 0) (pv 1) rfl), ?_⟩
  refine ⟨_, rfl, _, rfl, a, _, dx, _, rfl, ha, T.cl_Not, T.n_Not_inner, (by show 0 < 1000; decide), ?_⟩
  refine q _ upd_same fun b o hb ho => ?_
  rw [upd_ne hb]
  exact ho
theorem sc_Both : FnScope ["self", "left", "right"] ["self", "left", "right"] (defScope s_Both_init) := ⟨rfl, rfl, rfl, by decide +kernel, rfl, by decide +kernel, by decide +kernel⟩
theorem ok_Both (T : Tx K mg) : Ok P w K mg base 1 (He.ma K (He.ga K "Both") "__init__") ["self", "left", "right"] (spI K "Both" ["left", "right"]) := by
  obtain ⟨fd, F⟩ := T.f_Both_init
  refine ⟨fd, F.ok sc_Both (fun vs H Q E h => ?_) (fun cdv A outer s H vs Q E hr h => ?_), F.bindsN fun _ _ _ _ _ _ us hl => match us, hl with | [_, _, _], _ => rfl, F.kp⟩
  · obtain ⟨a, dx, ws, rfl, hl, _⟩ := h
    exact congrArg Nat.succ hl
  obtain ⟨a, dx, ws, rfl, hl, ha, q⟩ := h
  obtain ⟨v1, v2, rfl⟩ : ∃ v1 v2, ws = [v1, v2] := match ws, hl with | [v1, v2], _ => ⟨v1, v2, rfl⟩
  refine ⟨_, pss_cons (ps_fld (pv 0) (pv 1) rfl) (pss_one (ps_fld (pv 0) (pv 2) rfl)), ?_⟩
  refine ⟨_, rfl, _, rfl, a, _, dx, _, rfl, ha, T.cl_Both, T.n_Both_left, (by show 0 < 1000; decide), ?_⟩
  refine ⟨_, rfl, _, rfl, a, _, dx, _, rfl, upd_same, T.cl_Both, T.n_Both_right, (by show 1 < 1000; decide), ?_⟩
  refine q _ upd_same fun b o hb ho => ?_
  rw [upd_ne hb, upd_ne hb]
  exact ho
theorem sc_Either : FnScope ["self", "left", "right"] ["self", "left", "right"] (defScope s_Either_init) := ⟨rfl, rfl, rfl, by decide +kernel, rfl, by decide +kernel, by decide +kernel⟩
theorem ok_Either (T : Tx K mg) : Ok P w K mg base 1 (He.ma K (He.ga K "Either") "__init__") ["self", "left", "right"] (spI K "Either" ["left", "right"]) := by
  obtain ⟨fd, F⟩ := T.f_Either_init
  refine ⟨fd, F.ok sc_Either (fun vs H Q E h => ?_) (fun cdv A outer s H vs Q E hr h => ?_), F.bindsN fun _ _ _ _ _ _ us hl => match us, hl with | [_, _, _], _ => rfl, F.kp⟩
  · obtain ⟨a, dx, ws, rfl, hl, _⟩ := h
    exact congrArg Nat.succ hl
  obtain ⟨a, dx, ws, rfl, hl, ha, q⟩ := h
  obtain ⟨v1, v2, rfl⟩ : ∃ v1 v2, ws = [v1, v2] := match ws, hl with | [v1, v2], _ => ⟨v1, v2, rfl⟩
  refine ⟨_, pss_cons (ps_fld (pv 0) (pv 1) rfl) (pss_one (ps_fld (pv 0) (pv 2) rfl)), ?_⟩
  refine ⟨_, rfl, _, rfl, a, _, dx, _, rfl, ha, T.cl_Either, T.n_Either_left, (by show 0 < 1000; decide), ?_⟩
  refine ⟨_, rfl, _, rfl, a, _, dx, _, rfl, upd_same, T.cl_Either, T.n_Either_right, (by show 1 < 1000; decide), ?_⟩
  refine q _ upd_same fun b o hb ho => ?_
  rw [upd_ne hb, upd_ne hb]
  exact ho
theorem sc_Number : FnScope ["self", "name", "low", "high", "where"] ["self", "name", "low", "high", "where"] (defScope s_Number_init) := ⟨rfl, rfl, rfl, by decide +kernel, rfl, by decide +kernel, by decide +kernel⟩
theorem ok_Number (T : Tx K mg) {fd : FuncData} (F : FunD K "__init__" "Number.__init__" (defArgs s_Number_init) (defBody s_Number_init) (defScope s_Number_init) [] [("where", V.non)] (He.ma K (He.ga K "Number") "__init__") fd) : FnOk P w K mg base (L2.CX P w) 1 (He.ma K (He.ga K "Number") "__init__") fd ["self", "name", "low", "high", "where"] (spI K "Number" ["name", "low", "high", "where"]) := by
  refine F.ok sc_Number (fun vs H Q E h => ?_) (fun cdv A outer s H vs Q E hr h => ?_)
  · obtain ⟨a, dx, ws, rfl, hl, _⟩ := h
    exact congrArg Nat.succ hl
  obtain ⟨a, dx, ws, rfl, hl, ha, q⟩ := h
  obtain ⟨v1, v2, v3, v4, rfl⟩ : ∃ v1 v2 v3 v4, ws = [v1, v2, v3, v4] := match ws, hl with | [v1, v2, v3, v4], _ => ⟨v1, v2, v3, v4, rfl⟩
  refine ⟨_, pss_cons (ps_fld (pv 0) (pv 1) rfl) (pss_cons (ps_fld (pv 0) (pv 2) rfl) (pss_cons (ps_fld (pv 0) (pv 3) rfl) (pss_one (ps_fld (pv 0) (pv 4) rfl)))), ?_⟩
  refine ⟨_, rfl, _, rfl, a, _, dx, _, rfl, ha, T.cl_Number, T.n_Number_name, (by show 0 < 1000; decide), ?_⟩
  refine ⟨_, rfl, _, rfl, a, _, dx, _, rfl, upd_same, T.cl_Number, T.n_Number_low, (by show 1 < 1000; decide), ?_⟩
  refine ⟨_, rfl, _, rfl, a, _, dx, _, rfl, upd_same, T.cl_Number, T.n_Number_high, (by show 2 < 1000; decide), ?_⟩
  refine ⟨_, rfl, _, rfl, a, _, dx, _, rfl, upd_same, T.cl_Number, T.n_Number_where, (by show 3 < 1000; decide), ?_⟩
  refine q _ upd_same fun b o hb ho => ?_
  rw [upd_ne hb, upd_ne hb, upd_ne hb, upd_ne hb]
  exact ho
theorem sc_Check : FnScope ["self", "name", "must", "where"] ["self", "name", "must", "where"] (defScope s_Check_init) := ⟨rfl, rfl, rfl, by decide +kernel, rfl, by decide +kernel, by decide +kernel⟩
theorem ok_Check (T : Tx K mg) {fd : FuncData} (F : FunD K "__init__" "Check.__init__" (defArgs s_Check_init) (defBody s_Check_init) (defScope s_Check_init) [] [("where", V.non)] (He.ma K (He.ga K "Check") "__init__") fd) : FnOk P w K mg base (L2.CX P w) 1 (He.ma K (He.ga K "Check") "__init__") fd ["self", "name", "must", "where"] (spI K "Check" ["name", "must", "where"]) := by
  refine F.ok sc_Check (fun vs H Q E h => ?_) (fun cdv A outer s H vs Q E hr h => ?_)
  · obtain ⟨a, dx, ws, rfl, hl, _⟩ := h
    exact congrArg Nat.succ hl
  obtain ⟨a, dx, ws, rfl, hl, ha, q⟩ := h
  obtain ⟨v1, v2, v3, rfl⟩ : ∃ v1 v2 v3, ws = [v1, v2, v3] := match ws, hl with | [v1, v2, v3], _ => ⟨v1, v2, v3, rfl⟩
  refine ⟨_, pss_cons (ps_fld (pv 0) (pv 1) rfl) (pss_cons (ps_fld (pv 0) (pv 2) rfl) (pss_one (ps_fld (pv 0) (pv 3) rfl))), ?_⟩
  refine ⟨_, rfl, _, rfl, a, _, dx, _, rfl, ha, T.cl_Check, T.n_Check_name, (by show 0 < 1000; decide), ?_⟩
  refine ⟨_, rfl, _, rfl, a, _, dx, _, rfl, upd_same, T.cl_Check, T.n_Check_must, (by show 1 < 1000; decide), ?_⟩
  refine ⟨_, rfl, _, rfl, a, _, dx, _, rfl, upd_same, T.cl_Check, T.n_Check_where, (by show 2 < 1000; decide), ?_⟩
  refine q _ upd_same fun b o hb ho => ?_
  rw [upd_ne hb, upd_ne hb, upd_ne hb]
  exact ho
theorem sc_One : FnScope ["self", "name", "options", "where"] ["self", "name", "options", "where"] (defScope s_One_init) := ⟨rfl, rfl, rfl, by decide +kernel, rfl, by decide +kernel, by decide +kernel⟩
theorem ok_One (T : Tx K mg) {fd : FuncData} (F : FunD K "__init__" "One.__init__" (defArgs s_One_init) (defBody s_One_init) (defScope s_One_init) [] [("where", V.non)] (He.ma K (He.ga K "One") "__init__") fd) : FnOk P w K mg base (L2.CX P w) 1 (He.ma K (He.ga K "One") "__init__") fd ["self", "name", "options", "where"] (spIT K "One" "name" "options" "where") := by
  refine F.ok sc_One (fun vs H Q E h => ?_) (fun cdv A outer s H vs Q E hr h => ?_)
  · obtain ⟨a, dx, l, v1, v3, xs, rfl, _⟩ := h
    rfl
  obtain ⟨a, dx, l, v1, v3, xs, rfl, hl, ha, q⟩ := h
  refine ⟨_, pss_cons (ps_fld (pv 0) (pv 1) rfl) (pss_cons (ps_fld (pv 0) (pe_callTy call_tuple_of (by rfl) T.z_tuple (by decide +kernel) (pa_cons (pv 2) pa_nil)) rfl) (pss_one (ps_fld (pv 0) (pv 3) rfl))), ?_⟩
  refine ⟨_, rfl, _, rfl, a, _, dx, _, rfl, ha, T.cl_One, T.n_One_name, (by show 0 < 1000; decide), ?_⟩
  have fin : ∀ t H1, H1 a = some (.ins (He.ga K "One") dx [("name", v1)]) → SqT K H1 t xs → (∀ b o, b ≠ a → H b = some o → H1 b = some o) → (tSeq (sFld K (tVar 0) (tC (.ref t)) "options") (sFld K (tVar 0) (tVar 3) "where")) { nx := fun _ H' => Q .non H', rt := Q } (L2.start ["self", "name", "options", "where"] [.ref a, v1, .ref l, v3]) H1 := fun t H1 h1 ht hk => by
    refine ⟨_, rfl, a, _, dx, _, rfl, h1, T.cl_One, T.n_One_options, (by show 1 < 1000; decide), ?_⟩
    refine ⟨_, rfl, _, rfl, a, _, dx, _, rfl, upd_same, T.cl_One, T.n_One_where, (by show 2 < 1000; decide), ?_⟩
    refine q t _ upd_same (SqT.far upd_same (SqT.far h1 ht)) fun b o hb ho => ?_
    rw [upd_ne hb, upd_ne hb]
    exact hk b o hb ho
  rcases hl with hl | hl
  · refine ⟨_, rfl, l, xs, rfl, .inl ⟨SqL.far ha hl, fun t ht => ?_⟩⟩
    refine fin t _ (by rw [upd_ne (ne_of_none upd_same ht)]; exact upd_same) (SqT.of upd_same) fun b o hb ho => ?_
    rw [upd_ne (fun z => by rw [← z, upd_ne hb, ho] at ht; cases ht), upd_ne hb]
    exact ho
  · refine ⟨_, rfl, l, xs, rfl, .inr ⟨SqT.far ha hl, ?_⟩⟩
    refine fin l _ upd_same (SqT.far ha hl) fun b o hb ho => ?_
    rw [upd_ne hb]
    exact ho
theorem sc_Some : FnScope ["self", "name", "options", "where"] ["self", "name", "options", "where"] (defScope s_Some_init) := ⟨rfl, rfl, rfl, by decide +kernel, rfl, by decide +kernel, by decide +kernel⟩
theorem ok_Some (T : Tx K mg) {fd : FuncData} (F : FunD K "__init__" "Some.__init__" (defArgs s_Some_init) (defBody s_Some_init) (defScope s_Some_init) [] [("where", V.non)] (He.ma K (He.ga K "Some") "__init__") fd) : FnOk P w K mg base (L2.CX P w) 1 (He.ma K (He.ga K "Some") "__init__") fd ["self", "name", "options", "where"] (spIT K "Some" "name" "options" "where") := by
  refine F.ok sc_Some (fun vs H Q E h => ?_) (fun cdv A outer s H vs Q E hr h => ?_)
  · obtain ⟨a, dx, l, v1, v3, xs, rfl, _⟩ := h
    rfl
  obtain ⟨a, dx, l, v1, v3, xs, rfl, hl, ha, q⟩ := h
  refine ⟨_, pss_cons (ps_fld (pv 0) (pv 1) rfl) (pss_cons (ps_fld (pv 0) (pe_callTy call_tuple_of (by rfl) T.z_tuple (by decide +kernel) (pa_cons (pv 2) pa_nil)) rfl) (pss_one (ps_fld (pv 0) (pv 3) rfl))), ?_⟩
  refine ⟨_, rfl, _, rfl, a, _, dx, _, rfl, ha, T.cl_Some, T.n_Some_name, (by show 0 < 1000; decide), ?_⟩
  have fin : ∀ t H1, H1 a = some (.ins (He.ga K "Some") dx [("name", v1)]) → SqT K H1 t xs → (∀ b o, b ≠ a → H b = some o → H1 b = some o) → (tSeq (sFld K (tVar 0) (tC (.ref t)) "options") (sFld K (tVar 0) (tVar 3) "where")) { nx := fun _ H' => Q .non H', rt := Q } (L2.start ["self", "name", "options", "where"] [.ref a, v1, .ref l, v3]) H1 := fun t H1 h1 ht hk => by
    refine ⟨_, rfl, a, _, dx, _, rfl, h1, T.cl_Some, T.n_Some_options, (by show 1 < 1000; decide), ?_⟩
    refine ⟨_, rfl, _, rfl, a, _, dx, _, rfl, upd_same, T.cl_Some, T.n_Some_where, (by show 2 < 1000; decide), ?_⟩
    refine q t _ upd_same (SqT.far upd_same (SqT.far h1 ht)) fun b o hb ho => ?_
    rw [upd_ne hb, upd_ne hb]
    exact hk b o hb ho
  rcases hl with hl | hl
  · refine ⟨_, rfl, l, xs, rfl, .inl ⟨SqL.far ha hl, fun t ht => ?_⟩⟩
    refine fin t _ (by rw [upd_ne (ne_of_none upd_same ht)]; exact upd_same) (SqT.of upd_same) fun b o hb ho => ?_
    rw [upd_ne (fun z => by rw [← z, upd_ne hb, ho] at ht; cases ht), upd_ne hb]
    exact ho
  · refine ⟨_, rfl, l, xs, rfl, .inr ⟨SqT.far ha hl, ?_⟩⟩
    refine fin l _ upd_same (SqT.far ha hl) fun b o hb ho => ?_
    rw [upd_ne hb]
    exact ho
theorem sc_Rounds : FnScope ["self", "count", "rows", "where"] ["self", "count", "rows", "where"] (defScope s_Rounds_init) := ⟨rfl, rfl, rfl, by decide +kernel, rfl, by decide +kernel, by decide +kernel⟩
theorem ok_Rounds (T : Tx K mg) {fd : FuncData} (F : FunD K "__init__" "Rounds.__init__" (defArgs s_Rounds_init) (defBody s_Rounds_init) (defScope s_Rounds_init) [] [("where", V.non)] (He.ma K (He.ga K "Rounds") "__init__") fd) : FnOk P w K mg base (L2.CX P w) 1 (He.ma K (He.ga K "Rounds") "__init__") fd ["self", "count", "rows", "where"] (spIT K "Rounds" "count" "rows" "where") := by
  refine F.ok sc_Rounds (fun vs H Q E h => ?_) (fun cdv A outer s H vs Q E hr h => ?_)
  · obtain ⟨a, dx, l, v1, v3, xs, rfl, _⟩ := h
    rfl
  obtain ⟨a, dx, l, v1, v3, xs, rfl, hl, ha, q⟩ := h
  refine ⟨_, pss_cons (ps_fld (pv 0) (pv 1) rfl) (pss_cons (ps_fld (pv 0) (pe_callTy call_tuple_of (by rfl) T.z_tuple (by decide +kernel) (pa_cons (pv 2) pa_nil)) rfl) (pss_one (ps_fld (pv 0) (pv 3) rfl))), ?_⟩
  refine ⟨_, rfl, _, rfl, a, _, dx, _, rfl, ha, T.cl_Rounds, T.n_Rounds_count, (by show 0 < 1000; decide), ?_⟩
  have fin : ∀ t H1, H1 a = some (.ins (He.ga K "Rounds") dx [("count", v1)]) → SqT K H1 t xs → (∀ b o, b ≠ a → H b = some o → H1 b = some o) → (tSeq (sFld K (tVar 0) (tC (.ref t)) "rows") (sFld K (tVar 0) (tVar 3) "where")) { nx := fun _ H' => Q .non H', rt := Q } (L2.start ["self", "count", "rows", "where"] [.ref a, v1, .ref l, v3]) H1 := fun t H1 h1 ht hk => by
    refine ⟨_, rfl, a, _, dx, _, rfl, h1, T.cl_Rounds, T.n_Rounds_rows, (by show 1 < 1000; decide), ?_⟩
    refine ⟨_, rfl, _, rfl, a, _, dx, _, rfl, upd_same, T.cl_Rounds, T.n_Rounds_where, (by show 2 < 1000; decide), ?_⟩
    refine q t _ upd_same (SqT.far upd_same (SqT.far h1 ht)) fun b o hb ho => ?_
    rw [upd_ne hb, upd_ne hb]
    exact hk b o hb ho
  rcases hl with hl | hl
  · refine ⟨_, rfl, l, xs, rfl, .inl ⟨SqL.far ha hl, fun t ht => ?_⟩⟩
    refine fin t _ (by rw [upd_ne (ne_of_none upd_same ht)]; exact upd_same) (SqT.of upd_same) fun b o hb ho => ?_
    rw [upd_ne (fun z => by rw [← z, upd_ne hb, ho] at ht; cases ht), upd_ne hb]
    exact ho
  · refine ⟨_, rfl, l, xs, rfl, .inr ⟨SqT.far ha hl, ?_⟩⟩
    refine fin l _ upd_same (SqT.far ha hl) fun b o hb ho => ?_
    rw [upd_ne hb]
    exact ho
theorem sc_Section : FnScope ["self", "rows", "where"] ["self", "rows", "where"] (defScope s_Section_init) := ⟨rfl, rfl, rfl, by decide +kernel, rfl, by decide +kernel, by decide +kernel⟩
theorem ok_Section (T : Tx K mg) {fd : FuncData} (F : FunD K "__init__" "Section.__init__" (defArgs s_Section_init) (defBody s_Section_init) (defScope s_Section_init) [] [("where", V.non)] (He.ma K (He.ga K "Section") "__init__") fd) : FnOk P w K mg base (L2.CX P w) 1 (He.ma K (He.ga K "Section") "__init__") fd ["self", "rows", "where"] (spIS K) := by
  refine F.ok sc_Section (fun vs H Q E h => ?_) (fun cdv A outer s H vs Q E hr h => ?_)
  · obtain ⟨a, dx, l, v3, xs, rfl, _⟩ := h
    rfl
  obtain ⟨a, dx, l, v3, xs, rfl, hl, ha, q⟩ := h
  refine ⟨_, pss_cons (ps_fld (pv 0) (pe_callTy call_tuple_of (by rfl) T.z_tuple (by decide +kernel) (pa_cons (pv 1) pa_nil)) rfl) (pss_one (ps_fld (pv 0) (pv 2) rfl)), ?_⟩
  have fin : ∀ t H1, H1 a = some (.ins (He.ga K "Section") dx []) → SqT K H1 t xs → (∀ b o, b ≠ a → H b = some o → H1 b = some o) → (tSeq (sFld K (tVar 0) (tC (.ref t)) "rows") (sFld K (tVar 0) (tVar 2) "where")) { nx := fun _ H' => Q .non H', rt := Q } (L2.start ["self", "rows", "where"] [.ref a, .ref l, v3]) H1 := fun t H1 h1 ht hk => by
    refine ⟨_, rfl, a, _, dx, _, rfl, h1, T.cl_Section, T.n_Section_rows, (by show 0 < 1000; decide), ?_⟩
    refine ⟨_, rfl, _, rfl, a, _, dx, _, rfl, upd_same, T.cl_Section, T.n_Section_where, (by show 1 < 1000; decide), ?_⟩
    refine q t _ upd_same (SqT.far upd_same (SqT.far h1 ht)) fun b o hb ho => ?_
    rw [upd_ne hb, upd_ne hb]
    exact hk b o hb ho
  rcases hl with hl | hl
  · refine ⟨_, rfl, l, xs, rfl, .inl ⟨hl, fun t ht => ?_⟩⟩
    refine fin t _ (by rw [upd_ne (ne_of_none ha ht)]; exact ha) (SqT.of upd_same) fun b o hb ho => ?_
    rw [upd_ne (ne_of_none ho ht)]
    exact ho
  · refine ⟨_, rfl, l, xs, rfl, .inr ⟨hl, ?_⟩⟩
    exact fin l _ ha hl fun b o hb ho => ho
end
end K3
end P4_part
section P5_part
set_option Elab.async false
set_option linter.all false
set_option maxRecDepth 100000
set_option maxHeartbeats 1000000
set_option pp.deepTerms.threshold 5
open PySem PySem.Spec PyProof.Rows L2
/-- go on as far as nothing is open -/
local macro_rules | `(tactic| walk_at "go") => `(tactic| repeat (first
  | with_reducible refine w_seq ?_ | with_reducible refine w_next ?_ | with_reducible refine w_set ?_ | with_reducible refine w_drop ?_ | with_reducible refine w_ret ?_ | with_reducible refine w_retN ?_
  | with_reducible refine w_if ?_ | ((with_reducible refine' w_var ?hv ?_); (case hv => exact rfl)) | with_reducible refine w_c ?_ | with_reducible refine w_nil ?_ | with_reducible refine w_cons ?_ | with_reducible refine w_op ?_ | with_reducible refine w_un ?_
  | with_reducible refine w_test ?_ | with_reducible refine w_tB ?_ | with_reducible refine w_not ?_ | with_reducible refine w_and ?_ | with_reducible refine w_or ?_ | with_reducible refine w_bl ?_
  | with_reducible refine w_andV ?_ | with_reducible refine w_orV ?_ | with_reducible refine w_notV ?_ | with_reducible refine w_ifE ?_ | with_reducible refine w_chain ?_ | with_reducible refine w_i0 ?_
  | with_reducible refine w_call ?_ | with_reducible refine w_callS ?_ | with_reducible refine w_cB ?_ | with_reducible refine w_tup ?_ | with_reducible refine w_lst ?_ | with_reducible refine w_fldV ?_
  | with_reducible refine w_neF ?_ | with_reducible refine w_neT ?_ | with_reducible refine w_notN ?_ | with_reducible refine w_isN ?_ | with_reducible refine w_gname ?_ | with_reducible refine w_gsub ?_ | with_reducible refine w_asg ?_ | with_reducible refine w_yes ?_ | with_reducible refine w_nT ?_ | with_reducible refine w_nF ?_ | with_reducible refine w_iteT ?_ | with_reducible refine w_iteF ?_))
namespace K3
/-! ### conditions laid out -/
def Cd.simp : Cd → List Cd
  | .no c => c.simp
  | .both c d => c.simp ++ d.simp
  | .either c d => c.simp ++ d.simp
  | c => [c]
def Cd.dep : Cd → Nat
  | .no c => c.dep + 1
  | .both c d => max c.dep d.dep + 1
  | .either c d => max c.dep d.dep + 1
  | _ => 0
/-- a new list of objects of these conditions -/
def RetC (K : PySem.W.Frag) (cs : List Cd) (H : Hp) (Q : VK) : Prop := ∀ p H' xs, H p = none → Same H H' → H' p = some (.lst xs) → Paired (CO K H') xs cs → Q (.ref p) H'
def spSimp (K : PySem.W.Frag) (n : Nat) : Sp := fun vs H Q _ => ∃ (v : V) (c : Cd), vs = [v] ∧ CO K H v c ∧ c.dep < n ∧ c.simp.length ≤ 1000 ∧ RetC K c.simp H Q
theorem Paired.same {K : PySem.W.Frag} {H H' : Hp} (e : Same H H') {xs : List V} {cs : List Cd} (h : Paired (CO K H) xs cs) : Paired (CO K H') xs cs := L2.Paired.mapP h fun _ _ q => q.same e
theorem Paired.app {α β : Type} {F : α → β → Prop} : ∀ {l1 l3 : List α} {l2 l4 : List β}, Paired F l1 l2 → Paired F l3 l4 → Paired F (l1 ++ l3) (l2 ++ l4)
  | _, _, _, _, .nil, h => h
  | _, _, _, _, .cons a t, h => .cons a (Paired.app t h)
section
variable {P : Program} {w : World} {K : PySem.W.Frag} {mg : Str → Option Value} {base : Heap}
theorem ok_none {f : Addr} {fd : FuncData} {ps : List Str} {sp : Sp} (no : ∀ vs H Q E, ¬ sp vs H Q E) : FnOk P w K mg base (L2.CX P w) 0 f fd ps sp :=
  ⟨fun vs H Q E h => absurd h (no vs H Q E), fun A outer s H args us vs Q E _ _ _ _ h => absurd h (no vs H Q E)⟩
theorem sc_simple_ones : FnScope ["condition"] ["condition"] (defScope s_simple_ones) := ⟨rfl, rfl, rfl, by decide +kernel, rfl, by decide +kernel, by decide +kernel⟩
theorem ok_simple_ones (T : Tx K mg) : ∀ n, Ok P w K mg base n (He.ga K "simple_ones") ["condition"] (spSimp K n) := by
  obtain ⟨fd, F⟩ := T.f_simple_ones
  have b : Binds K fd ["condition"] [] := F.bindsN fun _ _ _ _ _ _ us hl => match us, hl with | [_], _ => rfl
  intro n
  induction n with
  | zero =>
    refine ⟨fd, ok_none fun vs H Q E h => ?_, b, F.kp⟩
    obtain ⟨v, c, _, _, h, _⟩ := h
    omega
  | succ n ih =>
    refine ⟨fd, F.ok sc_simple_ones (fun vs H Q E h => ?_) (fun cdv A outer s H vs Q E hr h => ?_), b, F.kp⟩
    · obtain ⟨v, c, rfl, _⟩ := h
      rfl
    obtain ⟨v, c, rfl, hc, hd, hl, q⟩ := h
    refine ⟨_, pss_cons (ps_if (pt_val (pe_callB call_isi (by rfl) T.z_isinstance (by decide +kernel) (pa_cons (pv 0) (pa_cons (pe_gref T.g_Not) pa_nil)))) (pss_one (ps_ret (pe_f ih hr T.g_simple_ones (pa_cons (pe_fld (pv 0) rfl) pa_nil)))) pss_nil)
      (pss_cons (ps_if (pt_val (pe_callB call_isiT (by rfl) T.z_isinstance (by decide +kernel) (pa_cons (pv 0) (pa_cons (pe_tup (pa_cons (pe_gref T.g_Both) (pa_cons (pe_gref T.g_Either) pa_nil))) pa_nil))))
          (pss_one (ps_ret (pe_op op_cat (pe_f ih hr T.g_simple_ones (pa_cons (pe_fld (pv 0) rfl) pa_nil)) (pe_f ih hr T.g_simple_ones (pa_cons (pe_fld (pv 0) rfl) pa_nil))))) pss_nil)
        (pss_one (ps_ret (pe_lst (pa_cons (pv 0) pa_nil))))), ?_⟩
    walk_at "go"
    refine isiC T hc (y := "Not") (by decide) ?_
    walk_at "go"
    have two : ∀ (x : Str) (a : Addr) (l r : V) (c1 c2 : Cd), c.simp = c1.simp ++ c2.simp → c.dep = max c1.dep c2.dep + 1 → v = .ref a → Ins K H a x [("left", l), ("right", r)] → Cls K (He.ga K x) → NoAttr K (He.ga K x) "left" → NoAttr K (He.ga K x) "right" → CO K H l c1 → CO K H r c2 →
        ∀ (p : Addr) (H1 : Hp), Same H H1 → tRet (tOp rCat (tCall (spSimp K n) [] E0 (tCons (tFld K (tVar 0) "left") tNil)) (tCall (spSimp K n) [] E0 (tCons (tFld K (tVar 0) "right") tNil))) { nx := fun _ H' => Q .non H', rt := Q } (L2.start ["condition"] [v]) H1 := by
      intro x a l r c1 c2 es ed ev hi hcl hn1 hn2 h1 h2 p H1 e1
      subst ev
      have hi1 := hi.same e1
      obtain ⟨dx, hi1⟩ := hi1
      have hl1 : c1.simp.length + c2.simp.length ≤ 1000 := by rw [es, List.length_append] at hl; exact hl
      walk_at "go"
      refine ⟨a, _, dx, _, l, rfl, hi1, hcl, hn1, rfl, ?_⟩
      walk_at "go"
      refine ⟨l, c1, rfl, h1.same e1, by omega, by omega, fun p1 H2 xs1 _ e2 hp1 q1 => ?_⟩
      walk_at "go"
      refine ⟨a, _, dx, _, r, rfl, e2 _ _ hi1, hcl, hn2, rfl, ?_⟩
      walk_at "go"
      refine ⟨r, c2, rfl, (h2.same e1).same e2, by omega, by omega, fun p2 H3 xs2 _ e3 hp2 q2 => ?_⟩
      have g1 := q1.length
      have g2 := q2.length
      refine ⟨p1, p2, xs1, xs2, rfl, rfl, e3 _ _ hp1, hp2, Nat.le_trans (show xs1.length + xs2.length ≤ 1000 by omega) (by decide), fun p3 hp3 => ?_⟩
      have e4 : Same H1 (upd H3 p3 (.lst (xs1 ++ xs2))) := (e2.trans e3).trans (Same.new hp3 _)
      refine q p3 _ _ ((e1.trans (e2.trans e3)).free hp3) (e1.trans e4) upd_same ?_
      rw [es]
      exact K3.Paired.app (K3.Paired.same (e3.trans (Same.new hp3 _)) q1) (K3.Paired.same (Same.new hp3 _) q2)
    have one : c.simp = [c] → tRet (tLst (tCons (tVar 0) tNil)) { nx := fun _ H' => Q .non H', rt := Q } (L2.start ["condition"] [v]) = tRet (tLst (tCons (tVar 0) tNil)) { nx := fun _ H' => Q .non H', rt := Q } (L2.start ["condition"] [v]) ∧
        ∀ H1, Same H H1 → tRet (tLst (tCons (tVar 0) tNil)) { nx := fun _ H' => Q .non H', rt := Q } (L2.start ["condition"] [v]) H1 := fun es => ⟨rfl, fun H1 e1 => by
      walk_at "go"
      refine ⟨(by show 1 ≤ sizeLine; decide), fun p hp => ?_⟩
      refine q p _ [v] (e1.free hp) (e1.trans (Same.new hp _)) upd_same ?_
      rw [es]
      exact .cons (hc.same (e1.trans (Same.new hp _))) .nil⟩
    cases hc with
    | @no a u c' h1 h2 =>
      show if true = true then _ else _
      walk_at "go"
      obtain ⟨dx, h1⟩ := h1
      refine ⟨a, _, dx, _, u, rfl, h1, T.cl_Not, T.n_Not_inner, rfl, ?_⟩
      walk_at "go"
      exact ⟨u, c', rfl, h2, (by have : c'.dep + 1 < n + 1 := hd; omega), hl, q⟩
    | @both a l r c1 c2 h1 h2 h3 =>
      show if false = true then _ else _
      walk_at "go"
      refine ⟨(by show 2 ≤ sizeLine; decide), fun p hp => ?_⟩
      walk_at "go"
      refine isiC2 T (y := "Both") (z := "Either") (c := .both c1 c2) (CO.same (Same.new hp _) (.both h1 h2 h3)) upd_same (by decide) (by decide) ?_
      walk_at "go"
      show if true = true then _ else _
      refine w_iteT ?_
      exact two "Both" a l r c1 c2 rfl rfl rfl h1 T.cl_Both T.n_Both_left T.n_Both_right h2 h3 p _ (Same.new hp _)
    | @either a l r c1 c2 h1 h2 h3 =>
      show if false = true then _ else _
      walk_at "go"
      refine ⟨(by show 2 ≤ sizeLine; decide), fun p hp => ?_⟩
      walk_at "go"
      refine isiC2 T (y := "Both") (z := "Either") (c := .either c1 c2) (CO.same (Same.new hp _) (.either h1 h2 h3)) upd_same (by decide) (by decide) ?_
      walk_at "go"
      show if true = true then _ else _
      refine w_iteT ?_
      exact two "Either" a l r c1 c2 rfl rfl rfl h1 T.cl_Either T.n_Either_left T.n_Either_right h2 h3 p _ (Same.new hp _)
    | @is a x y h1 =>
      show if false = true then _ else _
      walk_at "go"
      refine ⟨(by show 2 ≤ sizeLine; decide), fun p hp => ?_⟩
      walk_at "go"
      refine isiC2 T (y := "Both") (z := "Either") (CO.same (Same.new hp _) (.is h1)) upd_same (by decide) (by decide) ?_
      walk_at "go"
      show if false = true then _ else _
      refine w_iteF ?_
      exact (one rfl).2 _ (Same.new hp _)
    | @has a x y h1 =>
      show if false = true then _ else _
      walk_at "go"
      refine ⟨(by show 2 ≤ sizeLine; decide), fun p hp => ?_⟩
      walk_at "go"
      refine isiC2 T (y := "Both") (z := "Either") (CO.same (Same.new hp _) (.has h1)) upd_same (by decide) (by decide) ?_
      walk_at "go"
      show if false = true then _ else _
      refine w_iteF ?_
      exact (one rfl).2 _ (Same.new hp _)
    | @over a x y h1 =>
      show if false = true then _ else _
      walk_at "go"
      refine ⟨(by show 2 ≤ sizeLine; decide), fun p hp => ?_⟩
      walk_at "go"
      refine isiC2 T (y := "Both") (z := "Either") (CO.same (Same.new hp _) (.over h1)) upd_same (by decide) (by decide) ?_
      walk_at "go"
      show if false = true then _ else _
      refine w_iteF ?_
      exact (one rfl).2 _ (Same.new hp _)
    | @under a x y h1 =>
      show if false = true then _ else _
      walk_at "go"
      refine ⟨(by show 2 ≤ sizeLine; decide), fun p hp => ?_⟩
      walk_at "go"
      refine isiC2 T (y := "Both") (z := "Either") (CO.same (Same.new hp _) (.under h1)) upd_same (by decide) (by decide) ?_
      walk_at "go"
      show if false = true then _ else _
      refine w_iteF ?_
      exact (one rfl).2 _ (Same.new hp _)
end
end K3
end P5_part
section P6_part
set_option Elab.async false
set_option linter.all false
set_option maxRecDepth 100000
set_option maxHeartbeats 1000000
set_option pp.deepTerms.threshold 5
open PySem PySem.Spec PyProof.Rows L2
/-- go on as far as nothing is open -/
local macro_rules | `(tactic| walk_at "go") => `(tactic| repeat (first
  | with_reducible refine w_seq ?_ | with_reducible refine w_next ?_ | with_reducible refine w_set ?_ | with_reducible refine w_drop ?_ | with_reducible refine w_ret ?_ | with_reducible refine w_retN ?_
  | with_reducible refine w_if ?_ | ((with_reducible refine' w_var ?hv ?_); (case hv => exact rfl)) | with_reducible refine w_c ?_ | with_reducible refine w_nil ?_ | with_reducible refine w_cons ?_ | with_reducible refine w_op ?_ | with_reducible refine w_un ?_
  | with_reducible refine w_test ?_ | with_reducible refine w_tB ?_ | with_reducible refine w_not ?_ | with_reducible refine w_and ?_ | with_reducible refine w_or ?_ | with_reducible refine w_bl ?_
  | with_reducible refine w_andV ?_ | with_reducible refine w_orV ?_ | with_reducible refine w_notV ?_ | with_reducible refine w_ifE ?_ | with_reducible refine w_chain ?_ | with_reducible refine w_i0 ?_
  | with_reducible refine w_call ?_ | with_reducible refine w_callS ?_ | with_reducible refine w_cB ?_ | with_reducible refine w_tup ?_ | with_reducible refine w_lst ?_ | with_reducible refine w_fldV ?_
  | with_reducible refine w_neF ?_ | with_reducible refine w_neT ?_ | with_reducible refine w_notN ?_ | with_reducible refine w_isN ?_ | with_reducible refine w_gname ?_ | with_reducible refine w_gsub ?_ | with_reducible refine w_asg ?_ | with_reducible refine w_yes ?_ | with_reducible refine w_nT ?_ | with_reducible refine w_nF ?_ | with_reducible refine w_iteT ?_ | with_reducible refine w_iteF ?_))
namespace K3
def Rw.isQ : Rw → Bool
  | .one _ _ _ => true | .some _ _ _ => true | .number _ _ _ _ => true | _ => false
def Rw.isN : Rw → Bool
  | .sect _ _ => false | .rounds _ _ _ => false | _ => true
def Rw.wh : Rw → Option Cd
  | .one _ _ w => w | .some _ _ w => w | .number _ _ _ w => w | .check _ _ w => w | .sect _ w => w | .rounds _ _ w => w
def owh : Option Cd → List Cd
  | none => []
  | some c => c.simp
def Rw.mu : Rw → List Cd
  | .check _ m _ => m.simp
  | _ => []
def Rw.conds (r : Rw) : List Cd := owh r.wh ++ r.mu
def odep : Option Cd → Nat
  | none => 0
  | some c => c.dep
def Rw.cdep : Rw → Nat
  | .check _ m w => max m.dep (odep w)
  | r => odep r.wh
theorem CO.ref {K : PySem.W.Frag} {H : Hp} {v : V} {c : Cd} (h : CO K H v c) : ∃ a, v = .ref a := by cases h <;> exact ⟨_, rfl⟩
theorem RO.ref {K : PySem.W.Frag} {H : Hp} {v : V} {r : Rw} (h : RO K H v r) : ∃ a, v = .ref a := by cases h <;> exact ⟨_, rfl⟩
def spRB (K : PySem.W.Frag) (f : Rw → Bool) : Sp := fun vs H Q _ => ∃ (v : V) (r : Rw), vs = [v] ∧ RO K H v r ∧ ∀ H', Same H H' → Q (.bl (f r)) H'
def spConds (K : PySem.W.Frag) (n : Nat) : Sp := fun vs H Q _ => ∃ (v : V) (r : Rw), vs = [v] ∧ RO K H v r ∧ r.cdep < n ∧ (owh r.wh).length ≤ 1000 ∧ r.mu.length ≤ 1000 ∧ RetC K r.conds H Q
section
variable {P : Program} {w : World} {K : PySem.W.Frag} {mg : Str → Option Value} {base : Heap}
/-- the field where of a row -/
theorem ro_where (T : Tx K mg) {H : Hp} {v : V} {r : Rw} (h : RO K H v r) : ∃ a dx fs wv, v = .ref a ∧ H a = some (.ins (He.ga K r.nm) dx fs) ∧ Cls K (He.ga K r.nm) ∧ NoAttr K (He.ga K r.nm) "where" ∧ fs.lookup ("where" : Str) = some wv ∧ WO K H wv r.wh := by
  cases h with
  | one h _ w => obtain ⟨dx, h⟩ := h; exact ⟨_, dx, _, _, rfl, h, T.cl_One, T.n_One_where, rfl, w⟩
  | some h _ w => obtain ⟨dx, h⟩ := h; exact ⟨_, dx, _, _, rfl, h, T.cl_Some, T.n_Some_where, rfl, w⟩
  | number h w => obtain ⟨dx, h⟩ := h; exact ⟨_, dx, _, _, rfl, h, T.cl_Number, T.n_Number_where, rfl, w⟩
  | check h _ w => obtain ⟨dx, h⟩ := h; exact ⟨_, dx, _, _, rfl, h, T.cl_Check, T.n_Check_where, rfl, w⟩
  | sect h _ _ w => obtain ⟨dx, h⟩ := h; exact ⟨_, dx, _, _, rfl, h, T.cl_Section, T.n_Section_where, rfl, w⟩
  | rounds h _ _ w => obtain ⟨dx, h⟩ := h; exact ⟨_, dx, _, _, rfl, h, T.cl_Rounds, T.n_Rounds_where, rfl, w⟩
theorem sc_is_question : FnScope ["row"] ["row"] (defScope s_is_question) := ⟨rfl, rfl, rfl, by decide +kernel, rfl, by decide +kernel, by decide +kernel⟩
theorem ok_is_question (T : Tx K mg) : Ok P w K mg base 1 (He.ga K "is_question") ["row"] (spRB K Rw.isQ) := by
  obtain ⟨fd, F⟩ := T.f_is_question
  refine ⟨fd, F.ok sc_is_question (fun vs H Q E h => ?_) (fun cdv A outer s H vs Q E hr h => ?_), F.bindsN fun _ _ _ _ _ _ us hl => match us, hl with | [_], _ => rfl, F.kp⟩
  · obtain ⟨v, r, rfl, _⟩ := h
    rfl
  obtain ⟨v, r, rfl, hv, q⟩ := h
  refine ⟨_, pss_one (ps_ret (pe_callB call_isiT (by rfl) T.z_isinstance (by decide +kernel) (pa_cons (pv 0) (pa_cons (pe_tup (pa_cons (pe_gref T.g_One) (pa_cons (pe_gref T.g_Some) (pa_cons (pe_gref T.g_Number) pa_nil)))) pa_nil)))), ?_⟩
  walk_at "go"
  refine ⟨(by show 3 ≤ sizeLine; decide), fun p hp => ?_⟩
  walk_at "go"
  refine isiR3 T (y := "One") (z := "Some") (x := "Number") (hv.same (Same.new hp _)) upd_same (by decide) (by decide) (by decide) ?_
  have := q _ (Same.new hp (.tup [.ref (He.ga K "One"), .ref (He.ga K "Some"), .ref (He.ga K "Number")]))
  cases r <;> exact this
theorem sc_is_named : FnScope ["row"] ["row"] (defScope s_is_named) := ⟨rfl, rfl, rfl, by decide +kernel, rfl, by decide +kernel, by decide +kernel⟩
theorem ok_is_named (T : Tx K mg) : Ok P w K mg base 2 (He.ga K "is_named") ["row"] (spRB K Rw.isN) := by
  obtain ⟨fd, F⟩ := T.f_is_named
  refine ⟨fd, F.ok sc_is_named (fun vs H Q E h => ?_) (fun cdv A outer s H vs Q E hr h => ?_), F.bindsN fun _ _ _ _ _ _ us hl => match us, hl with | [_], _ => rfl, F.kp⟩
  · obtain ⟨v, r, rfl, _⟩ := h
    rfl
  obtain ⟨v, r, rfl, hv, q⟩ := h
  refine ⟨_, pss_one (ps_ret (pe_or (pe_f (ok_is_question T) (hr.mono (by decide)) T.g_is_question (pa_cons (pv 0) pa_nil)) (pe_one (pe_callB call_isi (by rfl) T.z_isinstance (by decide +kernel) (pa_cons (pv 0) (pa_cons (pe_gref T.g_Check) pa_nil)))))), ?_⟩
  walk_at "go"
  refine ⟨v, r, rfl, hv, fun H1 e1 => ?_⟩
  have hv1 := hv.same e1
  have q1 := q H1 e1
  cases hq : r.isQ with
  | true =>
    walk_at "go"
    cases r <;> first | exact q1 | cases hq
  | false =>
    walk_at "go"
    refine isiR T (y := "Check") hv1 (by decide) ?_
    cases r <;> first | exact q1 | cases hq
theorem sc_conditions_of : FnScope ["row", "conditions"] ["row"] (defScope s_conditions_of) := ⟨rfl, rfl, rfl, by decide +kernel, rfl, by decide +kernel, by decide +kernel⟩
theorem ok_conditions_of (T : Tx K mg) (n : Nat) : Ok P w K mg base (n + 1) (He.ga K "conditions_of") ["row"] (spConds K n) := by
  obtain ⟨fd, F⟩ := T.f_conditions_of
  refine ⟨fd, F.ok sc_conditions_of (fun vs H Q E h => ?_) (fun cdv A outer s H vs Q E hr h => ?_), F.bindsN fun _ _ _ _ _ _ us hl => match us, hl with | [_], _ => rfl, F.kp⟩
  · obtain ⟨v, r, rfl, _⟩ := h
    rfl
  obtain ⟨v, r, rfl, hv, hd, l1, l2, q⟩ := h
  refine ⟨_, pss_cons (ps_set (i := 1) sc_conditions_of.nd rfl (Or.inl rfl) (pe_lst pa_nil))
    (pss_cons (ps_if (pt_cmp (pc_notN (pe_fld (pv 0) rfl))) (pss_one (ps_expr (pe_bm PySem.F.plainAttrs_list PySem.F.slot_list_extend PySem.F.type_list_extend mt_extend (pv 1) (pa_cons (pe_f (ok_simple_ones T n) hr T.g_simple_ones (pa_cons (pe_fld (pv 0) rfl) pa_nil)) pa_nil)))) pss_nil)
    (pss_cons (ps_if (pt_val (pe_callB call_isi (by rfl) T.z_isinstance (by decide +kernel) (pa_cons (pv 0) (pa_cons (pe_gref T.g_Check) pa_nil)))) (pss_one (ps_expr (pe_bm PySem.F.plainAttrs_list PySem.F.slot_list_extend PySem.F.type_list_extend mt_extend (pv 1) (pa_cons (pe_f (ok_simple_ones T n) hr T.g_simple_ones (pa_cons (pe_fld (pv 0) rfl) pa_nil)) pa_nil)))) pss_nil)
    (pss_one (ps_ret (pv 1))))), ?_⟩
  walk_at "go"
  refine ⟨Nat.zero_le _, fun p hp => ?_⟩
  walk_at "go"
  obtain ⟨a, dx, fs, wv, rfl, hi, hcl, hn, hlk, hw⟩ := ro_where T hv
  have stp : ∀ (H1 : Hp) (xs : List V) (cs : List Cd) (u : V) (c : Cd), Same H H1 → H1 p = some (.lst xs) → Paired (CO K H1) xs cs → xs.length ≤ 1000 → CO K H1 u c → c.dep < n → c.simp.length ≤ 1000 → ∀ (G : VK), (∀ H2 ys, Same H H2 → H2 p = some (.lst (xs ++ ys)) → Paired (CO K H2) (xs ++ ys) (cs ++ c.simp) → (xs ++ ys).length ≤ 2000 → G .non H2) →
      spSimp K n ([u] ++ []) H1 (fun x H2 => tNil (L2.start ["row"] []) H2 fun ys H3 => rExtend (.ref p) (x :: ys) H3 G) E0 := by
    intro H1 xs cs u c e1 h1 hx hxl hu hdc hlc G k
    refine ⟨u, c, rfl, hu, hdc, hlc, fun p2 H2 ys hp2n e2 hp2 hys => ?_⟩
    have ly := hys.length
    have lx := hx.length
    refine ⟨p, p2, xs, ys, rfl, rfl, e2 _ _ h1, hp2, Nat.le_trans (show xs.length + ys.length ≤ 2000 by omega) (by decide), ?_⟩
    have si : SI H2 (upd H2 p (.lst (xs ++ ys))) := SI.upd (e2 _ _ h1) rfl _
    refine k _ ys ((e1.trans e2).mut hp) upd_same ?_ (by rw [List.length_append]; omega)
    exact K3.Paired.app (L2.Paired.mapP hx fun _ _ q => (q.same e2).si si) (L2.Paired.mapP hys fun _ _ q => q.si si)
  have tail : ∀ (H1 : Hp) (xs : List V), Same H H1 → H1 p = some (.lst xs) → Paired (CO K H1) xs (owh r.wh) →
      (tSeq (tIfS (tB (tCB (rIsi K) (tCons (tVar 0) (tCons (tC (.ref (He.ga K "Check"))) tNil)))) (tDrop (tBM K "list" rExtend (tVar 1) (tCons (tCall (spSimp K n) [] E0 (tCons (tFld K (tVar 0) "must") tNil)) tNil))) tNext) (tRet (tVar 1)))
        { nx := fun _ H' => Q .non H', rt := Q } [some (.ref a), some (.ref p)] H1 := by
    intro H1 xs e1 h1 hx
    have lx := hx.length
    have hv1 := hv.same e1
    walk_at "go"
    refine isiR T hv1 (y := "Check") (by decide) ?_
    walk_at "go"
    have fin : r.mu = [] → Q (.ref p) H1 := fun hm => q p H1 xs hp e1 h1 (by unfold Rw.conds; rw [hm, List.append_nil]; exact hx)
    cases hv1 with
    | check h hm hw =>
      obtain ⟨dx2, h⟩ := h
      show if true = true then _ else _
      refine w_iteT ?_
      walk_at "go"
      refine ⟨_, rfl, .inl ⟨rfl, _, SqL.of h1⟩, ?_⟩
      walk_at "go"
      refine ⟨a, _, dx2, _, _, rfl, h, T.cl_Check, T.n_Check_must, rfl, ?_⟩
      walk_at "go"
      refine stp H1 xs _ _ _ e1 h1 hx (by rw [lx]; exact l1) hm ?_ l2 _ fun H2 ys e2 h2 hp2 _ => ?_
      · exact Nat.lt_of_le_of_lt (Nat.le_max_left _ _) hd
      · walk_at "go"
        exact q p H2 _ hp e2 h2 hp2
    | _ =>
      show if false = true then _ else _
      refine w_iteF ?_
      exact ⟨_, rfl, fin rfl⟩
  refine ⟨a, _, dx, fs, wv, rfl, Same.new hp _ _ _ hi, hcl, hn, hlk, ?_⟩
  walk_at "go"
  have hdw : odep r.wh < n := by
    cases r <;> first | exact hd | exact Nat.lt_of_le_of_lt (Nat.le_max_right _ _) hd
  generalize hr' : r.wh = o at hw tail l1 hdw
  cases hw with
  | none =>
    walk_at "go"
    exact tail _ [] (Same.new hp _) upd_same .nil
  | @some _ c hc =>
    obtain ⟨a', rfl⟩ := hc.ref
    walk_at "go"
    refine ⟨_, rfl, .inl ⟨rfl, _, SqL.of upd_same⟩, ?_⟩
    walk_at "go"
    refine ⟨a, _, dx, fs, _, rfl, Same.new hp _ _ _ hi, hcl, hn, hlk, ?_⟩
    walk_at "go"
    refine stp _ [] [] _ c (Same.new hp _) upd_same .nil (Nat.zero_le _) (hc.same (Same.new hp _)) hdw l1 _ fun H2 ys e2 h2 hp2 _ => ?_
    exact tail H2 _ e2 h2 hp2
end
end K3
end P6_part
section P7_part
set_option Elab.async false
set_option linter.all false
set_option maxRecDepth 100000
set_option maxHeartbeats 1000000
set_option pp.deepTerms.threshold 5
open PySem PySem.Spec PyProof.Rows L2
/-- go on as far as nothing is open -/
local macro_rules | `(tactic| walk_at "go") => `(tactic| repeat (first
  | with_reducible refine w_seq ?_ | with_reducible refine w_next ?_ | with_reducible refine w_set ?_ | with_reducible refine w_drop ?_ | with_reducible refine w_ret ?_ | with_reducible refine w_retN ?_
  | with_reducible refine w_if ?_ | ((with_reducible refine' w_var ?hv ?_); (case hv => exact rfl)) | with_reducible refine w_c ?_ | with_reducible refine w_nil ?_ | with_reducible refine w_cons ?_ | with_reducible refine w_op ?_ | with_reducible refine w_un ?_
  | with_reducible refine w_test ?_ | with_reducible refine w_tB ?_ | with_reducible refine w_not ?_ | with_reducible refine w_and ?_ | with_reducible refine w_or ?_ | with_reducible refine w_bl ?_
  | with_reducible refine w_andV ?_ | with_reducible refine w_orV ?_ | with_reducible refine w_notV ?_ | with_reducible refine w_ifE ?_ | with_reducible refine w_chain ?_ | with_reducible refine w_i0 ?_
  | with_reducible refine w_call ?_ | with_reducible refine w_callS ?_ | with_reducible refine w_cB ?_ | with_reducible refine w_tup ?_ | with_reducible refine w_lst ?_ | with_reducible refine w_fldV ?_
  | with_reducible refine w_neF ?_ | with_reducible refine w_neT ?_ | with_reducible refine w_notN ?_ | with_reducible refine w_isN ?_ | with_reducible refine w_gname ?_ | with_reducible refine w_gsub ?_ | with_reducible refine w_asg ?_ | with_reducible refine w_yes ?_ | with_reducible refine w_nT ?_ | with_reducible refine w_nF ?_ | with_reducible refine w_iteT ?_ | with_reducible refine w_iteF ?_))
namespace K3
def oV : Option Nat → V
  | none => .non
  | some n => .int (n : Int)
mutual
def Rw.cnt : Rw → Nat
  | .sect rs _ => 1 + Rws.cnt rs
  | .rounds _ rs _ => 1 + Rws.cnt rs
  | _ => 1
def Rws.cnt : List Rw → Nat
  | [] => 0
  | r :: rs => r.cnt + Rws.cnt rs
end
mutual
def Rw.dep : Rw → Nat
  | .sect rs _ => 1 + Rws.dep rs
  | .rounds _ rs _ => 1 + Rws.dep rs
  | _ => 0
def Rws.dep : List Rw → Nat
  | [] => 0
  | r :: rs => max r.dep (Rws.dep rs)
end
mutual
def Rw.flat : Rw → Option Nat → Nat → List (Rw × Option Nat)
  | .sect rs w, ar, n => (.sect rs w, ar) :: Rws.flat rs ar (n + 1)
  | .rounds c rs w, ar, n => (.rounds c rs w, ar) :: Rws.flat rs (some n) (n + 1)
  | .one n os w, ar, _ => [(.one n os w, ar)]
  | .some n os w, ar, _ => [(.some n os w, ar)]
  | .number n l h w, ar, _ => [(.number n l h w, ar)]
  | .check n m w, ar, _ => [(.check n m w, ar)]
def Rws.flat : List Rw → Option Nat → Nat → List (Rw × Option Nat)
  | [], _, _ => []
  | r :: rs, ar, n => r.flat ar n ++ Rws.flat rs ar (n + r.cnt)
end
mutual
theorem Rw.flat_len : ∀ (r : Rw) (ar : Option Nat) (n : Nat), (r.flat ar n).length = r.cnt
  | .sect rs w, ar, n => by unfold Rw.flat Rw.cnt; rw [List.length_cons, Rws.flat_len rs]; omega
  | .rounds c rs w, ar, n => by unfold Rw.flat Rw.cnt; rw [List.length_cons, Rws.flat_len rs]; omega
  | .one _ _ _, _, _ => by unfold Rw.flat Rw.cnt; rfl
  | .some _ _ _, _, _ => by unfold Rw.flat Rw.cnt; rfl
  | .number _ _ _ _, _, _ => by unfold Rw.flat Rw.cnt; rfl
  | .check _ _ _, _, _ => by unfold Rw.flat Rw.cnt; rfl
theorem Rws.flat_len : ∀ (rs : List Rw) (ar : Option Nat) (n : Nat), (Rws.flat rs ar n).length = Rws.cnt rs
  | [], _, _ => by unfold Rws.flat Rws.cnt; rfl
  | r :: rs, ar, n => by unfold Rws.flat Rws.cnt; rw [List.length_append, Rw.flat_len r, Rws.flat_len rs]
end
theorem Rws.flat_app (r : Rw) (ar : Option Nat) : ∀ (rs : List Rw) (n : Nat), Rws.flat (rs ++ [r]) ar n = Rws.flat rs ar n ++ r.flat ar (n + Rws.cnt rs)
  | [], n => by
    show Rws.flat [r] ar n = _
    unfold Rws.flat Rws.flat Rws.cnt
    simp
  | q :: rs, n => by
    show Rws.flat (q :: (rs ++ [r])) ar n = _
    have ih := Rws.flat_app r ar rs (n + q.cnt)
    rw [Rws.flat, ih, Rws.flat, Rws.cnt, List.append_assoc, Nat.add_assoc]
theorem Rws.cnt_app (r : Rw) : ∀ rs : List Rw, Rws.cnt (rs ++ [r]) = Rws.cnt rs + r.cnt
  | [] => by show Rws.cnt [r] = _; unfold Rws.cnt Rws.cnt; omega
  | q :: rs => by
    show Rws.cnt (q :: (rs ++ [r])) = _
    rw [Rws.cnt, Rws.cnt_app r rs, Rws.cnt]
    omega
theorem Rws.cnt_take : ∀ (rs : List Rw) (i : Nat), Rws.cnt (rs.take i) ≤ Rws.cnt rs
  | [], i => by simp
  | r :: rs, 0 => by simp [Rws.cnt]
  | r :: rs, i + 1 => by
    have := Rws.cnt_take rs i
    show Rws.cnt (r :: rs.take i) ≤ _
    rw [Rws.cnt, Rws.cnt]
    omega
theorem Rws.dep_get : ∀ {rs : List Rw} {i : Nat} {r : Rw}, rs[i]? = some r → r.dep ≤ Rws.dep rs
  | [], i, r, h => by simp at h
  | q :: rs, 0, r, h => by
    have e : q = r := by simpa using h
    rw [Rws.dep, e]
    omega
  | q :: rs, i + 1, r, h => by
    have := Rws.dep_get (rs := rs) (i := i) (r := r) (by simpa using h)
    rw [Rws.dep]
    omega
theorem ROs.get {K : PySem.W.Frag} {H : Hp} : ∀ {vs : List V} {rs : List Rw}, ROs K H vs rs → ∀ {i : Nat} {v : V}, vs[i]? = some v → ∃ r, rs[i]? = some r ∧ RO K H v r
  | _, _, .nil, i, v, h => by simp at h
  | _, _, .cons a t, 0, v, h => ⟨_, rfl, by have e := Option.some.inj (show some _ = some v from h); rw [← e]; exact a⟩
  | _, _, .cons a t, i + 1, v, h => ROs.get t (i := i) (by simpa using h)
theorem ROs.length {K : PySem.W.Frag} {H : Hp} : ∀ {vs : List V} {rs : List Rw}, ROs K H vs rs → vs.length = rs.length
  | _, _, .nil => rfl
  | _, _, .cons _ t => congrArg Nat.succ (ROs.length t)
/-- an entry of laid: a tuple of the row and its place of rounds -/
def LE (K : PySem.W.Frag) (H : Hp) (v : V) (e : Rw × Option Nat) : Prop := ∃ t u, v = .ref t ∧ H t = some (.tup [u, oV e.2]) ∧ RO K H u e.1
theorem LE.si {K : PySem.W.Frag} {H H' : Hp} {v : V} {e : Rw × Option Nat} (s : SI H H') (h : LE K H v e) : LE K H' v e := let ⟨t, u, e1, e2, e3⟩ := h; ⟨t, u, e1, s _ _ rfl e2, RO.si s e3⟩
abbrev LA (K : PySem.W.Frag) (H : Hp) : List V → List (Rw × Option Nat) → Prop := Paired (LE K H)
theorem LA.si {K : PySem.W.Frag} {H H' : Hp} (s : SI H H') {vs : List V} {l : List (Rw × Option Nat)} (h : LA K H vs l) : LA K H' vs l := L2.Paired.mapP h fun _ _ q => q.si s
/-- all but l stands -/
def But (l : Addr) (H H' : Hp) : Prop := ∀ b o, b ≠ l → H b = some o → H' b = some o
theorem But.si {l : Addr} {H H' : Hp} (h : But l H H') {xs : List V} (hl : H l = some (.lst xs)) : SI H H' := fun b o k q => h b o (fun z => by rw [z, hl] at q; cases q; cases k) q
theorem But.trans {l : Addr} {H H1 H2 : Hp} (a : But l H H1) (b : But l H1 H2) : But l H H2 := fun c o k q => b c o k (a c o k q)
theorem Same.but {l : Addr} {H H1 : Hp} (a : Same H H1) : But l H H1 := fun c o _ q => a c o q
theorem But.upd {l : Addr} {H : Hp} (o : HO) : But l H (upd H l o) := fun b u k q => by rw [upd_ne k]; exact q
def spLay (K : PySem.W.Frag) (n : Nat) : Sp := fun vs H Q _ => ∃ (a l : Addr) (ar : Option Nat) (xs ys : List V) (rs : List Rw), vs = [.ref a, oV ar, .ref l] ∧ SqT K H a xs ∧ ROs K H xs rs ∧ Rws.dep rs < n ∧ H l = some (.lst ys) ∧ ys.length + Rws.cnt rs ≤ 1000 ∧
  ∀ H' zs, But l H H' → H' l = some (.lst (ys ++ zs)) → LA K H' zs (Rws.flat rs ar ys.length) → Q .non H'
section
variable {P : Program} {w : World} {K : PySem.W.Frag} {mg : Str → Option Value} {base : Heap}
theorem sc_lay_out : FnScope ["rows", "around", "laid", "row", "place"] ["rows", "around", "laid"] (defScope s_lay_out) := ⟨rfl, rfl, rfl, by decide +kernel, rfl, by decide +kernel, by decide +kernel⟩
theorem ok_lay_out (T : Tx K mg) : ∀ n, Ok P w K mg base n (He.ga K "lay_out") ["rows", "around", "laid"] (spLay K n) := by
  obtain ⟨fd, F⟩ := T.f_lay_out
  have b : Binds K fd ["rows", "around", "laid"] [] := F.bindsN fun _ _ _ _ _ _ us hl => match us, hl with | [_, _, _], _ => rfl
  intro n
  induction n with
  | zero =>
    refine ⟨fd, ok_none fun vs H Q E h => ?_, b, F.kp⟩
    obtain ⟨_, _, _, _, _, _, _, _, _, h, _⟩ := h
    omega
  | succ n ih =>
    refine ⟨fd, F.ok sc_lay_out (fun vs H Q E h => ?_) (fun cdv A outer s H vs Q E hr h => ?_), b, F.kp⟩
    · obtain ⟨a, l, ar, xs, ys, rs, rfl, _⟩ := h
      rfl
    obtain ⟨a, l, ar, xs, ys, rs, rfl, ha, hx, hd, hl, hz, q⟩ := h
    refine ⟨_, pss_one (ps_for (passes_of rfl) rfl (pi_tup (pv 0)) (pg_name (i := 3) sc_lay_out.nd rfl (Or.inl rfl))
      (pss_cons (ps_set (i := 4) sc_lay_out.nd rfl (Or.inl rfl) (pe_callB call_len_seq (by rfl) T.z_len PySem.boot_len (pa_cons (pv 2) pa_nil)))
      (pss_cons (ps_expr (pe_bm PySem.F.plainAttrs_list PySem.F.slot_list_append PySem.F.type_list_append mt_append (pv 2) (pa_cons (pe_tup (pa_cons (pv 3) (pa_cons (pv 1) pa_nil))) pa_nil)))
      (pss_cons (ps_if (pt_val (pe_callB call_isi (by rfl) T.z_isinstance (by decide +kernel) (pa_cons (pv 3) (pa_cons (pe_gref T.g_Section) pa_nil)))) (pss_one (ps_expr (pe_f ih hr T.g_lay_out (pa_cons (pe_fld (pv 3) rfl) (pa_cons (pv 1) (pa_cons (pv 2) pa_nil)))))) pss_nil)
      (pss_one (ps_if (pt_val (pe_callB call_isi (by rfl) T.z_isinstance (by decide +kernel) (pa_cons (pv 3) (pa_cons (pe_gref T.g_Rounds) pa_nil)))) (pss_one (ps_expr (pe_f ih hr T.g_lay_out (pa_cons (pe_fld (pv 3) rfl) (pa_cons (pv 4) (pa_cons (pv 2) pa_nil)))))) pss_nil)))))), ?_⟩
    walk_at "go"
    refine ⟨_, rfl, a, rfl, ⟨_, ha⟩, ?_⟩
    refine for_tup (K := K) (a := a) (xs := xs) (fun (i : Nat) σ H' => ∃ v v' : Option V, σ = [some (.ref a), some (oV ar), some (.ref l), v, v'] ∧ But l H H' ∧
      ∃ zs, H' l = some (.lst (ys ++ zs)) ∧ LA K H' zs (Rws.flat (rs.take i) ar ys.length)) ⟨none, none, rfl, fun _ _ _ h => h, [], by rw [List.append_nil]; exact hl, by show LA K H [] (Rws.flat [] ar ys.length); rw [Rws.flat]; exact .nil⟩
      (fun i σ H' _ ⟨_, _, _, e, _⟩ => (e.si hl).sqt ha) ?_ ?_
    · rintro i x σ H1 hi ⟨v, v', rfl, e1, zs, h1, hzs⟩
      obtain ⟨r, hr1, hxr⟩ := hx.get hi
      have hlt : i < rs.length := (List.getElem?_eq_some_iff.mp hr1).1
      have hxr1 := RO.si (e1.si hl) hxr
      have hdr := Rws.dep_get hr1
      have lz := hzs.length
      rw [Rws.flat_len] at lz
      have tk : rs.take (i + 1) = rs.take i ++ [r] := by rw [List.take_add_one, hr1] <;> rfl
      have hc1 : Rws.cnt (rs.take i) + r.cnt ≤ Rws.cnt rs := by
        have := Rws.cnt_take rs (i + 1)
        rw [tk, Rws.cnt_app] at this
        exact this
      walk_at "go"
      refine ⟨l, _, rfl, .inl (SqL.of h1), ?_⟩
      walk_at "go"
      refine ⟨_, rfl, .inl ⟨rfl, _, SqL.of h1⟩, ?_⟩
      walk_at "go"
      refine ⟨(by show 2 ≤ sizeLine; decide), fun t ht => ?_⟩
      have h1t : upd H1 t (.tup [x, oV ar]) l = some (.lst (ys ++ zs)) := Same.new ht _ _ _ h1
      have lyz : (ys ++ zs).length = ys.length + Rws.cnt (rs.take i) := by rw [List.length_append, lz]
      walk_at "go"
      refine ⟨l, _, _, rfl, rfl, h1t, Nat.lt_of_le_of_lt (show (ys ++ zs).length ≤ 1000 by omega) (by decide), ?_⟩
      have elen : (ys ++ zs ++ [V.ref t]).length = ys.length + Rws.cnt (rs.take i) + 1 := by rw [List.length_append, lyz]; rfl
      have s2 : SI H1 (upd (upd H1 t (.tup [x, oV ar])) l (.lst (ys ++ zs ++ [.ref t]))) := (Same.new ht _).si.trans (SI.upd h1t rfl _)
      have e2 : But l H1 (upd (upd H1 t (.tup [x, oV ar])) l (.lst (ys ++ zs ++ [.ref t]))) := (K3.Same.but (Same.new ht _)).trans (But.upd _)
      have h2 : (upd (upd H1 t (.tup [x, oV ar])) l (.lst (ys ++ zs ++ [.ref t]))) l = some (.lst (ys ++ zs ++ [.ref t])) := upd_same
      have ht2 : (upd (upd H1 t (.tup [x, oV ar])) l (.lst (ys ++ zs ++ [.ref t]))) t = some (.tup [x, oV ar]) := by
        rw [upd_ne (fun z => by rw [← z, ht] at h1; cases h1)]
        exact upd_same
      generalize upd (upd H1 t (.tup [x, oV ar])) l (.lst (ys ++ zs ++ [.ref t])) = H2 at s2 e2 h2 ht2
      have hx2 := RO.si s2 hxr1
      have entry : LE K H2 (.ref t) (r, ar) := ⟨t, x, rfl, ht2, hx2⟩
      have fin : ∀ (H3 : Hp) (zs3 : List V) (L3 : List (Rw × Option Nat)), But l H2 H3 → H3 l = some (.lst (ys ++ zs ++ [.ref t] ++ zs3)) → LA K H3 zs3 L3 → r.flat ar (ys.length + Rws.cnt (rs.take i)) = (r, ar) :: L3 →
          But l H H3 ∧ ∃ zs, H3 l = some (.lst (ys ++ zs)) ∧ LA K H3 zs (Rws.flat (rs.take (i + 1)) ar ys.length) := by
        intro H3 zs3 L3 e3 h3 l3 ef
        refine ⟨(e1.trans e2).trans e3, zs ++ .ref t :: zs3, by rw [h3]; simp, ?_⟩
        rw [tk, Rws.flat_app, ef]
        exact K3.Paired.app (LA.si (s2.trans (e3.si h2)) hzs) (.cons (LE.si (e3.si h2) entry) l3)
      walk_at "go"
      refine isiR T hx2 (y := "Section") (by decide) ?_
      walk_at "go"
      cases hx2 with
      | @sect a2 t2 xs2 rs2 w2 wv2 hi2 ht' hrs2 hw2 =>
        obtain ⟨dx2, hi2⟩ := id hi2
        show if true = true then _ else _
        walk_at "go"
        refine ⟨a2, _, dx2, _, _, rfl, hi2, T.cl_Section, T.n_Section_rows, rfl, ?_⟩
        walk_at "go"
        refine ⟨t2, l, ar, xs2, ys ++ zs ++ [.ref t], rs2, rfl, ht', hrs2, ?_, h2, ?_, fun H3 zs3 e3 h3 l3 => ?_⟩
        · rw [Rw.dep] at hdr
          omega
        · rw [Rw.cnt] at hc1
          rw [List.length_append, lyz, List.length_singleton]
          omega
        · have hx3 := RO.si (e3.si h2) (.sect (rs := rs2) ⟨dx2, hi2⟩ ht' hrs2 hw2)
          walk_at "go"
          refine isiR T hx3 (y := "Rounds") (by decide) ?_
          walk_at "go"
          show if false = true then _ else _
          refine w_iteF ?_
          rw [elen] at l3
          exact ⟨_, _, rfl, fin H3 zs3 _ e3 h3 l3 (by rw [Rw.flat])⟩
      | @rounds a2 t2 c2 xs2 rs2 w2 wv2 hi2 ht' hrs2 hw2 =>
        show if false = true then _ else _
        refine w_iteF ?_
        have hx3 : RO K H2 (.ref a2) (.rounds c2 rs2 w2) := .rounds hi2 ht' hrs2 hw2
        obtain ⟨dx2, hi2⟩ := id hi2
        walk_at "go"
        refine isiR T hx3 (y := "Rounds") (by decide) ?_
        walk_at "go"
        show if true = true then _ else _
        walk_at "go"
        refine ⟨a2, _, dx2, _, _, rfl, hi2, T.cl_Rounds, T.n_Rounds_rows, rfl, ?_⟩
        walk_at "go"
        refine ⟨t2, l, some (ys ++ zs).length, xs2, ys ++ zs ++ [.ref t], rs2, rfl, ht', hrs2, ?_, h2, ?_, fun H3 zs3 e3 h3 l3 => ?_⟩
        · rw [Rw.dep] at hdr
          omega
        · rw [Rw.cnt] at hc1
          rw [List.length_append, lyz, List.length_singleton]
          omega
        · walk_at "go"
          rw [elen, lyz] at l3
          exact ⟨_, _, rfl, fin H3 zs3 _ e3 h3 l3 (by rw [Rw.flat])⟩
      | one h1' h2' h3' =>
        show if false = true then _ else _
        refine w_iteF ?_
        walk_at "go"
        refine isiR T (.one h1' h2' h3') (y := "Rounds") (by decide) ?_
        walk_at "go"
        show if false = true then _ else _
        refine w_iteF ?_
        exact ⟨_, _, rfl, fin _ [] [] (fun _ _ _ h => h) (by rw [h2, List.append_nil]) .nil (by rw [Rw.flat])⟩
      | some h1' h2' h3' =>
        show if false = true then _ else _
        refine w_iteF ?_
        walk_at "go"
        refine isiR T (.some h1' h2' h3') (y := "Rounds") (by decide) ?_
        walk_at "go"
        show if false = true then _ else _
        refine w_iteF ?_
        exact ⟨_, _, rfl, fin _ [] [] (fun _ _ _ h => h) (by rw [h2, List.append_nil]) .nil (by rw [Rw.flat])⟩
      | number h1' h2' =>
        show if false = true then _ else _
        refine w_iteF ?_
        walk_at "go"
        refine isiR T (.number h1' h2') (y := "Rounds") (by decide) ?_
        walk_at "go"
        show if false = true then _ else _
        refine w_iteF ?_
        exact ⟨_, _, rfl, fin _ [] [] (fun _ _ _ h => h) (by rw [h2, List.append_nil]) .nil (by rw [Rw.flat])⟩
      | check h1' h2' h3' =>
        show if false = true then _ else _
        refine w_iteF ?_
        walk_at "go"
        refine isiR T (.check h1' h2' h3') (y := "Rounds") (by decide) ?_
        walk_at "go"
        show if false = true then _ else _
        refine w_iteF ?_
        exact ⟨_, _, rfl, fin _ [] [] (fun _ _ _ h => h) (by rw [h2, List.append_nil]) .nil (by rw [Rw.flat])⟩
    · rintro σ H1 ⟨v, v', rfl, e1, zs, h1, hzs⟩
      rw [hx.length, List.take_length] at hzs
      exact q H1 zs e1 h1 hzs
end
end K3
end P7_part
section P8_part
set_option Elab.async false
set_option linter.all false
set_option maxRecDepth 100000
set_option maxHeartbeats 1000000
set_option pp.deepTerms.threshold 5
open PySem PySem.Spec PyProof.Rows L2
/-- go on as far as nothing is open -/
local macro_rules | `(tactic| walk_at "go") => `(tactic| repeat (first
  | with_reducible refine w_seq ?_ | with_reducible refine w_next ?_ | with_reducible refine w_set ?_ | with_reducible refine w_drop ?_ | with_reducible refine w_ret ?_ | with_reducible refine w_retN ?_
  | with_reducible refine w_if ?_ | ((with_reducible refine' w_var ?hv ?_); (case hv => exact rfl)) | with_reducible refine w_c ?_ | with_reducible refine w_nil ?_ | with_reducible refine w_cons ?_ | with_reducible refine w_op ?_ | with_reducible refine w_un ?_
  | with_reducible refine w_test ?_ | with_reducible refine w_tB ?_ | with_reducible refine w_not ?_ | with_reducible refine w_and ?_ | with_reducible refine w_or ?_ | with_reducible refine w_bl ?_
  | with_reducible refine w_andV ?_ | with_reducible refine w_orV ?_ | with_reducible refine w_notV ?_ | with_reducible refine w_ifE ?_ | with_reducible refine w_chain ?_ | with_reducible refine w_i0 ?_
  | with_reducible refine w_call ?_ | with_reducible refine w_callS ?_ | with_reducible refine w_cB ?_ | with_reducible refine w_tup ?_ | with_reducible refine w_lst ?_ | with_reducible refine w_fldV ?_
  | with_reducible refine w_neF ?_ | with_reducible refine w_neT ?_ | with_reducible refine w_notN ?_ | with_reducible refine w_isN ?_ | with_reducible refine w_gname ?_ | with_reducible refine w_gsub ?_ | with_reducible refine w_asg ?_ | with_reducible refine w_yes ?_ | with_reducible refine w_nT ?_ | with_reducible refine w_nF ?_ | with_reducible refine w_iteT ?_ | with_reducible refine w_iteF ?_))
namespace K3
def Rw.name : Rw → Str
  | .one n _ _ => n | .some n _ _ => n | .number n _ _ _ => n | .check n _ _ => n | .sect _ _ => "" | .rounds n _ _ => n
/-- the named rows ahead -/
abbrev AL := List (Str × Rw × Option Nat)
def look (L : AL) (z : Str) : Option (Rw × Option Nat) := (L.find? fun e => decide (e.1 = z)).map (·.2)
def quest (L : AL) (z : Str) (ar : Option Nat) : Sum Flt Rw := match look L z with
  | none => .inl (.quest z)
  | some (r, a) => if r.isQ then (if a ≠ none ∧ a ≠ ar then .inl (.quest z) else .inr r) else .inl (.quest z)
def suitsB : Cd → Rw → Bool
  | .is _ o, .one _ os _ => decide (o ∈ os)
  | .is _ _, _ => false
  | .has _ o, .some _ os _ => decide (o ∈ os)
  | .has _ _, _ => false
  | _, .number _ _ _ _ => true
  | _, _ => false
def Cd.name : Cd → Str
  | .is n _ => n | .has n _ => n | .over n _ => n | .under n _ => n | _ => ""
/-- an entry of ahead -/
def EA (K : PySem.W.Frag) (H : Hp) (kv : Key × V) (e : Str × Rw × Option Nat) : Prop := kv.1 = Sum.inr e.1 ∧ ∃ t u, kv.2 = .ref t ∧ H t = some (.tup [u, oV e.2.2]) ∧ RO K H u e.2.1
def AHd (K : PySem.W.Frag) (H : Hp) (d : Addr) (L : AL) : Prop := ∃ kvs, H d = some (.dK kvs) ∧ Paired (EA K H) kvs L
theorem EA.si {K : PySem.W.Frag} {H H' : Hp} (s : SI H H') {kv : Key × V} {e : Str × Rw × Option Nat} (h : EA K H kv e) : EA K H' kv e := let ⟨h1, t, u, h2, h3, h4⟩ := h; ⟨h1, t, u, h2, s _ _ rfl h3, RO.si s h4⟩
theorem AHd.same {K : PySem.W.Frag} {H H' : Hp} (e : Same H H') {d : Addr} {L : AL} (h : AHd K H d L) : AHd K H' d L := let ⟨kvs, h1, h2⟩ := h; ⟨kvs, e _ _ h1, L2.Paired.mapP h2 fun _ _ q => q.si e.si⟩
theorem look_ea {K : PySem.W.Frag} {H : Hp} (z : Str) : ∀ {kvs : List (Key × V)} {L : AL}, Paired (EA K H) kvs L → (valV kvs (Sum.inr z) = none ∧ look L z = none) ∨ ∃ t u r a, valV kvs (Sum.inr z) = some (.ref t) ∧ look L z = some (r, a) ∧ H t = some (.tup [u, oV a]) ∧ RO K H u r
  | _, _, .nil => .inl ⟨rfl, rfl⟩
  | _, _, .cons (a := kv) (b := e) h t => by
    obtain ⟨h1, x, u, h2, h3, h4⟩ := h
    by_cases c : e.1 = z
    · refine .inr ⟨x, u, e.2.1, e.2.2, ?_, ?_, h3, h4⟩
      · rw [valV_pos (p := kv) (by rw [h1, c]), h2]
      · unfold look
        rw [List.find?_cons, decide_eq_true c] <;> rfl
    · have ih := look_ea z t
      have e1 : ¬ kv.1 = Sum.inr z := by rw [h1]; exact fun q => c (Sum.inr.inj q)
      rw [valV_neg e1]
      have e2 : ∀ l : AL, look (e :: l) z = look l z := fun l => by
        unfold look
        rw [List.find?_cons, decide_eq_false c]
      rw [e2]
      exact ih
def EndQ (K : PySem.W.Frag) (s : Sum Flt Rw) (H : Hp) (Q : VK) (E : XK) : Prop := match s with
  | .inl f => ∀ cls dd H', Same H H' → IsF K f cls dd H' → E cls dd H'
  | .inr r => ∀ v H', Same H H' → RO K H' v r → Q v H'
def spQA (K : PySem.W.Frag) : Sp := fun vs H Q E => ∃ (z : Str) (ar : Option Nat) (d : Addr) (L : AL), vs = [.str z, oV ar, .ref d] ∧ AHd K H d L ∧ EndQ K (quest L z ar) H Q E
theorem quest_none {L : AL} {z : Str} {ar : Option Nat} (h : look L z = none) : quest L z ar = .inl (.quest z) := by unfold quest; rw [h]
theorem quest_no {L : AL} {z : Str} {ar a : Option Nat} {r : Rw} (h : look L z = some (r, a)) (hq : r.isQ = false) : quest L z ar = .inl (.quest z) := by
  unfold quest; rw [h]
  show (if r.isQ = true then _ else _) = _
  rw [hq] <;> rfl
theorem quest_far {L : AL} {z : Str} {ar a : Option Nat} {r : Rw} (h : look L z = some (r, a)) (hq : r.isQ = true) (c : a ≠ none ∧ a ≠ ar) : quest L z ar = .inl (.quest z) := by
  unfold quest; rw [h]
  show (if r.isQ = true then (if a ≠ none ∧ a ≠ ar then _ else _) else _) = _
  rw [if_pos hq, if_pos c]
theorem quest_ok {L : AL} {z : Str} {ar a : Option Nat} {r : Rw} (h : look L z = some (r, a)) (hq : r.isQ = true) (c : ¬ (a ≠ none ∧ a ≠ ar)) : quest L z ar = .inr r := by
  unfold quest; rw [h]
  show (if r.isQ = true then (if a ≠ none ∧ a ≠ ar then _ else _) else _) = _
  rw [if_pos hq, if_neg c]
def spSuits (K : PySem.W.Frag) : Sp := fun vs H Q _ => ∃ (v u : V) (c : Cd) (r : Rw), vs = [v, u] ∧ CO K H v c ∧ RO K H u r ∧ ∀ H', Same H H' → Q (.bl (suitsB c r)) H'
theorem inV_strs {o : Str} {os : List Str} : inV (.str o) (os.map V.str) = decide (o ∈ os) := by
  unfold inV
  rw [List.any_map]
  induction os with
  | nil => simp
  | cons a r ih =>
    rw [List.any_cons, ih]
    show ((a == o) || _) = _
    by_cases h : a = o
    · subst h
      simp
    · rw [beq_eq_false_iff_ne.mpr h, Bool.false_or]
      by_cases h2 : o ∈ r
      · simp [h2]
      · simp [h2, Ne.symm h]
theorem flat_strs (os : List Str) : (os.map V.str).all flatV = true := by
  rw [List.all_map, List.all_eq_true]
  intro x _
  rfl
theorem oV_eq {a b : Option Nat} : decide (oV a = oV b) = decide (a = b) := by
  cases a <;> cases b <;> simp [oV]
  omega
theorem oV_scal (a b : Option Nat) : scal (oV a) (oV b) = true := by cases a <;> cases b <;> rfl
section
variable {P : Program} {w : World} {K : PySem.W.Frag} {mg : Str → Option Value} {base : Heap}
theorem ro_name (T : Tx K mg) {H : Hp} {v : V} {r : Rw} (h : RO K H v r) (hn : r.isN = true) : ∃ a dx fs, v = .ref a ∧ H a = some (.ins (He.ga K r.nm) dx fs) ∧ Cls K (He.ga K r.nm) ∧ NoAttr K (He.ga K r.nm) "name" ∧ fs.lookup ("name" : Str) = some (.str r.name) := by
  cases h with
  | one h _ w => obtain ⟨dx, h⟩ := h; exact ⟨_, dx, _, rfl, h, T.cl_One, T.n_One_name, rfl⟩
  | some h _ w => obtain ⟨dx, h⟩ := h; exact ⟨_, dx, _, rfl, h, T.cl_Some, T.n_Some_name, rfl⟩
  | number h w => obtain ⟨dx, h⟩ := h; exact ⟨_, dx, _, rfl, h, T.cl_Number, T.n_Number_name, rfl⟩
  | check h _ w => obtain ⟨dx, h⟩ := h; exact ⟨_, dx, _, rfl, h, T.cl_Check, T.n_Check_name, rfl⟩
  | sect h _ _ w => cases hn
  | rounds h _ _ w => cases hn
theorem sc_question_ahead : FnScope ["name", "around", "ahead", "question", "rounds"] ["name", "around", "ahead"] (defScope s_question_ahead) := ⟨rfl, rfl, rfl, by decide +kernel, rfl, by decide +kernel, by decide +kernel⟩
theorem ok_question_ahead (T : Tx K mg) : Ok P w K mg base 3 (He.ga K "question_ahead") ["name", "around", "ahead"] (spQA K) := by
  obtain ⟨fd, F⟩ := T.f_question_ahead
  refine ⟨fd, F.ok sc_question_ahead (fun vs H Q E h => ?_) (fun cdv A outer s H vs Q E hr h => ?_), F.bindsN fun _ _ _ _ _ _ us hl => match us, hl with | [_, _, _], _ => rfl, F.kp⟩
  · obtain ⟨z, ar, d, L, rfl, _⟩ := h
    rfl
  obtain ⟨z, ar, d, L, rfl, hL, q⟩ := h
  have err := fun {D : Ends} {σ : L2.St} {H1 : Hp} => @gErr1_of K "NoQuestion" "name" (.str z) H1
  refine ⟨_, pss_cons (ps_if (pt_cmp (pc_dnotin (hu_of hr) (pv 0) (pv 2))) (pss_one (ps_err1 (T.err (x := "NoQuestion") (by decide)) T.m_NoQuestion_init (ok_NoQuestion T) hr T.g_NoQuestion (takes_of rfl rfl rfl rfl) (pv 0))) pss_nil)
    (pss_cons (ps_asg (pe_dget (hu_of hr) (pv 2) (pv 0) (fun _ _ => rfl)) (pg_tup rfl (pgs_cons (pg_name (i := 3) sc_question_ahead.nd rfl (Or.inl rfl)) (pgs_cons (pg_name (i := 4) sc_question_ahead.nd rfl (Or.inl rfl)) pgs_nil))))
    (pss_cons (ps_if (pt_not (pt_val (pe_f (ok_is_question T) (hr.mono (by decide)) T.g_is_question (pa_cons (pv 3) pa_nil)))) (pss_one (ps_err1 (T.err (x := "NoQuestion") (by decide)) T.m_NoQuestion_init (ok_NoQuestion T) hr T.g_NoQuestion (takes_of rfl rfl rfl rfl) (pv 0))) pss_nil)
    (pss_cons (ps_if (pw_and (pt_cmp (pc_notN (pv 4))) (pw_and1 (pt_cmpR op_ne (pv 4) (pv 1) (nomark _)))).pt (pss_one (ps_err1 (T.err (x := "NoQuestion") (by decide)) T.m_NoQuestion_init (ok_NoQuestion T) hr T.g_NoQuestion (takes_of rfl rfl rfl rfl) (pv 0))) pss_nil)
    (pss_one (ps_ret (pv 3)))))), ?_⟩
  obtain ⟨kvs, hd, hp⟩ := hL
  walk_at "go"
  refine ⟨_, rfl, _, rfl, d, _, rfl, DGet.k (k := Sum.inr z) hd, ?_⟩
  walk_at "go"
  rcases look_ea z hp with ⟨h1, h2⟩ | ⟨t, u, r, a, h1, h2, h3, h4⟩
  · rw [h1]
    rw [quest_none h2] at q
    walk_at "go"
    show if true = true then _ else _
    walk_at "go"
    refine w_err1 ?_
    walk_at "go"
    exact gErr1_of fun dd H2 e2 h2 => q _ _ H2 e2 ⟨rfl, dd, rfl, h2⟩
  · rw [h1]
    walk_at "go"
    show if false = true then _ else _
    walk_at "go"
    refine ⟨_, rfl, _, rfl, d, _, rfl, by rw [← h1]; exact DGet.k (k := Sum.inr z) hd, ?_⟩
    refine ⟨t, _, rfl, SqT.of h3, rfl, _, _, rfl, ?_⟩
    walk_at "go"
    refine ⟨_, _, rfl, ?_⟩
    walk_at "go"
    refine ⟨rfl, ?_⟩
    walk_at "go"
    refine ⟨u, r, rfl, h4, fun H1 e1 => ?_⟩
    cases hq : r.isQ with
    | false =>
      rw [quest_no h2 hq] at q
      walk_at "go"
      refine w_err1 ?_
      walk_at "go"
      exact gErr1_of fun dd H2 e2 h2 => q _ _ H2 (e1.trans e2) ⟨rfl, dd, rfl, h2⟩
    | true =>
      walk_at "go"
      have ne1 : decide (oV a = V.non) = decide (a = none) := oV_eq (b := none)
      by_cases c1 : a = none
      · rw [quest_ok h2 hq (fun z => z.1 c1)] at q
        rw [ne1, decide_eq_true c1]
        walk_at "go"
        exact q u H1 e1 (h4.same e1)
      · rw [ne1, decide_eq_false c1]
        walk_at "go"
        refine ⟨oV_scal _ _, ?_⟩
        walk_at "go"
        rw [oV_eq]
        by_cases c2 : a = ar
        · rw [quest_ok h2 hq (fun z => z.2 c2)] at q
          rw [decide_eq_true c2]
          walk_at "go"
          exact q u H1 e1 (h4.same e1)
        · rw [quest_far h2 hq ⟨c1, c2⟩] at q
          rw [decide_eq_false c2]
          walk_at "go"
          refine w_err1 ?_
          walk_at "go"
          exact gErr1_of fun dd H2 e2 h2 => q _ _ H2 (e1.trans e2) ⟨rfl, dd, rfl, h2⟩
theorem sc_suits : FnScope ["condition", "question"] ["condition", "question"] (defScope s_suits) := ⟨rfl, rfl, rfl, by decide +kernel, rfl, by decide +kernel, by decide +kernel⟩
theorem ok_suits (T : Tx K mg) : Ok P w K mg base 1 (He.ga K "suits") ["condition", "question"] (spSuits K) := by
  obtain ⟨fd, F⟩ := T.f_suits
  refine ⟨fd, F.ok sc_suits (fun vs H Q E h => ?_) (fun cdv A outer s H vs Q E hr h => ?_), F.bindsN fun _ _ _ _ _ _ us hl => match us, hl with | [_, _], _ => rfl, F.kp⟩
  · obtain ⟨v, u, c, r, rfl, _⟩ := h
    rfl
  obtain ⟨v, u, c, r, rfl, hc, hu, q⟩ := h
  refine ⟨_, pss_cons (ps_if (pt_val (pe_callB call_isi (by rfl) T.z_isinstance (by decide +kernel) (pa_cons (pv 0) (pa_cons (pe_gref T.g_Is) pa_nil))))
      (pss_one (ps_ret (pe_and (pe_callB call_isi (by rfl) T.z_isinstance (by decide +kernel) (pa_cons (pv 1) (pa_cons (pe_gref T.g_One) pa_nil))) (pe_one (pe_cmpR op_in_seq (pe_fld (pv 0) rfl) (pe_fld (pv 1) rfl) rfl))))) pss_nil)
    (pss_cons (ps_if (pt_val (pe_callB call_isi (by rfl) T.z_isinstance (by decide +kernel) (pa_cons (pv 0) (pa_cons (pe_gref T.g_Has) pa_nil))))
      (pss_one (ps_ret (pe_and (pe_callB call_isi (by rfl) T.z_isinstance (by decide +kernel) (pa_cons (pv 1) (pa_cons (pe_gref T.g_Some) pa_nil))) (pe_one (pe_cmpR op_in_seq (pe_fld (pv 0) rfl) (pe_fld (pv 1) rfl) rfl))))) pss_nil)
    (pss_one (ps_ret (pe_callB call_isi (by rfl) T.z_isinstance (by decide +kernel) (pa_cons (pv 1) (pa_cons (pe_gref T.g_Number) pa_nil)))))), ?_⟩
  walk_at "go"
  refine isiC T hc (y := "Is") (by decide) ?_
  walk_at "go"
  cases hc with
  | @is a n o h =>
    show if true = true then _ else _
    walk_at "go"
    refine isiR T hu (y := "One") (by decide) ?_
    walk_at "go"
    cases hu with
    | @one b t n2 os w2 wv h2 ht hw =>
      show if true = true then _ else _
      walk_at "go"
      obtain ⟨dx, h⟩ := h
      obtain ⟨dx2, h2⟩ := h2
      refine ⟨a, _, dx, _, _, rfl, h, T.cl_Is, T.n_Is_option, rfl, ?_⟩
      walk_at "go"
      refine ⟨b, _, dx2, _, _, rfl, h2, T.cl_One, T.n_One_options, rfl, ?_⟩
      walk_at "go"
      refine ⟨t, _, rfl, .inr ht, rfl, flat_strs _, ?_⟩
      have := q H (Same.refl _)
      show Q (.bl (inV (.str o) (os.map V.str))) H
      rw [inV_strs]
      exact this
    | _ =>
      show if false = true then _ else _
      refine w_iteF ?_
      exact q H (Same.refl _)
  | @has a n o h =>
    show if false = true then _ else _
    refine w_iteF ?_
    walk_at "go"
    refine isiC T (.has h) (y := "Has") (by decide) ?_
    walk_at "go"
    show if true = true then _ else _
    walk_at "go"
    refine isiR T hu (y := "Some") (by decide) ?_
    walk_at "go"
    cases hu with
    | @some b t n2 os w2 wv h2 ht hw =>
      show if true = true then _ else _
      walk_at "go"
      obtain ⟨dx, h⟩ := h
      obtain ⟨dx2, h2⟩ := h2
      refine ⟨a, _, dx, _, _, rfl, h, T.cl_Has, T.n_Has_option, rfl, ?_⟩
      walk_at "go"
      refine ⟨b, _, dx2, _, _, rfl, h2, T.cl_Some, T.n_Some_options, rfl, ?_⟩
      walk_at "go"
      refine ⟨t, _, rfl, .inr ht, rfl, flat_strs _, ?_⟩
      have := q H (Same.refl _)
      show Q (.bl (inV (.str o) (os.map V.str))) H
      rw [inV_strs]
      exact this
    | _ =>
      show if false = true then _ else _
      refine w_iteF ?_
      exact q H (Same.refl _)
  | over h =>
    show if false = true then _ else _
    refine w_iteF ?_
    walk_at "go"
    refine isiC T (.over h) (y := "Has") (by decide) ?_
    walk_at "go"
    show if false = true then _ else _
    refine w_iteF ?_
    walk_at "go"
    refine isiR T hu (y := "Number") (by decide) ?_
    cases r <;> exact q H (Same.refl _)
  | under h =>
    show if false = true then _ else _
    refine w_iteF ?_
    walk_at "go"
    refine isiC T (.under h) (y := "Has") (by decide) ?_
    walk_at "go"
    show if false = true then _ else _
    refine w_iteF ?_
    walk_at "go"
    refine isiR T hu (y := "Number") (by decide) ?_
    cases r <;> exact q H (Same.refl _)
  | no h h2 =>
    show if false = true then _ else _
    refine w_iteF ?_
    walk_at "go"
    refine isiC T (.no h h2) (y := "Has") (by decide) ?_
    walk_at "go"
    show if false = true then _ else _
    refine w_iteF ?_
    walk_at "go"
    refine isiR T hu (y := "Number") (by decide) ?_
    cases r <;> exact q H (Same.refl _)
  | both h h2 h3 =>
    show if false = true then _ else _
    refine w_iteF ?_
    walk_at "go"
    refine isiC T (.both h h2 h3) (y := "Has") (by decide) ?_
    walk_at "go"
    show if false = true then _ else _
    refine w_iteF ?_
    walk_at "go"
    refine isiR T hu (y := "Number") (by decide) ?_
    cases r <;> exact q H (Same.refl _)
  | either h h2 h3 =>
    show if false = true then _ else _
    refine w_iteF ?_
    walk_at "go"
    refine isiC T (.either h h2 h3) (y := "Has") (by decide) ?_
    walk_at "go"
    show if false = true then _ else _
    refine w_iteF ?_
    walk_at "go"
    refine isiR T hu (y := "Number") (by decide) ?_
    cases r <;> exact q H (Same.refl _)
end
end K3
end P8_part
section P9_part
set_option Elab.async false
set_option linter.all false
set_option maxRecDepth 100000
set_option maxHeartbeats 1000000
set_option pp.deepTerms.threshold 5
open PySem PySem.Spec PyProof.Rows L2
/-- go on as far as nothing is open -/
local macro_rules | `(tactic| walk_at "go") => `(tactic| repeat (first
  | with_reducible refine w_seq ?_ | with_reducible refine w_next ?_ | with_reducible refine w_set ?_ | with_reducible refine w_drop ?_ | with_reducible refine w_ret ?_ | with_reducible refine w_retN ?_
  | with_reducible refine w_if ?_ | ((with_reducible refine' w_var ?hv ?_); (case hv => exact rfl)) | with_reducible refine w_c ?_ | with_reducible refine w_nil ?_ | with_reducible refine w_cons ?_ | with_reducible refine w_op ?_ | with_reducible refine w_un ?_
  | with_reducible refine w_test ?_ | with_reducible refine w_tB ?_ | with_reducible refine w_not ?_ | with_reducible refine w_and ?_ | with_reducible refine w_or ?_ | with_reducible refine w_bl ?_
  | with_reducible refine w_andV ?_ | with_reducible refine w_orV ?_ | with_reducible refine w_notV ?_ | with_reducible refine w_ifE ?_ | with_reducible refine w_chain ?_ | with_reducible refine w_i0 ?_
  | with_reducible refine w_call ?_ | with_reducible refine w_callS ?_ | with_reducible refine w_cB ?_ | with_reducible refine w_tup ?_ | with_reducible refine w_lst ?_ | with_reducible refine w_fldV ?_
  | with_reducible refine w_neF ?_ | with_reducible refine w_neT ?_ | with_reducible refine w_notN ?_ | with_reducible refine w_isN ?_ | with_reducible refine w_gname ?_ | with_reducible refine w_gsub ?_ | with_reducible refine w_asg ?_ | with_reducible refine w_yes ?_ | with_reducible refine w_nT ?_ | with_reducible refine w_nF ?_ | with_reducible refine w_iteT ?_ | with_reducible refine w_iteF ?_))
namespace K3
def thenF : Option Flt → Option Flt → Option Flt
  | some f, _ => some f
  | none, g => g
theorem End_seq {K : PySem.W.Frag} {a b : Option Flt} {H : Hp} {Q Q' : VK} {E : XK} (q : End K (thenF a b) H Q E) (k : ∀ H', Same H H' → End K b H' Q E → Q' .non H') : End K a H Q' E := by
  cases a with
  | some f => exact q
  | none => exact fun H' e => k H' e (q.mono e)
theorem thenF_none (a : Option Flt) : thenF a none = a := by cases a <;> rfl
def namesF : List Str → Option Flt
  | [] => none
  | z :: r => thenF (nameF z) (namesF r)
def optF (os : List Str) (most : Nat) : Option Flt := if 1 ≤ os.length ∧ os.length ≤ most then thenF (namesF os) (dupF os) else some (.count "options" os.length)
def ckName (L : AL) (r : Rw) : Option Flt := if r.isN then thenF (nameF r.name) (if (look L r.name).isSome then some (.twice r.name) else none) else none
def ckOpt : Rw → Option Flt
  | .one _ os _ => optF os 6
  | .some _ os _ => optF os 4
  | _ => none
def ckBound : Rw → Option Flt
  | .number _ lo hi _ => if hi < lo then some (.count "bounds" hi) else none
  | _ => none
def ckInner (r : Rw) (ar : Option Nat) : Option Flt := match r with
  | .sect rs _ => if rs.length = 0 then some (.count "rows" 0) else none
  | .rounds _ rs _ => if rs.length = 0 then some (.count "rows" 0) else if ar = none then none else some (.count "rounds" 2)
  | _ => none
def fitN (q : Rw) : Option Flt := match q with
  | .number n lo hi _ => if lo < 0 then some (.fit n) else if 4 < hi then some (.fit n) else none
  | q => some (.fit q.name)
def ckCount (L : AL) (r : Rw) (ar : Option Nat) : Option Flt := match r with
  | .rounds n _ _ => (match quest L n ar with
    | .inl f => some f
    | .inr q => fitN q)
  | _ => none
def ckCond (L : AL) (ar : Option Nat) (c : Cd) : Option Flt := match quest L c.name ar with
  | .inl f => some f
  | .inr q => if suitsB c q then none else some (.fit q.name)
def ckConds (L : AL) (ar : Option Nat) : List Cd → Option Flt
  | [] => none
  | c :: r => thenF (ckCond L ar c) (ckConds L ar r)
def ckRow (L : AL) (r : Rw) (ar : Option Nat) : Option Flt := thenF (ckName L r) (thenF (ckOpt r) (thenF (ckBound r) (thenF (ckInner r ar) (thenF (ckCount L r ar) (ckConds L ar r.conds)))))
def Rw.opts : Rw → List Str
  | .one _ os _ => os | .some _ os _ => os | _ => []
structure RwB (n : Nat) (r : Rw) : Prop where
  cd : r.cdep < n
  c1 : (owh r.wh).length ≤ 1000
  c2 : r.mu.length ≤ 1000
  nm : r.name.length ≤ 1000
  ol : r.opts.length ≤ 1000
  os : ∀ o ∈ r.opts, o.length ≤ 1000
def Cd.isS : Cd → Bool
  | .no _ => false | .both _ _ => false | .either _ _ => false | _ => true
theorem simp_isS : ∀ (c : Cd), ∀ d ∈ c.simp, d.isS = true
  | .no c, d, h => simp_isS c d h
  | .both a b, d, h => by
    rcases List.mem_append.mp (show d ∈ a.simp ++ b.simp from h) with h | h
    · exact simp_isS a d h
    · exact simp_isS b d h
  | .either a b, d, h => by
    rcases List.mem_append.mp (show d ∈ a.simp ++ b.simp from h) with h | h
    · exact simp_isS a d h
    · exact simp_isS b d h
  | .is n o, d, h => by rw [List.mem_singleton.mp (show d ∈ [Cd.is n o] from h)] <;> rfl
  | .has n o, d, h => by rw [List.mem_singleton.mp (show d ∈ [Cd.has n o] from h)] <;> rfl
  | .over n o, d, h => by rw [List.mem_singleton.mp (show d ∈ [Cd.over n o] from h)] <;> rfl
  | .under n o, d, h => by rw [List.mem_singleton.mp (show d ∈ [Cd.under n o] from h)] <;> rfl
theorem conds_isS (r : Rw) : ∀ d ∈ r.conds, d.isS = true := fun d h => by
  rcases List.mem_append.mp (show d ∈ owh r.wh ++ r.mu from h) with h | h
  · cases e : r.wh with
    | none => rw [e] at h; cases h
    | some c => rw [e] at h; exact simp_isS c d h
  · cases r with
    | check n m w => exact simp_isS m d h
    | _ => cases h
/-- a def that checks: vs, and what it refuses -/
def spCk (K : PySem.W.Frag) (n : Nat) (f : Rw → Option Flt) : Sp := fun vs H Q E => ∃ (v : V) (r : Rw), vs = [v] ∧ RO K H v r ∧ RwB n r ∧ End K (f r) H Q E
def spCkL (K : PySem.W.Frag) (n : Nat) (f : AL → Rw → Option Flt) : Sp := fun vs H Q E => ∃ (v : V) (r : Rw) (d : Addr) (L : AL), vs = [v, .ref d] ∧ RO K H v r ∧ RwB n r ∧ AHd K H d L ∧ End K (f L r) H Q E
def spCkA (K : PySem.W.Frag) (n : Nat) (f : Rw → Option Nat → Option Flt) : Sp := fun vs H Q E => ∃ (v : V) (r : Rw) (ar : Option Nat), vs = [v, oV ar] ∧ RO K H v r ∧ RwB n r ∧ End K (f r ar) H Q E
def spCkLA (K : PySem.W.Frag) (n : Nat) (f : AL → Rw → Option Nat → Option Flt) : Sp := fun vs H Q E => ∃ (v : V) (r : Rw) (ar : Option Nat) (d : Addr) (L : AL), vs = [v, oV ar, .ref d] ∧ RO K H v r ∧ RwB n r ∧ AHd K H d L ∧ End K (f L r ar) H Q E
def spOpt (K : PySem.W.Frag) : Sp := fun vs H Q E => ∃ (a : Addr) (os : List Str) (most : Nat), vs = [.ref a, .int (most : Int)] ∧ SqT K H a (os.map V.str) ∧ os.length ≤ 1000 ∧ (∀ o ∈ os, o.length ≤ 1000) ∧ End K (optF os most) H Q E
theorem namesF_take {os : List Str} : ∀ {i : Nat} {z : Str}, os[i]? = some z → namesF (os.take i) = none → (nameF z = none → namesF (os.take (i + 1)) = none) ∧ (∀ f, nameF z = some f → namesF os = some f) := by
  induction os with
  | nil => intro i z h; simp at h
  | cons a r ih =>
    intro i z h hn
    cases i with
    | zero =>
      have e : a = z := by simpa using h
      subst e
      refine ⟨fun h => ?_, fun f h => ?_⟩
      · show thenF (nameF a) none = none
        rw [h] <;> rfl
      · show thenF (nameF a) _ = _
        rw [h] <;> rfl
    | succ i =>
      have hn' : thenF (nameF a) (namesF (r.take i)) = none := hn
      cases ha : nameF a with
      | some f => rw [ha] at hn'; cases hn'
      | none =>
        rw [ha] at hn'
        have q := ih (i := i) (z := z) (by simpa using h) hn'
        refine ⟨fun h => ?_, fun f h => ?_⟩
        · show thenF (nameF a) (namesF (r.take (i + 1))) = none
          rw [ha]
          exact q.1 h
        · show thenF (nameF a) (namesF r) = some f
          rw [ha]
          exact q.2 f h
theorem map_get {os : List Str} {i : Nat} {x : V} (hi : (os.map V.str)[i]? = some x) : ∃ z, os[i]? = some z ∧ x = V.str z := by
  rw [List.getElem?_map] at hi
  cases e : os[i]? with
  | none => rw [e] at hi; cases hi
  | some z => rw [e] at hi; exact ⟨z, rfl, (Option.some.inj hi).symm⟩
section
variable {P : Program} {w : World} {K : PySem.W.Frag} {mg : Str → Option Value} {base : Heap}
theorem sc_refuse_options : FnScope ["options", "most", "option"] ["options", "most"] (defScope s_refuse_options) := ⟨rfl, rfl, rfl, by decide +kernel, rfl, by decide +kernel, by decide +kernel⟩
theorem ok_refuse_options (T : Tx K mg) : Ok P w K mg base 4 (He.ga K "refuse_options") ["options", "most"] (spOpt K) := by
  obtain ⟨fd, F⟩ := T.f_refuse_options
  refine ⟨fd, F.ok sc_refuse_options (fun vs H Q E h => ?_) (fun cdv A outer s H vs Q E hr h => ?_), F.bindsN fun _ _ _ _ _ _ us hl => match us, hl with | [_, _], _ => rfl, F.kp⟩
  · obtain ⟨a, os, most, rfl, _⟩ := h
    rfl
  obtain ⟨a, os, most, rfl, ha, hz, ho, q⟩ := h
  refine ⟨_, pss_cons (ps_if (pt_not (pt_chain op_le op_le pe_int (pe_callB call_len_seq (by rfl) T.z_len PySem.boot_len (pa_cons (pv 0) pa_nil)) (pv 1))) (pss_one (ps_err2 (T.err (x := "BadCount") (by decide)) T.m_BadCount_init (ok_BadCount T) (hr.mono (by decide)) T.g_BadCount (takes_of rfl rfl rfl rfl) pe_str (pe_callB call_len_seq (by rfl) T.z_len PySem.boot_len (pa_cons (pv 0) pa_nil)))) pss_nil)
    (pss_cons (ps_for (passes_of rfl) rfl (pi_tup (pv 0)) (pg_name (i := 2) sc_refuse_options.nd rfl (Or.inl rfl)) (pss_one (ps_expr (pe_fE (takes_of rfl rfl rfl rfl) (ok_refuse_no_name T) (hr.mono (by decide)) T.g_refuse_no_name (pa_cons (pv 2) pa_nil)))))
    (pss_one (ps_expr (pe_fE (takes_of rfl rfl rfl rfl) (ok_refuse_twice T) (hr.mono (by decide)) T.g_refuse_twice (pa_cons (pv 0) pa_nil))))), ?_⟩
  have hlen : (os.map V.str).length = os.length := List.length_map _
  walk_at "go"
  refine ⟨a, _, rfl, .inr ha, ?_⟩
  walk_at "go"
  rw [hlen]
  have bad : ¬ (1 ≤ os.length ∧ os.length ≤ most) → gErr2 K "BadCount" "what" "count" (.str "options") (.int (os.length : Int)) H fun cls d H' => E cls d H' := fun c => by
    unfold optF at q
    rw [if_neg c] at q
    exact gErr2_of fun dd H2 e2 h2 => q _ _ H2 e2 ⟨rfl, dd, rfl, h2⟩
  have good : (1 ≤ os.length ∧ os.length ≤ most) → End K (thenF (namesF os) (dupF os)) H Q E := fun c => by
    unfold optF at q
    rw [if_pos c] at q
    exact q
  by_cases c1 : (1 : Int) ≤ (os.length : Int)
  · rw [decide_eq_true c1]
    walk_at "go"
    by_cases c2 : (os.length : Int) ≤ (most : Int)
    · rw [decide_eq_true c2]
      walk_at "go"
      have q := good ⟨by omega, by omega⟩
      refine ⟨_, rfl, a, rfl, ⟨_, ha⟩, ?_⟩
      refine for_tup (K := K) (a := a) (xs := os.map V.str) (fun (i : Nat) σ H' => ∃ v : Option V, σ = [some (.ref a), some (.int (most : Int)), v] ∧ Same H H' ∧ namesF (os.take i) = none) ⟨none, rfl, Same.refl _, rfl⟩ (fun i σ H' _ ⟨_, _, e, _⟩ => e.sqt ha) ?_ ?_
      · rintro i x σ H1 hi ⟨v, rfl, e1, hn⟩
        obtain ⟨z, hz1, rfl⟩ := map_get hi
        have nt := namesF_take hz1 hn
        walk_at "go"
        refine ⟨z, rfl, ho z (List.mem_of_getElem? hz1), ?_⟩
        cases hf : nameF z with
        | none => exact fun H2 e2 => ⟨some (.str z), rfl, e1.trans e2, nt.1 hf⟩
        | some f =>
          intro cls d H2 e2 h2
          have q' := q
          rw [nt.2 f hf] at q'
          exact q' cls d H2 (e1.trans e2) h2
      · rintro σ H1 ⟨v, rfl, e1, hn⟩
        rw [hlen, List.take_length] at hn
        rw [hn] at q
        walk_at "go"
        exact ⟨a, os, rfl, e1.sqt ha, hz, q.mono e1⟩
    · rw [decide_eq_false c2]
      walk_at "go"
      refine w_err2 ?_
      walk_at "go"
      refine ⟨a, _, rfl, .inr ha, ?_⟩
      rw [hlen]
      exact bad (by omega)
  · rw [decide_eq_false c1]
    walk_at "go"
    refine w_err2 ?_
    walk_at "go"
    refine ⟨a, _, rfl, .inr ha, ?_⟩
    rw [hlen]
    exact bad (by omega)
end
end K3
end P9_part
section P10_part
set_option Elab.async false
set_option linter.all false
set_option maxRecDepth 100000
set_option maxHeartbeats 1000000
set_option pp.deepTerms.threshold 5
open PySem PySem.Spec PyProof.Rows L2
/-- go on as far as nothing is open -/
local macro_rules | `(tactic| walk_at "go") => `(tactic| repeat (first
  | with_reducible refine w_seq ?_ | with_reducible refine w_next ?_ | with_reducible refine w_set ?_ | with_reducible refine w_drop ?_ | with_reducible refine w_ret ?_ | with_reducible refine w_retN ?_
  | with_reducible refine w_if ?_ | ((with_reducible refine' w_var ?hv ?_); (case hv => exact rfl)) | with_reducible refine w_c ?_ | with_reducible refine w_nil ?_ | with_reducible refine w_cons ?_ | with_reducible refine w_op ?_ | with_reducible refine w_un ?_
  | with_reducible refine w_test ?_ | with_reducible refine w_tB ?_ | with_reducible refine w_not ?_ | with_reducible refine w_and ?_ | with_reducible refine w_or ?_ | with_reducible refine w_bl ?_
  | with_reducible refine w_andV ?_ | with_reducible refine w_orV ?_ | with_reducible refine w_notV ?_ | with_reducible refine w_ifE ?_ | with_reducible refine w_chain ?_ | with_reducible refine w_i0 ?_
  | with_reducible refine w_call ?_ | with_reducible refine w_callS ?_ | with_reducible refine w_cB ?_ | with_reducible refine w_tup ?_ | with_reducible refine w_lst ?_ | with_reducible refine w_fldV ?_
  | with_reducible refine w_neF ?_ | with_reducible refine w_neT ?_ | with_reducible refine w_notN ?_ | with_reducible refine w_isN ?_ | with_reducible refine w_gname ?_ | with_reducible refine w_gsub ?_ | with_reducible refine w_asg ?_ | with_reducible refine w_yes ?_ | with_reducible refine w_nT ?_ | with_reducible refine w_nF ?_ | with_reducible refine w_iteT ?_ | with_reducible refine w_iteF ?_))
namespace K3
section
variable {P : Program} {w : World} {K : PySem.W.Frag} {mg : Str → Option Value} {base : Heap}
theorem sc_check_name : FnScope ["row", "ahead"] ["row", "ahead"] (defScope s_check_name) := ⟨rfl, rfl, rfl, by decide +kernel, rfl, by decide +kernel, by decide +kernel⟩
theorem ok_check_name (T : Tx K mg) (n : Nat) : Ok P w K mg base 4 (He.ga K "check_name") ["row", "ahead"] (spCkL K n ckName) := by
  obtain ⟨fd, F⟩ := T.f_check_name
  refine ⟨fd, F.ok sc_check_name (fun vs H Q E h => ?_) (fun cdv A outer s H vs Q E hr h => ?_), F.bindsN fun _ _ _ _ _ _ us hl => match us, hl with | [_, _], _ => rfl, F.kp⟩
  · obtain ⟨v, r, d, L, rfl, _⟩ := h
    rfl
  obtain ⟨v, r, d, L, rfl, hv, hB, hL, q⟩ := h
  refine ⟨_, pss_cons (ps_if (pt_not (pt_val (pe_f (ok_is_named T) (hr.mono (by decide)) T.g_is_named (pa_cons (pv 0) pa_nil)))) (pss_one ps_retN) pss_nil)
    (pss_cons (ps_expr (pe_fE (takes_of rfl rfl rfl rfl) (ok_refuse_no_name T) (hr.mono (by decide)) T.g_refuse_no_name (pa_cons (pe_fld (pv 0) rfl) pa_nil)))
    (pss_one (ps_if (pt_cmp (pc_din (hu_of hr) (pe_fld (pv 0) rfl) (pv 1))) (pss_one (ps_err1 (T.err (x := "Twice") (by decide)) T.m_Twice_init (ok_Twice T) (hr.mono (by decide)) T.g_Twice (takes_of rfl rfl rfl rfl) (pe_fld (pv 0) rfl))) pss_nil))), ?_⟩
  walk_at "go"
  refine ⟨v, r, rfl, hv, fun H1 e1 => ?_⟩
  have hL1 := hL.same e1
  have hv1 := hv.same e1
  have q1 := q.mono e1
  unfold ckName at q1
  cases hn : r.isN with
  | false =>
    rw [hn] at q1
    walk_at "go"
    exact q1 H1 (Same.refl _)
  | true =>
    rw [hn, if_pos rfl] at q1
    obtain ⟨a, dx, fs, rfl, hi, hcl, hna, hlk⟩ := ro_name T hv1 hn
    walk_at "go"
    refine ⟨a, _, dx, fs, _, rfl, hi, hcl, hna, hlk, ?_⟩
    walk_at "go"
    refine ⟨r.name, rfl, hB.nm, End_seq q1 fun H2 e2 q2 => ?_⟩
    walk_at "go"
    refine ⟨_, rfl, a, _, dx, fs, _, rfl, e2 _ _ hi, hcl, hna, hlk, ?_⟩
    obtain ⟨kvs, hd, hp⟩ := hL1.same e2
    refine ⟨_, rfl, d, _, rfl, DGet.k (k := Sum.inr r.name) hd, ?_⟩
    walk_at "go"
    rcases look_ea r.name hp with ⟨h1, h2⟩ | ⟨t, u, r', a', h1, h2, h3, h4⟩
    · rw [h1]
      rw [h2] at q2
      show if false = true then _ else _
      walk_at "go"
      exact q2 H2 (Same.refl _)
    · rw [h1]
      rw [h2] at q2
      show if true = true then _ else _
      walk_at "go"
      refine w_err1 ?_
      walk_at "go"
      refine ⟨a, _, dx, fs, _, rfl, e2 _ _ hi, hcl, hna, hlk, ?_⟩
      exact gErr1_of fun dd H3 e3 h5 => q2 _ _ H3 e3 ⟨rfl, dd, rfl, h5⟩
theorem sc_check_options : FnScope ["row"] ["row"] (defScope s_check_options) := ⟨rfl, rfl, rfl, by decide +kernel, rfl, by decide +kernel, by decide +kernel⟩
theorem ok_check_options (T : Tx K mg) (n : Nat) : Ok P w K mg base 5 (He.ga K "check_options") ["row"] (spCk K n ckOpt) := by
  obtain ⟨fd, F⟩ := T.f_check_options
  refine ⟨fd, F.ok sc_check_options (fun vs H Q E h => ?_) (fun cdv A outer s H vs Q E hr h => ?_), F.bindsN fun _ _ _ _ _ _ us hl => match us, hl with | [_], _ => rfl, F.kp⟩
  · obtain ⟨v, r, rfl, _⟩ := h
    rfl
  obtain ⟨v, r, rfl, hv, hB, q⟩ := h
  refine ⟨_, pss_cons (ps_if (pt_val (pe_callB call_isi (by rfl) T.z_isinstance (by decide +kernel) (pa_cons (pv 0) (pa_cons (pe_gref T.g_One) pa_nil)))) (pss_one (ps_expr (pe_fE (takes_of rfl rfl rfl rfl) (ok_refuse_options T) hr T.g_refuse_options (pa_cons (pe_fld (pv 0) rfl) (pa_cons (pe_gint T.i_MOST_OPTIONS_OF_ONE) pa_nil))))) pss_nil)
    (pss_one (ps_if (pt_val (pe_callB call_isi (by rfl) T.z_isinstance (by decide +kernel) (pa_cons (pv 0) (pa_cons (pe_gref T.g_Some) pa_nil)))) (pss_one (ps_expr (pe_fE (takes_of rfl rfl rfl rfl) (ok_refuse_options T) hr T.g_refuse_options (pa_cons (pe_fld (pv 0) rfl) (pa_cons (pe_gint T.i_MOST_OPTIONS_OF_SOME) pa_nil))))) pss_nil)), ?_⟩
  walk_at "go"
  refine isiR T hv (y := "One") (by decide) ?_
  walk_at "go"
  cases hv with
  | @one a t nn os w2 wv h ht hw =>
    show if true = true then _ else _
    walk_at "go"
    obtain ⟨dx, h⟩ := id h
    refine ⟨a, _, dx, _, _, rfl, h, T.cl_One, T.n_One_options, rfl, ?_⟩
    walk_at "go"
    refine ⟨t, os, 6, rfl, ht, hB.ol, hB.os, End_seq (b := none) (by rw [show thenF (optF os 6) none = optF os 6 by cases optF os 6 <;> rfl]; exact q) fun H1 e1 q1 => ?_⟩
    walk_at "go"
    refine isiR T (RO.same e1 (.one ⟨dx, h⟩ ht hw)) (y := "Some") (by decide) ?_
    walk_at "go"
    show if false = true then _ else _
    walk_at "go"
    exact q1 H1 (Same.refl _)
  | @some a t nn os w2 wv h ht hw =>
    show if false = true then _ else _
    refine w_iteF ?_
    walk_at "go"
    refine isiR T (.some h ht hw) (y := "Some") (by decide) ?_
    walk_at "go"
    show if true = true then _ else _
    walk_at "go"
    obtain ⟨dx, h⟩ := id h
    refine ⟨a, _, dx, _, _, rfl, h, T.cl_Some, T.n_Some_options, rfl, ?_⟩
    walk_at "go"
    refine ⟨t, os, 4, rfl, ht, hB.ol, hB.os, ?_⟩
    exact q
  | number h h2 =>
    show if false = true then _ else _
    refine w_iteF ?_
    walk_at "go"
    refine isiR T (.number h h2) (y := "Some") (by decide) ?_
    walk_at "go"
    show if false = true then _ else _
    walk_at "go"
    exact q H (Same.refl _)
  | check h h2 h3 =>
    show if false = true then _ else _
    refine w_iteF ?_
    walk_at "go"
    refine isiR T (.check h h2 h3) (y := "Some") (by decide) ?_
    walk_at "go"
    show if false = true then _ else _
    walk_at "go"
    exact q H (Same.refl _)
  | sect h h2 h3 h4 =>
    show if false = true then _ else _
    refine w_iteF ?_
    walk_at "go"
    refine isiR T (.sect h h2 h3 h4) (y := "Some") (by decide) ?_
    walk_at "go"
    show if false = true then _ else _
    walk_at "go"
    exact q H (Same.refl _)
  | rounds h h2 h3 h4 =>
    show if false = true then _ else _
    refine w_iteF ?_
    walk_at "go"
    refine isiR T (.rounds h h2 h3 h4) (y := "Some") (by decide) ?_
    walk_at "go"
    show if false = true then _ else _
    walk_at "go"
    exact q H (Same.refl _)
theorem sc_check_bounds : FnScope ["row"] ["row"] (defScope s_check_bounds) := ⟨rfl, rfl, rfl, by decide +kernel, rfl, by decide +kernel, by decide +kernel⟩
theorem ok_check_bounds (T : Tx K mg) (n : Nat) : Ok P w K mg base 3 (He.ga K "check_bounds") ["row"] (spCk K n ckBound) := by
  obtain ⟨fd, F⟩ := T.f_check_bounds
  refine ⟨fd, F.ok sc_check_bounds (fun vs H Q E h => ?_) (fun cdv A outer s H vs Q E hr h => ?_), F.bindsN fun _ _ _ _ _ _ us hl => match us, hl with | [_], _ => rfl, F.kp⟩
  · obtain ⟨v, r, rfl, _⟩ := h
    rfl
  obtain ⟨v, r, rfl, hv, hB, q⟩ := h
  refine ⟨_, pss_one (ps_if (pw_and (pt_val (pe_callB call_isi (by rfl) T.z_isinstance (by decide +kernel) (pa_cons (pv 0) (pa_cons (pe_gref T.g_Number) pa_nil)))) (pw_and1 (pt_cmpR op_gt (pe_fld (pv 0) rfl) (pe_fld (pv 0) rfl) (nomark _)))).pt
    (pss_one (ps_err2 (T.err (x := "BadCount") (by decide)) T.m_BadCount_init (ok_BadCount T) hr T.g_BadCount (takes_of rfl rfl rfl rfl) pe_str (pe_fld (pv 0) rfl))) pss_nil), ?_⟩
  walk_at "go"
  refine isiR T hv (y := "Number") (by decide) ?_
  walk_at "go"
  cases hv with
  | @number a nn lo hi w2 wv h hw =>
    obtain ⟨dx, h⟩ := h
    show if true = true then _ else _
    walk_at "go"
    refine ⟨a, _, dx, _, _, rfl, h, T.cl_Number, T.n_Number_low, rfl, ?_⟩
    walk_at "go"
    refine ⟨a, _, dx, _, _, rfl, h, T.cl_Number, T.n_Number_high, rfl, ?_⟩
    walk_at "go"
    by_cases c : hi < lo
    · have q' : End K (some (.count "bounds" hi)) H Q E := by
        have : ckBound (.number nn lo hi w2) = some (.count "bounds" hi) := if_pos c
        rw [← this]
        exact q
      rw [decide_eq_true c]
      walk_at "go"
      refine w_err2 ?_
      walk_at "go"
      refine ⟨a, _, dx, _, _, rfl, h, T.cl_Number, T.n_Number_high, rfl, ?_⟩
      exact gErr2_of fun dd H3 e3 h5 => q' _ _ H3 e3 ⟨rfl, dd, rfl, h5⟩
    · have q' : End K none H Q E := by
        have : ckBound (.number nn lo hi w2) = none := if_neg c
        rw [← this]
        exact q
      rw [decide_eq_false c]
      walk_at "go"
      exact q' H (Same.refl _)
  | _ =>
    show if false = true then _ else _
    walk_at "go"
    exact q H (Same.refl _)
theorem sc_check_inner_rows : FnScope ["row", "around"] ["row", "around"] (defScope s_check_inner_rows) := ⟨rfl, rfl, rfl, by decide +kernel, rfl, by decide +kernel, by decide +kernel⟩
theorem ok_check_inner_rows (T : Tx K mg) (n : Nat) : Ok P w K mg base 3 (He.ga K "check_inner_rows") ["row", "around"] (spCkA K n ckInner) := by
  obtain ⟨fd, F⟩ := T.f_check_inner_rows
  refine ⟨fd, F.ok sc_check_inner_rows (fun vs H Q E h => ?_) (fun cdv A outer s H vs Q E hr h => ?_), F.bindsN fun _ _ _ _ _ _ us hl => match us, hl with | [_, _], _ => rfl, F.kp⟩
  · obtain ⟨v, r, ar, rfl, _⟩ := h
    rfl
  obtain ⟨v, r, ar, rfl, hv, hB, q⟩ := h
  refine ⟨_, pss_cons (ps_if (pw_and (pt_val (pe_callB call_isiT (by rfl) T.z_isinstance (by decide +kernel) (pa_cons (pv 0) (pa_cons (pe_tup (pa_cons (pe_gref T.g_Section) (pa_cons (pe_gref T.g_Rounds) pa_nil))) pa_nil)))) (pw_and1 (pt_cmpR op_eq (pe_callB call_len_seq (by rfl) T.z_len PySem.boot_len (pa_cons (pe_fld (pv 0) rfl) pa_nil)) pe_int (nomark _)))).pt
      (pss_one (ps_err2 (T.err (x := "BadCount") (by decide)) T.m_BadCount_init (ok_BadCount T) hr T.g_BadCount (takes_of rfl rfl rfl rfl) pe_str pe_int)) pss_nil)
    (pss_one (ps_if (pw_and (pt_val (pe_callB call_isi (by rfl) T.z_isinstance (by decide +kernel) (pa_cons (pv 0) (pa_cons (pe_gref T.g_Rounds) pa_nil)))) (pw_and1 (pt_cmp (pc_notN (pv 1))))).pt
      (pss_one (ps_err2 (T.err (x := "BadCount") (by decide)) T.m_BadCount_init (ok_BadCount T) hr T.g_BadCount (takes_of rfl rfl rfl rfl) pe_str pe_int)) pss_nil)), ?_⟩
  walk_at "go"
  refine ⟨(by show 2 ≤ sizeLine; decide), fun p hp => ?_⟩
  have e0 : Same H (upd H p (.tup [.ref (He.ga K "Section"), .ref (He.ga K "Rounds")])) := Same.new hp _
  have hv0 := hv.same e0
  have q0 := q.mono e0
  have hp0 : (upd H p (.tup [.ref (He.ga K "Section"), .ref (He.ga K "Rounds")])) p = some (.tup [.ref (He.ga K "Section"), .ref (He.ga K "Rounds")]) := upd_same
  walk_at "go"
  generalize upd H p (.tup [.ref (He.ga K "Section"), .ref (He.ga K "Rounds")]) = H0 at e0 hv0 q0 hp0
  refine isiR2 T hv0 (y := "Section") (z := "Rounds") hp0 (by decide) (by decide) ?_
  walk_at "go"
  have lenz : ∀ (k : Nat), decide (V.int (k : Int) = V.int 0) = decide (k = 0) := fun k => by simp
  cases hv0 with
  | @sect a t xs rs w2 wv h ht hrs hw =>
    obtain ⟨dx, h⟩ := id h
    show if true = true then _ else _
    walk_at "go"
    refine ⟨a, _, dx, _, _, rfl, h, T.cl_Section, T.n_Section_rows, rfl, ?_⟩
    walk_at "go"
    refine ⟨t, xs, rfl, .inr ht, ?_⟩
    walk_at "go"
    refine ⟨rfl, ?_⟩
    walk_at "go"
    rw [lenz, hrs.length]
    by_cases c : rs.length = 0
    · have q' : End K (some (.count "rows" 0)) H0 Q E := by
        have : ckInner (.sect rs w2) ar = some (.count "rows" 0) := if_pos c
        rw [← this]
        exact q0
      rw [decide_eq_true c]
      walk_at "go"
      refine w_err2 ?_
      walk_at "go"
      exact gErr2_of fun dd H3 e3 h5 => q' _ _ H3 e3 ⟨rfl, dd, rfl, h5⟩
    · have q' : End K none H0 Q E := by
        have : ckInner (.sect rs w2) ar = none := if_neg c
        rw [← this]
        exact q0
      rw [decide_eq_false c]
      walk_at "go"
      refine isiR T (.sect ⟨dx, h⟩ ht hrs hw) (y := "Rounds") (by decide) ?_
      walk_at "go"
      show if false = true then _ else _
      walk_at "go"
      exact q' H0 (Same.refl _)
  | @rounds a t nn xs rs w2 wv h ht hrs hw =>
    obtain ⟨dx, h⟩ := id h
    show if true = true then _ else _
    walk_at "go"
    refine ⟨a, _, dx, _, _, rfl, h, T.cl_Rounds, T.n_Rounds_rows, rfl, ?_⟩
    walk_at "go"
    refine ⟨t, xs, rfl, .inr ht, ?_⟩
    walk_at "go"
    refine ⟨rfl, ?_⟩
    walk_at "go"
    rw [lenz, hrs.length]
    by_cases c : rs.length = 0
    · have q' : End K (some (.count "rows" 0)) H0 Q E := by
        have : ckInner (.rounds nn rs w2) ar = some (.count "rows" 0) := if_pos c
        rw [← this]
        exact q0
      rw [decide_eq_true c]
      walk_at "go"
      refine w_err2 ?_
      walk_at "go"
      exact gErr2_of fun dd H3 e3 h5 => q' _ _ H3 e3 ⟨rfl, dd, rfl, h5⟩
    · rw [decide_eq_false c]
      walk_at "go"
      refine isiR T (.rounds ⟨dx, h⟩ ht hrs hw) (y := "Rounds") (by decide) ?_
      walk_at "go"
      show if true = true then _ else _
      walk_at "go"
      have q1 : End K (if ar = none then none else some (.count "rounds" 2)) H0 Q E := by
        have : ckInner (.rounds nn rs w2) ar = if ar = none then none else some (.count "rounds" 2) := if_neg c
        rw [← this]
        exact q0
      rw [show decide (oV ar = V.non) = decide (ar = none) from oV_eq (b := none)]
      by_cases c2 : ar = none
      · rw [if_pos c2] at q1
        rw [decide_eq_true c2]
        walk_at "go"
        exact q1 H0 (Same.refl _)
      · rw [if_neg c2] at q1
        rw [decide_eq_false c2]
        walk_at "go"
        refine w_err2 ?_
        walk_at "go"
        exact gErr2_of fun dd H3 e3 h5 => q1 _ _ H3 e3 ⟨rfl, dd, rfl, h5⟩
  | one h1' h2' h3' =>
    show if false = true then _ else _
    walk_at "go"
    refine isiR T (.one h1' h2' h3') (y := "Rounds") (by decide) ?_
    walk_at "go"
    show if false = true then _ else _
    walk_at "go"
    exact q0 H0 (Same.refl _)
  | some h1' h2' h3' =>
    show if false = true then _ else _
    walk_at "go"
    refine isiR T (.some h1' h2' h3') (y := "Rounds") (by decide) ?_
    walk_at "go"
    show if false = true then _ else _
    walk_at "go"
    exact q0 H0 (Same.refl _)
  | number h1' h2' =>
    show if false = true then _ else _
    walk_at "go"
    refine isiR T (.number h1' h2') (y := "Rounds") (by decide) ?_
    walk_at "go"
    show if false = true then _ else _
    walk_at "go"
    exact q0 H0 (Same.refl _)
  | check h1' h2' h3' =>
    show if false = true then _ else _
    walk_at "go"
    refine isiR T (.check h1' h2' h3') (y := "Rounds") (by decide) ?_
    walk_at "go"
    show if false = true then _ else _
    walk_at "go"
    exact q0 H0 (Same.refl _)
end
end K3
end P10_part
section P11_part
set_option Elab.async false
set_option linter.all false
set_option maxRecDepth 100000
set_option maxHeartbeats 1000000
set_option pp.deepTerms.threshold 5
open PySem PySem.Spec PyProof.Rows L2
/-- go on as far as nothing is open -/
local macro_rules | `(tactic| walk_at "go") => `(tactic| repeat (first
  | with_reducible refine w_seq ?_ | with_reducible refine w_next ?_ | with_reducible refine w_set ?_ | with_reducible refine w_drop ?_ | with_reducible refine w_ret ?_ | with_reducible refine w_retN ?_
  | with_reducible refine w_if ?_ | ((with_reducible refine' w_var ?hv ?_); (case hv => exact rfl)) | with_reducible refine w_c ?_ | with_reducible refine w_nil ?_ | with_reducible refine w_cons ?_ | with_reducible refine w_op ?_ | with_reducible refine w_un ?_
  | with_reducible refine w_test ?_ | with_reducible refine w_tB ?_ | with_reducible refine w_not ?_ | with_reducible refine w_and ?_ | with_reducible refine w_or ?_ | with_reducible refine w_bl ?_
  | with_reducible refine w_andV ?_ | with_reducible refine w_orV ?_ | with_reducible refine w_notV ?_ | with_reducible refine w_ifE ?_ | with_reducible refine w_chain ?_ | with_reducible refine w_i0 ?_
  | with_reducible refine w_call ?_ | with_reducible refine w_callS ?_ | with_reducible refine w_cB ?_ | with_reducible refine w_tup ?_ | with_reducible refine w_lst ?_ | with_reducible refine w_fldV ?_
  | with_reducible refine w_neF ?_ | with_reducible refine w_neT ?_ | with_reducible refine w_notN ?_ | with_reducible refine w_isN ?_ | with_reducible refine w_gname ?_ | with_reducible refine w_gsub ?_ | with_reducible refine w_asg ?_ | with_reducible refine w_yes ?_ | with_reducible refine w_nT ?_ | with_reducible refine w_nF ?_ | with_reducible refine w_iteT ?_ | with_reducible refine w_iteF ?_))
namespace K3
section
variable {P : Program} {w : World} {K : PySem.W.Frag} {mg : Str → Option Value} {base : Heap}
theorem isQ_isN {r : Rw} (h : r.isQ = true) : r.isN = true := by cases r <;> first | rfl | cases h
theorem quest_isQ {L : AL} {z : Str} {ar : Option Nat} {r : Rw} (h : quest L z ar = .inr r) : r.isQ = true := by
  unfold quest at h
  split at h
  · cases h
  · split at h
    · split at h
      · cases h
      · cases h
        assumption
    · cases h
theorem sc_check_count : FnScope ["row", "around", "ahead", "question"] ["row", "around", "ahead"] (defScope s_check_count) := ⟨rfl, rfl, rfl, by decide +kernel, rfl, by decide +kernel, by decide +kernel⟩
theorem ok_check_count (T : Tx K mg) (n : Nat) : Ok P w K mg base 4 (He.ga K "check_count") ["row", "around", "ahead"] (spCkLA K n ckCount) := by
  obtain ⟨fd, F⟩ := T.f_check_count
  refine ⟨fd, F.ok sc_check_count (fun vs H Q E h => ?_) (fun cdv A outer s H vs Q E hr h => ?_), F.bindsN fun _ _ _ _ _ _ us hl => match us, hl with | [_, _, _], _ => rfl, F.kp⟩
  · obtain ⟨v, r, ar, d, L, rfl, _⟩ := h
    rfl
  obtain ⟨v, r, ar, d, L, rfl, hv, hB, hL, q⟩ := h
  refine ⟨_, pss_cons (ps_if (pt_not (pt_val (pe_callB call_isi (by rfl) T.z_isinstance (by decide +kernel) (pa_cons (pv 0) (pa_cons (pe_gref T.g_Rounds) pa_nil))))) (pss_one ps_retN) pss_nil)
    (pss_cons (ps_set (i := 3) sc_check_count.nd rfl (Or.inl rfl) (pe_fE (takes_of rfl rfl rfl rfl) (ok_question_ahead T) hr T.g_question_ahead (pa_cons (pe_fld (pv 0) rfl) (pa_cons (pv 1) (pa_cons (pv 2) pa_nil)))))
    (pss_one (ps_if (pw_or (pt_not (pt_val (pe_callB call_isi (by rfl) T.z_isinstance (by decide +kernel) (pa_cons (pv 3) (pa_cons (pe_gref T.g_Number) pa_nil))))) (pw_or (pt_cmpR op_lt (pe_fld (pv 3) rfl) pe_int (nomark _)) (pw_or1 (pt_cmpR op_gt (pe_fld (pv 3) rfl) (pe_gint T.i_MOST_ROUNDS) (nomark _))))).pt
      (pss_one (ps_err1 (T.err (x := "NoFit") (by decide)) T.m_NoFit_init (ok_NoFit T) (hr.mono (by decide)) T.g_NoFit (takes_of rfl rfl rfl rfl) (pe_fld (pv 3) rfl))) pss_nil))), ?_⟩
  walk_at "go"
  refine isiR T hv (y := "Rounds") (by decide) ?_
  walk_at "go"
  cases hv with
  | @rounds a t nn xs rs w2 wv h ht hrs hw =>
    obtain ⟨dx, h⟩ := h
    show if (!true) = true then _ else _
    walk_at "go"
    refine ⟨a, _, dx, _, _, rfl, h, T.cl_Rounds, T.n_Rounds_count, rfl, ?_⟩
    walk_at "go"
    refine ⟨nn, ar, d, L, rfl, hL, ?_⟩
    have ec : ckCount L (.rounds nn rs w2) ar = match quest L nn ar with
      | .inl f => some f
      | .inr q => fitN q := rfl
    rw [ec] at q
    cases hq : quest L nn ar with
    | inl f =>
      rw [hq] at q
      exact q
    | inr r2 =>
      rw [hq] at q
      have q : End K (fitN r2) H Q E := q
      intro u H1 e1 hu
      have q1 := q.mono e1
      have hN := isQ_isN (quest_isQ hq)
      obtain ⟨a2, dx2, fs2, rfl, hi2, hcl2, hna2, hlk2⟩ := ro_name T hu hN
      have fit : ∀ (Q' : VK) (W : WX) (σ : L2.St) (D : Ends), σ[3]? = some (some (.ref a2)) → End K (some (.fit r2.name)) H1 Q E → tErr1 K "NoFit" "name" (tFld K (tVar 3) "name") (fun cls d _ H => E cls d H) D σ H1 := by
        intro Q' W σ D hσ qf
        refine w_err1 ?_
        refine ⟨_, hσ, a2, _, dx2, fs2, _, rfl, hi2, hcl2, hna2, hlk2, ?_⟩
        exact gErr1_of fun dd H3 e3 h5 => qf _ _ H3 e3 ⟨rfl, dd, rfl, h5⟩
      walk_at "go"
      refine isiR T hu (y := "Number") (by decide) ?_
      walk_at "go"
      cases hu with
      | @number a3 n3 lo hi w3 wv3 h3 hw3 =>
        obtain ⟨dx3, h3⟩ := h3
        show if (!true) = true then _ else _
        walk_at "go"
        refine ⟨a2, _, dx3, _, _, rfl, h3, T.cl_Number, T.n_Number_low, rfl, ?_⟩
        walk_at "go"
        have ef : fitN (.number n3 lo hi w3) = if lo < 0 then some (.fit n3) else if 4 < hi then some (.fit n3) else none := rfl
        rw [ef] at q1
        by_cases c1 : lo < 0
        · rw [if_pos c1] at q1
          rw [decide_eq_true c1]
          walk_at "go"
          exact fit (fun _ _ => True) (fun _ _ _ _ => True) _ _ rfl q1
        · rw [if_neg c1] at q1
          rw [decide_eq_false c1]
          walk_at "go"
          refine ⟨a2, _, dx3, _, _, rfl, h3, T.cl_Number, T.n_Number_high, rfl, ?_⟩
          walk_at "go"
          by_cases c2 : 4 < hi
          · rw [if_pos c2] at q1
            rw [decide_eq_true c2]
            walk_at "go"
            exact fit (fun _ _ => True) (fun _ _ _ _ => True) _ _ rfl q1
          · rw [if_neg c2] at q1
            rw [decide_eq_false c2]
            walk_at "go"
            exact q1 H1 (Same.refl _)
      | _ =>
        show if (!false) = true then _ else _
        walk_at "go"
        exact fit (fun _ _ => True) (fun _ _ _ _ => True) _ _ rfl q1
  | _ =>
    show if (!false) = true then _ else _
    walk_at "go"
    exact q H (Same.refl _)
theorem co_name (T : Tx K mg) {H : Hp} {v : V} {c : Cd} (h : CO K H v c) (hn : c.isS = true) : ∃ a dx fs, v = .ref a ∧ H a = some (.ins (He.ga K c.nm) dx fs) ∧ Cls K (He.ga K c.nm) ∧ NoAttr K (He.ga K c.nm) "name" ∧ fs.lookup ("name" : Str) = some (.str c.name) := by
  cases h with
  | is h => obtain ⟨dx, h⟩ := h; exact ⟨_, dx, _, rfl, h, T.cl_Is, T.n_Is_name, rfl⟩
  | has h => obtain ⟨dx, h⟩ := h; exact ⟨_, dx, _, rfl, h, T.cl_Has, T.n_Has_name, rfl⟩
  | over h => obtain ⟨dx, h⟩ := h; exact ⟨_, dx, _, rfl, h, T.cl_Above, T.n_Above_name, rfl⟩
  | under h => obtain ⟨dx, h⟩ := h; exact ⟨_, dx, _, rfl, h, T.cl_Below, T.n_Below_name, rfl⟩
  | no h _ => cases hn
  | both h _ _ => cases hn
  | either h _ _ => cases hn
theorem Paired.get {α β : Type} {F : α → β → Prop} : ∀ {l1 : List α} {l2 : List β}, Paired F l1 l2 → ∀ {i : Nat} {x : α}, l1[i]? = some x → ∃ y, l2[i]? = some y ∧ F x y
  | _, _, .nil, i, x, h => by simp at h
  | _, _, .cons (a := a) (b := b) h t, 0, x, e => by
    have e' : a = x := by simpa using e
    subst e'
    exact ⟨b, rfl, h⟩
  | _, _, .cons h t, i + 1, x, e => Paired.get t (i := i) (by simpa using e)
theorem ckConds_take (L : AL) (ar : Option Nat) {cs : List Cd} : ∀ {i : Nat} {c : Cd}, cs[i]? = some c → ckConds L ar (cs.take i) = none → (ckCond L ar c = none → ckConds L ar (cs.take (i + 1)) = none) ∧ (∀ f, ckCond L ar c = some f → ckConds L ar cs = some f) := by
  induction cs with
  | nil => intro i z h; simp at h
  | cons a r ih =>
    intro i z h hn
    cases i with
    | zero =>
      have e : a = z := by simpa using h
      subst e
      refine ⟨fun h => ?_, fun f h => ?_⟩
      · show thenF (ckCond L ar a) none = none
        rw [h] <;> rfl
      · show thenF (ckCond L ar a) _ = _
        rw [h] <;> rfl
    | succ i =>
      have hn' : thenF (ckCond L ar a) (ckConds L ar (r.take i)) = none := hn
      cases ha : ckCond L ar a with
      | some f => rw [ha] at hn'; cases hn'
      | none =>
        rw [ha] at hn'
        have q := ih (i := i) (c := z) (by simpa using h) hn'
        refine ⟨fun h => ?_, fun f h => ?_⟩
        · show thenF (ckCond L ar a) (ckConds L ar (r.take (i + 1))) = none
          rw [ha]
          exact q.1 h
        · show thenF (ckCond L ar a) (ckConds L ar r) = some f
          rw [ha]
          exact q.2 f h
theorem sc_check_conditions : FnScope ["row", "around", "ahead", "condition", "question"] ["row", "around", "ahead"] (defScope s_check_conditions) := ⟨rfl, rfl, rfl, by decide +kernel, rfl, by decide +kernel, by decide +kernel⟩
theorem ok_check_conditions (T : Tx K mg) (n : Nat) : Ok P w K mg base (n + 4) (He.ga K "check_conditions") ["row", "around", "ahead"] (spCkLA K n fun L r ar => ckConds L ar r.conds) := by
  obtain ⟨fd, F⟩ := T.f_check_conditions
  refine ⟨fd, F.ok (k := n + 3) sc_check_conditions (fun vs H Q E h => ?_) (fun cdv A outer s H vs Q E hr h => ?_), F.bindsN fun _ _ _ _ _ _ us hl => match us, hl with | [_, _, _], _ => rfl, F.kp⟩
  · obtain ⟨v, r, ar, d, L, rfl, _⟩ := h
    rfl
  obtain ⟨v, r, ar, d, L, rfl, hv, hB, hL, q⟩ := h
  refine ⟨_, pss_one (ps_for (passes_of rfl) rfl (pi_list (pe_f (ok_conditions_of T n) (hr.mono (by omega)) T.g_conditions_of (pa_cons (pv 0) pa_nil))) (pg_name (i := 3) sc_check_conditions.nd rfl (Or.inl rfl))
      (pss_cons (ps_set (i := 4) sc_check_conditions.nd rfl (Or.inl rfl) (pe_fE (takes_of rfl rfl rfl rfl) (ok_question_ahead T) (hr.mono (by omega)) T.g_question_ahead (pa_cons (pe_fld (pv 3) rfl) (pa_cons (pv 1) (pa_cons (pv 2) pa_nil)))))
      (pss_one (ps_if (pt_not (pt_val (pe_f (ok_suits T) (hr.mono (by omega)) T.g_suits (pa_cons (pv 3) (pa_cons (pv 4) pa_nil)))))
        (pss_one (ps_err1 (T.err (x := "NoFit") (by decide)) T.m_NoFit_init (ok_NoFit T) (hr.mono (by omega)) T.g_NoFit (takes_of rfl rfl rfl rfl) (pe_fld (pv 4) rfl))) pss_nil)))), ?_⟩
  walk_at "go"
  refine ⟨_, rfl, ?_⟩
  walk_at "go"
  refine ⟨v, r, rfl, hv, hB.cd, hB.c1, hB.c2, fun p H0 xs hp e0 h0 hxs => ?_⟩
  refine ⟨p, rfl, ⟨_, SqL.of h0⟩, ?_⟩
  have q0 : End K (ckConds L ar r.conds) H0 Q E := End.mono q e0
  have hL0 := hL.same e0
  refine for_list (K := K) (a := p) (xs := xs) (fun (i : Nat) σ H' => ∃ v3 v4 : Option V, σ = [some v, some (oV ar), some (.ref d), v3, v4] ∧ Same H0 H' ∧ ckConds L ar (r.conds.take i) = none) ⟨none, none, rfl, Same.refl _, rfl⟩ (fun i σ H' _ ⟨_, _, _, e, _⟩ => e.seq (SqL.of h0)) ?_ ?_
  · rintro i x σ H1 hi ⟨v3, v4, rfl, e1, hn⟩
    obtain ⟨c, hc1, hx⟩ := K3.Paired.get hxs hi
    have hx1 := hx.same e1
    have hS := conds_isS r c (List.mem_of_getElem? hc1)
    have tk := ckConds_take L ar hc1 hn
    obtain ⟨a, dx, fs, rfl, hia, hcl, hna, hlk⟩ := co_name T hx1 hS
    have hL1 := hL0.same e1
    walk_at "go"
    refine ⟨a, _, dx, fs, _, rfl, hia, hcl, hna, hlk, ?_⟩
    walk_at "go"
    refine ⟨c.name, ar, d, L, rfl, hL1, ?_⟩
    cases hq : quest L c.name ar with
    | inl f =>
      intro cls dd H2 e2 h2
      have q1 := q0
      rw [tk.2 f (by unfold ckCond; rw [hq])] at q1
      exact q1 cls dd H2 (e1.trans e2) h2
    | inr r2 =>
      intro u H2 e2 hu
      have hN := isQ_isN (quest_isQ hq)
      have ec : ckCond L ar c = if suitsB c r2 then none else some (.fit r2.name) := by unfold ckCond; rw [hq]
      walk_at "go"
      refine ⟨.ref a, u, c, r2, rfl, hx1.same e2, hu, fun H3 e3 => ?_⟩
      have hu3 := hu.same e3
      obtain ⟨a2, dx2, fs2, rfl, hi2, hcl2, hna2, hlk2⟩ := ro_name T hu3 hN
      cases hs : suitsB c r2 with
      | true =>
        rw [hs] at ec
        walk_at "go"
        exact ⟨_, _, rfl, (e1.trans e2).trans e3, tk.1 ec⟩
      | false =>
        rw [hs] at ec
        walk_at "go"
        refine w_err1 ?_
        walk_at "go"
        refine ⟨a2, _, dx2, fs2, _, rfl, hi2, hcl2, hna2, hlk2, ?_⟩
        have q1 := q0
        rw [tk.2 _ ec] at q1
        exact gErr1_of fun dd H4 e4 h5 => q1 _ _ H4 (((e1.trans e2).trans e3).trans e4) ⟨rfl, dd, rfl, h5⟩
  · rintro σ H1 ⟨v3, v4, rfl, e1, hn⟩
    rw [hxs.length, List.take_length] at hn
    rw [hn] at q0
    exact q0 H1 e1
end
end K3
end P11_part
section P12_part
set_option Elab.async false
set_option linter.all false
set_option maxRecDepth 100000
set_option maxHeartbeats 1000000
set_option pp.deepTerms.threshold 5
open PySem PySem.Spec PyProof.Rows L2
/-- go on as far as nothing is open -/
local macro_rules | `(tactic| walk_at "go") => `(tactic| repeat (first
  | with_reducible refine w_seq ?_ | with_reducible refine w_next ?_ | with_reducible refine w_set ?_ | with_reducible refine w_drop ?_ | with_reducible refine w_ret ?_ | with_reducible refine w_retN ?_
  | with_reducible refine w_if ?_ | ((with_reducible refine' w_var ?hv ?_); (case hv => exact rfl)) | with_reducible refine w_c ?_ | with_reducible refine w_nil ?_ | with_reducible refine w_cons ?_ | with_reducible refine w_op ?_ | with_reducible refine w_un ?_
  | with_reducible refine w_test ?_ | with_reducible refine w_tB ?_ | with_reducible refine w_not ?_ | with_reducible refine w_and ?_ | with_reducible refine w_or ?_ | with_reducible refine w_bl ?_
  | with_reducible refine w_andV ?_ | with_reducible refine w_orV ?_ | with_reducible refine w_notV ?_ | with_reducible refine w_ifE ?_ | with_reducible refine w_chain ?_ | with_reducible refine w_i0 ?_
  | with_reducible refine w_call ?_ | with_reducible refine w_callS ?_ | with_reducible refine w_cB ?_ | with_reducible refine w_tup ?_ | with_reducible refine w_lst ?_ | with_reducible refine w_fldV ?_
  | with_reducible refine w_neF ?_ | with_reducible refine w_neT ?_ | with_reducible refine w_notN ?_ | with_reducible refine w_isN ?_ | with_reducible refine w_gname ?_ | with_reducible refine w_gsub ?_ | with_reducible refine w_asg ?_ | with_reducible refine w_yes ?_ | with_reducible refine w_nT ?_ | with_reducible refine w_nF ?_ | with_reducible refine w_iteT ?_ | with_reducible refine w_iteF ?_))
namespace K3
def ckRows : AL → List (Rw × Option Nat) → Option Flt
  | _, [] => none
  | L, (r, ar) :: rest => thenF (ckRow L r ar) (ckRows (if r.isN then L ++ [(r.name, r, ar)] else L) rest)
def spCkRows (K : PySem.W.Frag) (n : Nat) : Sp := fun vs H Q E => ∃ (l : Addr) (zs : List V) (F : List (Rw × Option Nat)), vs = [.ref l] ∧ H l = some (.lst zs) ∧ LA K H zs F ∧ (∀ e ∈ F, RwB n e.1) ∧ F.length ≤ 1000 ∧ End K (ckRows [] F) H Q E
theorem ckRow_new {L : AL} {r : Rw} {ar : Option Nat} (h : ckRow L r ar = none) (hn : r.isN = true) : look L r.name = none := by
  unfold ckRow at h
  have h1 : ckName L r = none := by
    cases e : ckName L r with
    | none => rfl
    | some f => rw [e] at h; cases h
  unfold ckName at h1
  rw [hn, if_pos rfl] at h1
  cases e : look L r.name with
  | none => rfl
  | some x =>
    rw [e] at h1
    cases e2 : nameF r.name with
    | some f => rw [e2] at h1; cases h1
    | none => rw [e2] at h1; cases h1
section
variable {P : Program} {w : World} {K : PySem.W.Frag} {mg : Str → Option Value} {base : Heap}
theorem sc_check_row : FnScope ["row", "around", "ahead"] ["row", "around", "ahead"] (defScope s_check_row) := ⟨rfl, rfl, rfl, by decide +kernel, rfl, by decide +kernel, by decide +kernel⟩
theorem ok_check_row (T : Tx K mg) (n : Nat) : Ok P w K mg base (n + 6) (He.ga K "check_row") ["row", "around", "ahead"] (spCkLA K n ckRow) := by
  obtain ⟨fd, F⟩ := T.f_check_row
  refine ⟨fd, F.ok (k := n + 5) sc_check_row (fun vs H Q E h => ?_) (fun cdv A outer s H vs Q E hr h => ?_), F.bindsN fun _ _ _ _ _ _ us hl => match us, hl with | [_, _, _], _ => rfl, F.kp⟩
  · obtain ⟨v, r, ar, d, L, rfl, _⟩ := h
    rfl
  obtain ⟨v, r, ar, d, L, rfl, hv, hB, hL, q⟩ := h
  refine ⟨_, pss_cons (ps_expr (pe_fE (takes_of rfl rfl rfl rfl) (ok_check_name T n) (hr.mono (by omega)) T.g_check_name (pa_cons (pv 0) (pa_cons (pv 2) pa_nil))))
    (pss_cons (ps_expr (pe_fE (takes_of rfl rfl rfl rfl) (ok_check_options T n) (hr.mono (by omega)) T.g_check_options (pa_cons (pv 0) pa_nil)))
    (pss_cons (ps_expr (pe_fE (takes_of rfl rfl rfl rfl) (ok_check_bounds T n) (hr.mono (by omega)) T.g_check_bounds (pa_cons (pv 0) pa_nil)))
    (pss_cons (ps_expr (pe_fE (takes_of rfl rfl rfl rfl) (ok_check_inner_rows T n) (hr.mono (by omega)) T.g_check_inner_rows (pa_cons (pv 0) (pa_cons (pv 1) pa_nil))))
    (pss_cons (ps_expr (pe_fE (takes_of rfl rfl rfl rfl) (ok_check_count T n) (hr.mono (by omega)) T.g_check_count (pa_cons (pv 0) (pa_cons (pv 1) (pa_cons (pv 2) pa_nil)))))
    (pss_one (ps_expr (pe_fE (takes_of rfl rfl rfl rfl) (ok_check_conditions T n) (hr.mono (by omega)) T.g_check_conditions (pa_cons (pv 0) (pa_cons (pv 1) (pa_cons (pv 2) pa_nil)))))))))), ?_⟩
  unfold ckRow at q
  walk_at "go"
  refine ⟨v, r, d, L, rfl, hv, hB, hL, End_seq q fun H1 e1 q1 => ?_⟩
  walk_at "go"
  refine ⟨v, r, rfl, hv.same e1, hB, End_seq q1 fun H2 e2 q2 => ?_⟩
  walk_at "go"
  refine ⟨v, r, rfl, (hv.same e1).same e2, hB, End_seq q2 fun H3 e3 q3 => ?_⟩
  have e13 := (e1.trans e2).trans e3
  walk_at "go"
  refine ⟨v, r, ar, rfl, hv.same e13, hB, End_seq q3 fun H4 e4 q4 => ?_⟩
  have e14 := e13.trans e4
  walk_at "go"
  refine ⟨v, r, ar, d, L, rfl, hv.same e14, hB, hL.same e14, End_seq q4 fun H5 e5 q5 => ?_⟩
  have e15 := e14.trans e5
  walk_at "go"
  exact ⟨v, r, ar, d, L, rfl, hv.same e15, hB, hL.same e15, q5⟩
theorem sc_check_rows : FnScope ["laid", "ahead", "row", "around"] ["laid"] (defScope s_check_rows) := ⟨rfl, rfl, rfl, by decide +kernel, rfl, by decide +kernel, by decide +kernel⟩
theorem ok_check_rows (T : Tx K mg) (n : Nat) : Ok P w K mg base (n + 7) (He.ga K "check_rows") ["laid"] (spCkRows K n) := by
  obtain ⟨fd, F⟩ := T.f_check_rows
  refine ⟨fd, F.ok (k := n + 6) sc_check_rows (fun vs H Q E h => ?_) (fun cdv A outer s H vs Q E hr h => ?_), F.bindsN fun _ _ _ _ _ _ us hl => match us, hl with | [_], _ => rfl, F.kp⟩
  · obtain ⟨l, zs, F, rfl, _⟩ := h
    rfl
  obtain ⟨l, zs, F, rfl, hl, hF, hB, hz, q⟩ := h
  refine ⟨_, pss_cons (ps_set (i := 1) sc_check_rows.nd rfl (Or.inl rfl) pe_dnewK)
    (pss_one (ps_for (passes_of rfl) rfl (pi_list (pv 0)) (pg_tup rfl (pgs_cons (pg_name (i := 2) sc_check_rows.nd rfl (Or.inl rfl)) (pgs_cons (pg_name (i := 3) sc_check_rows.nd rfl (Or.inl rfl)) pgs_nil)))
      (pss_cons (ps_expr (pe_fE (takes_of rfl rfl rfl rfl) (ok_check_row T n) hr T.g_check_row (pa_cons (pv 2) (pa_cons (pv 3) (pa_cons (pv 1) pa_nil)))))
      (pss_one (ps_if (pt_val (pe_f (ok_is_named T) (hr.mono (by omega)) T.g_is_named (pa_cons (pv 2) pa_nil))) (pss_one (ps_dput (hu_of hr) (pv 1) (pe_fld (pv 2) rfl) (pe_tup (pa_cons (pv 2) (pa_cons (pv 3) pa_nil))) rfl)) pss_nil))))), ?_⟩
  walk_at "go"
  intro d hd
  walk_at "go"
  refine ⟨_, rfl, l, rfl, ⟨_, SqL.of (Same.new hd _ _ _ hl)⟩, ?_⟩
  have lF := hF.length
  refine for_list (K := K) (a := l) (xs := zs) (fun (i : Nat) σ H' => ∃ (v2 v3 : Option V) (L : AL), σ = [some (.ref l), some (.ref d), v2, v3] ∧ Same H H' ∧ AHd K H' d L ∧ L.length ≤ i ∧ ckRows [] F = ckRows L (F.drop i))
    ⟨none, none, [], rfl, Same.new hd _, ⟨[], upd_same, .nil⟩, Nat.le_refl _, rfl⟩ (fun i σ H' _ ⟨_, _, _, _, e, _⟩ => SqL.of (e _ _ hl)) ?_ ?_
  · rintro i x σ H1 hi ⟨v2, v3, L, rfl, e1, hL, hli, hck⟩
    obtain ⟨⟨r, ar⟩, hc1, t, u, rfl, ht, hu⟩ := K3.Paired.get hF hi
    have hlt : i < F.length := (List.getElem?_eq_some_iff.mp hc1).1
    have hdr : F.drop i = (r, ar) :: F.drop (i + 1) := by
      have := List.drop_eq_getElem_cons hlt
      rw [this, (List.getElem?_eq_some_iff.mp hc1).2]
    rw [hdr] at hck
    have q1 := q.mono e1
    rw [hck] at q1
    have q1 : End K (thenF (ckRow L r ar) (ckRows (if r.isN then L ++ [(r.name, r, ar)] else L) (F.drop (i + 1)))) H1 Q E := q1
    refine ⟨t, _, rfl, SqT.of (e1 _ _ ht), rfl, _, _, rfl, ?_⟩
    walk_at "go"
    refine ⟨_, _, rfl, ?_⟩
    walk_at "go"
    refine ⟨rfl, ?_⟩
    walk_at "go"
    have hu1 : RO K H1 u r := RO.same e1 hu
    refine ⟨u, r, ar, d, L, rfl, hu1, hB _ (List.mem_of_getElem? hc1), hL, ?_⟩
    cases hcr : ckRow L r ar with
    | some f =>
      rw [hcr] at q1
      exact q1
    | none =>
      rw [hcr] at q1
      intro H2 e2
      have hu2 := RO.same e2 hu1
      walk_at "go"
      refine ⟨u, r, rfl, hu2, fun H3 e3 => ?_⟩
      have hu3 := RO.same e3 hu2
      have hL3 := (hL.same e2).same e3
      have e13 := (e1.trans e2).trans e3
      cases hn : r.isN with
      | false =>
        walk_at "go"
        refine ⟨_, _, L, rfl, e13, hL3, by omega, ?_⟩
        rw [hck]
        show thenF (ckRow L r ar) (ckRows (if r.isN then _ else L) _) = _
        rw [hcr, hn] <;> rfl
      | true =>
        have hlk := ckRow_new hcr hn
        obtain ⟨a, dx, fs, rfl, hi2, hcl, hna, hlk2⟩ := ro_name T hu3 hn
        obtain ⟨kvs, hd3, hp⟩ := hL3
        have lk := hp.length
        walk_at "go"
        refine ⟨_, rfl, _, rfl, (by show 2 ≤ sizeLine; decide), fun t2 ht2 => ?_⟩
        have e4 : Same H3 (upd H3 t2 (.tup [.ref a, oV ar])) := Same.new ht2 _
        refine ⟨_, rfl, _, rfl, a, _, dx, fs, _, rfl, e4 _ _ hi2, hcl, hna, hlk2, ?_⟩
        have hv : valV kvs (Sum.inr r.name) = none := by
          rcases look_ea r.name hp with ⟨h1, _⟩ | ⟨_, _, _, _, _, h2, _⟩
          · exact h1
          · rw [hlk] at h2; cases h2
        have hput : putK kvs (Sum.inr r.name) (.ref t2) = kvs ++ [(Sum.inr r.name, .ref t2)] := by
          unfold putK
          rw [valV_any, hv, if_neg (by decide)]
        refine ⟨d, _, rfl, DPut.k (k := Sum.inr r.name) (e4 _ _ hd3) (Nat.lt_of_le_of_lt (show kvs.length ≤ 1000 by omega) (by decide)), ?_⟩
        rw [hput]
        have si : SI H3 (upd (upd H3 t2 (.tup [.ref a, oV ar])) d (.dK (kvs ++ [(Sum.inr r.name, .ref t2)]))) := e4.si.trans (SI.upd (e4 _ _ hd3) rfl _)
        refine ⟨_, _, L ++ [(r.name, r, ar)], rfl, (e13.trans e4).mut hd, ⟨_, upd_same, ?_⟩, by rw [List.length_append]; exact Nat.succ_le_succ hli, ?_⟩
        · refine K3.Paired.app (L2.Paired.mapP hp fun _ _ z => z.si si) (.cons ⟨rfl, t2, .ref a, rfl, ?_, RO.si si hu3⟩ .nil)
          rw [upd_ne (fun z => by rw [← z, ht2] at hd3; cases hd3)]
          exact upd_same
        · rw [hck]
          show thenF (ckRow L r ar) (ckRows (if r.isN then _ else L) _) = _
          rw [hcr, hn] <;> rfl
  · rintro σ H1 ⟨v2, v3, L, rfl, e1, hL, hli, hck⟩
    rw [lF, List.drop_eq_nil_of_le (Nat.le_refl _)] at hck
    have q1 := q.mono e1
    rw [hck] at q1
    exact q1 H1 (Same.refl _)
end
end K3
end P12_part
section P13_part
set_option Elab.async false
set_option linter.all false
set_option maxRecDepth 100000
set_option maxHeartbeats 1000000
set_option pp.deepTerms.threshold 5
open PySem PySem.Spec PyProof.Rows L2
/-- go on as far as nothing is open -/
local macro_rules | `(tactic| walk_at "go") => `(tactic| repeat (first
  | with_reducible refine w_seq ?_ | with_reducible refine w_next ?_ | with_reducible refine w_set ?_ | with_reducible refine w_drop ?_ | with_reducible refine w_ret ?_ | with_reducible refine w_retN ?_
  | with_reducible refine w_if ?_ | ((with_reducible refine' w_var ?hv ?_); (case hv => exact rfl)) | with_reducible refine w_c ?_ | with_reducible refine w_nil ?_ | with_reducible refine w_cons ?_ | with_reducible refine w_op ?_ | with_reducible refine w_un ?_
  | with_reducible refine w_test ?_ | with_reducible refine w_tB ?_ | with_reducible refine w_not ?_ | with_reducible refine w_and ?_ | with_reducible refine w_or ?_ | with_reducible refine w_bl ?_
  | with_reducible refine w_andV ?_ | with_reducible refine w_orV ?_ | with_reducible refine w_notV ?_ | with_reducible refine w_ifE ?_ | with_reducible refine w_chain ?_ | with_reducible refine w_i0 ?_
  | with_reducible refine w_call ?_ | with_reducible refine w_callS ?_ | with_reducible refine w_cB ?_ | with_reducible refine w_tup ?_ | with_reducible refine w_lst ?_ | with_reducible refine w_fldV ?_
  | with_reducible refine w_neF ?_ | with_reducible refine w_neT ?_ | with_reducible refine w_notN ?_ | with_reducible refine w_isN ?_ | with_reducible refine w_gname ?_ | with_reducible refine w_gsub ?_ | with_reducible refine w_asg ?_ | with_reducible refine w_yes ?_ | with_reducible refine w_nT ?_ | with_reducible refine w_nF ?_ | with_reducible refine w_iteT ?_ | with_reducible refine w_iteF ?_))
namespace K3
def formF (rs : List Rw) : Option Flt := if 1 ≤ Rws.cnt rs ∧ Rws.cnt rs ≤ 40 then ckRows [] (Rws.flat rs none 0) else some (.count "rows" (Rws.cnt rs))
def qsOf (F : List (Rw × Option Nat)) : List Rw := F.filterMap fun e => if e.1.isQ then some e.1 else none
def alOf (F : List (Rw × Option Nat)) : AL := F.filterMap fun e => if e.1.isN then some (e.1.name, e.1, e.2) else none
theorem ck_drop : ∀ {F : List (Rw × Option Nat)} {L : AL}, ckRows L F = none → ∀ {i : Nat} {e : Rw × Option Nat}, F[i]? = some e → e.1.isN = true → look (L ++ alOf (F.take i)) e.1.name = none
  | [], _, _, i, e, h, _ => by simp at h
  | (r, ar) :: F, L, hc, i, e, h, hn => by
    have hc' : thenF (ckRow L r ar) (ckRows (if r.isN then L ++ [(r.name, r, ar)] else L) F) = none := hc
    cases h1 : ckRow L r ar with
    | some f => rw [h1] at hc'; cases hc'
    | none =>
      rw [h1] at hc'
      cases i with
      | zero =>
        have e1 : (r, ar) = e := by simpa using h
        subst e1
        have : look L r.name = none := ckRow_new h1 hn
        show look (L ++ []) r.name = none
        rw [List.append_nil]
        exact this
      | succ i =>
        have ih := ck_drop (F := F) hc' (i := i) (e := e) (by simpa using h) hn
        show look (L ++ alOf ((r, ar) :: F.take i)) e.1.name = none
        unfold alOf
        cases hr : r.isN with
        | true =>
          rw [hr, if_pos rfl] at ih
          rw [List.filterMap_cons]
          simp only [hr, if_true]
          have ea : L ++ (r.name, r, ar) :: (F.take i).filterMap (fun e => if e.1.isN = true then some (e.1.name, e.1, e.2) else none) = L ++ [(r.name, r, ar)] ++ (F.take i).filterMap (fun e => if e.1.isN = true then some (e.1.name, e.1, e.2) else none) := by simp
          rw [ea]
          exact ih
        | false =>
          rw [hr] at ih
          rw [List.filterMap_cons]
          simp only [hr]
          exact ih
theorem look_all {z : Str} : ∀ {L : AL}, look L z = none → ∀ e ∈ L, e.1 ≠ z
  | [], _, e, h => by cases h
  | a :: L, hl, e, h => by
    unfold look at hl
    rw [List.find?_cons] at hl
    by_cases c : a.1 = z
    · rw [decide_eq_true c] at hl
      cases hl
    · rw [decide_eq_false c] at hl
      rcases List.mem_cons.mp h with h | h
      · rw [h]; exact c
      · exact look_all (L := L) hl e h
theorem qs_al {F : List (Rw × Option Nat)} {r : Rw} (h : r ∈ qsOf F) : ∃ e ∈ alOf F, e.1 = r.name := by
  obtain ⟨e, he, h2⟩ := List.mem_filterMap.mp h
  cases hq : e.1.isQ with
  | false => rw [hq] at h2; cases h2
  | true =>
    rw [hq, if_pos rfl] at h2
    have e1 := Option.some.inj h2
    subst e1
    refine ⟨(e.1.name, e.1, e.2), List.mem_filterMap.mpr ⟨e, he, ?_⟩, rfl⟩
    rw [if_pos (isQ_isN hq)]
/-- an entry of questions -/
def QE (K : PySem.W.Frag) (H : Hp) (kv : Key × V) (r : Rw) : Prop := kv.1 = Sum.inr r.name ∧ RO K H kv.2 r
theorem val_qe {K : PySem.W.Frag} {H : Hp} {z : Str} : ∀ {kvs : List (Key × V)} {qs : List Rw}, Paired (QE K H) kvs qs → (∀ r ∈ qs, r.name ≠ z) → valV kvs (Sum.inr z) = none
  | _, _, .nil, _ => rfl
  | _, _, .cons (a := kv) (b := r) h t, hn => by
    have e1 : ¬ kv.1 = Sum.inr z := by rw [h.1]; exact fun q => hn r (List.mem_cons_self ..) (Sum.inr.inj q)
    rw [valV_neg e1]
    exact val_qe t fun r' hr => hn r' (List.mem_cons_of_mem _ hr)
/-- a comprehension of a dict over whatever is walked -/
theorem dc_any {J : It} {n : Nat} {G : Hp → Prop} {Y : Nat → Hp → V → Hp → Prop} (wk : Walk J n G Y) {g : TG} {tt : TT} {tk tv : TE} {vs : List Nat} {σ : L2.St} {H1 : Hp} {D : Addr} {Qd : Hp → Prop} (Pv : Nat → Hp → Prop) (h0 : Pv 0 (upd H1 D (.dK [])))
    (hG : ∀ i H, i ≤ n → Pv i H → G H)
    (hs : ∀ i x H H', i < n → Pv i H → Y i H x H' → g x (wipe σ vs) H' fun σ2 H2 => wipe σ2 vs = wipe σ vs ∧ tt σ2 H2 fun b H3 =>
      if b = true then tk σ2 H3 fun y H4 => tv σ2 H4 fun z H5 => ∃ kvs k, y = kV k ∧ H5 D = some (.dK kvs) ∧ kvs.length < sizeLine ∧ Pv (i + 1) (upd H5 D (.dK (putK kvs k z))) else Pv (i + 1) H3)
    (hd : ∀ H, Pv n H → Qd H) :
    ∃ W : Nat → Nat → Hp → Prop, (∃ m, W 0 m (upd H1 D (.dK []))) ∧ ∀ i m H, W i m H → (J.stop i H ∧ Qd H) ∨ (J.go i H ∧ ∃ Nx : Hp → Prop, (∀ H', Nx H' → ∃ m', m' < m ∧ W (i + 1) m' H') ∧
      ∀ x H', J.yld i H x H' → g x (wipe σ vs) H' fun σ2 H2 => wipe σ2 vs = wipe σ vs ∧ tt σ2 H2 fun b H3 =>
        if b = true then tk σ2 H3 fun y H4 => tv σ2 H4 fun z H5 => ∃ kvs k, y = kV k ∧ H5 D = some (.dK kvs) ∧ kvs.length < sizeLine ∧ Nx (upd H5 D (.dK (putK kvs k z))) else Nx H3) := by
  refine ⟨fun i m H => m + i = n ∧ Pv i H, ⟨n, rfl, h0⟩, fun i m H w => ?_⟩
  obtain ⟨e, p⟩ := w
  by_cases c : i < n
  · exact .inr ⟨wk.goes i H c (hG i H (Nat.le_of_lt c) p), Pv (i + 1), fun H' p' => ⟨m - 1, by omega, by omega, p'⟩, fun x H' y => hs i x H H' c p (wk.yields i H x H' c (hG i H (Nat.le_of_lt c) p) y)⟩
  · have e2 : i = n := by omega
    subst e2
    exact .inl ⟨wk.stops H (hG i H (Nat.le_refl _) p), hd H p⟩
theorem w_tuple {K : PySem.W.Frag} {σ : L2.St} {i : Nat} {H : Hp} {l : Addr} {xs : List V} {Q : VK} (hσ : σ[i]? = some (some (.ref l))) (hl : SqL K H l xs ∨ SqT K H l xs) (k : ∀ t H1, Same H H1 → SqT K H1 t xs → Q (.ref t) H1) :
    tCB (fun xs H Q => ∃ p ys, xs = [V.ref p] ∧ ((SqL K H p ys ∧ ∀ l, H l = none → Q (.ref l) (upd H l (.tup ys))) ∨ (SqT K H p ys ∧ Q (.ref p) H))) (tCons (tVar i) tNil) σ H Q := by
  refine ⟨_, hσ, ?_⟩
  rcases hl with h | h
  · exact ⟨l, xs, rfl, .inl ⟨h, fun t ht => k t _ (Same.new ht _) (SqT.of upd_same)⟩⟩
  · exact ⟨l, xs, rfl, .inr ⟨h, k l H (Same.refl _) h⟩⟩
theorem putK_len {κ : Type} [DecidableEq κ] (k : κ) (v : V) : ∀ kvs : List (κ × V), (putK kvs k v).length ≤ kvs.length + 1 := fun kvs => by
  unfold putK
  split
  · rw [List.length_map]; omega
  · rw [List.length_append]; exact Nat.le_refl _
/-- what Form.__init__ leaves: B is what stood ahead of the new instance at x -/
def FormEnd (K : PySem.W.Frag) (rs : List Rw) (xs : List V) (x dx : Addr) (B : Hp) (Q : VK) (E : XK) : Prop := match formF rs with
  | some f => ∀ cls d H', Same B H' → IsF K f cls d H' → E cls d H'
  | none => ∀ H' t d d2 kvs, Same B H' → H' x = some (.ins (He.ga K "Form") dx [("rows", .ref t), ("questions", .ref d), ("repeated", .ref d2)]) → SqT K H' t xs → H' d = some (.dK kvs) → Paired (QE K H') kvs (qsOf (Rws.flat rs none 0)) → Q .non H'
def spForm (K : PySem.W.Frag) (n : Nat) : Sp := fun vs H Q E => ∃ (x dx l : Addr) (xs : List V) (rs : List Rw) (B : Hp), vs = [.ref x, .ref l] ∧ Same B H ∧ B x = none ∧ (SqL K B l xs ∨ SqT K B l xs) ∧ ROs K B xs rs ∧ (∀ e ∈ Rws.flat rs none 0, RwB n e.1) ∧ Rws.dep rs < n + 7 ∧ Rws.cnt rs ≤ 900 ∧
  H x = some (.ins (He.ga K "Form") dx []) ∧ FormEnd K rs xs x dx B Q E
theorem Same.but2 {B H H' : Hp} {p : Addr} (e : Same B H) (h : But p H H') (hp : B p = none) : Same B H' := fun b o q => h b o (fun z => by rw [z, hp] at q; cases q) (e b o q)
section
variable {P : Program} {w : World} {K : PySem.W.Frag} {mg : Str → Option Value} {base : Heap}
theorem sc_Form : FnScope ["self", "rows", "laid", "row", "around"] ["self", "rows"] (defScope s_Form_init) := ⟨rfl, rfl, rfl, by decide +kernel, rfl, by decide +kernel, by decide +kernel⟩
theorem ok_Form (T : Tx K mg) (n : Nat) : Ok P w K mg base (n + 8) (He.ma K (He.ga K "Form") "__init__") ["self", "rows"] (spForm K n) := by
  obtain ⟨fd, F⟩ := T.f_Form_init
  refine ⟨fd, F.ok (k := n + 7) sc_Form (fun vs H Q E h => ?_) (fun cdv A outer s H vs Q E hr h => ?_), F.bindsN fun _ _ _ _ _ _ us hl => match us, hl with | [_, _], _ => rfl, F.kp⟩
  · obtain ⟨x, dx, l, xs, rs, B, rfl, _⟩ := h
    rfl
  obtain ⟨x, dx, l, xs, rs, B, rfl, e0, hBx, hl, hxs, hB, hdep, hcnt, hx, q⟩ := h
  refine ⟨_, pss_cons (ps_fld (pv 0) (pe_callTy call_tuple_of (by rfl) T.z_tuple (by decide +kernel) (pa_cons (pv 1) pa_nil)) rfl)
    (pss_cons (ps_set (i := 2) sc_Form.nd rfl (Or.inl rfl) (pe_lst pa_nil))
    (pss_cons (ps_expr (pe_fE (takes_of rfl rfl rfl rfl) (ok_lay_out T (n + 7)) hr T.g_lay_out (pa_cons (pe_fld (pv 0) rfl) (pa_cons pe_non (pa_cons (pv 2) pa_nil)))))
    (pss_cons (ps_if (pt_not (pt_chain op_le op_le pe_int (pe_callB call_len_seq (by rfl) T.z_len PySem.boot_len (pa_cons (pv 2) pa_nil)) (pe_gint T.i_MOST_ROWS)))
      (pss_one (ps_err2 (T.err (x := "BadCount") (by decide)) T.m_BadCount_init (ok_BadCount T) (hr.mono (by omega)) T.g_BadCount (takes_of rfl rfl rfl rfl) pe_str (pe_callB call_len_seq (by rfl) T.z_len PySem.boot_len (pa_cons (pv 2) pa_nil)))) pss_nil)
    (pss_cons (ps_expr (pe_fE (takes_of rfl rfl rfl rfl) (ok_check_rows T n) hr T.g_check_rows (pa_cons (pv 2) pa_nil)))
    (pss_cons (ps_fld (pv 0) (by exact pe_dc (own := [("row", 3), ("around", 4)]) (g := gTup K 2 (gCons (gName 3) (gCons (gName 4) gNil))) (tt := tB (tCall (spRB K Rw.isQ) [] E0 (tCons (tVar 3) tNil))) (tk := tFld K (tVar 3) "name") (tv := tVar 3) (by rfl) sc_Form.nd (pi_list (pv 2)) (blkOk_by (own := [("row", 3), ("around", 4)]) (N := ["self", "rows", "laid", "row", "around"]) (sc := defScope s_Form_init) (by decide +kernel)) (fun _ _ _ _ _ => pg_tup (by rfl) (pgs_cons (pg_name (i := 3) sc_Form.nd rfl (Or.inl rfl)) (pgs_cons (pg_name (i := 4) sc_Form.nd rfl (Or.inl rfl)) pgs_nil))) (fun _ _ _ _ _ => pts_one (pt_val (pe_f (ok_is_question T) (hr.mono (by omega)) T.g_is_question (pa_cons (pv 3) pa_nil)))) (fun _ _ _ _ _ => pe_fld (pv 3) rfl) (fun _ _ _ _ _ => pv 3)) rfl)
    (pss_one (ps_fld (pv 0) (by exact pe_dc (own := [("row", 3), ("around", 4)]) (g := gTup K 2 (gCons (gName 3) (gCons (gName 4) gNil))) (tt := tAnd (tB (tCall (spRB K Rw.isQ) [] E0 (tCons (tVar 3) tNil))) (tB (tNotN (tVar 4)))) (tk := tFld K (tVar 3) "name") (tv := tC (.bl true)) (by rfl) sc_Form.nd (pi_list (pv 2)) (blkOk_by (own := [("row", 3), ("around", 4)]) (N := ["self", "rows", "laid", "row", "around"]) (sc := defScope s_Form_init) (by decide +kernel)) (fun _ _ _ _ _ => pg_tup (by rfl) (pgs_cons (pg_name (i := 3) sc_Form.nd rfl (Or.inl rfl)) (pgs_cons (pg_name (i := 4) sc_Form.nd rfl (Or.inl rfl)) pgs_nil))) (fun _ _ _ _ _ => pts_one (pw_and (pt_val (pe_f (ok_is_question T) (hr.mono (by omega)) T.g_is_question (pa_cons (pv 3) pa_nil))) (pw_and1 (pt_cmp (pc_notN (pv 4))))).pt) (fun _ _ _ _ _ => pe_fld (pv 3) rfl) (fun _ _ _ _ _ => pe_bl)) rfl))))))), ?_⟩
  have lenF : (Rws.flat rs none 0).length = Rws.cnt rs := Rws.flat_len rs none 0
  walk_at "go"
  have hl0 : SqL K H l xs ∨ SqT K H l xs := hl.imp e0.seq e0.sqt
  refine w_tuple rfl hl0 fun t H1 e1 ht => ?_
  refine ⟨_, rfl, x, _, dx, _, rfl, e1 _ _ hx, T.cl_Form, T.n_Form_rows, (by show 0 < 1000; decide), ?_⟩
  have e2 : Same B (upd H1 x (.ins (He.ga K "Form") dx [("rows", .ref t)])) := (e0.trans e1).mut hBx
  have ht2 : SqT K (upd H1 x (.ins (He.ga K "Form") dx [("rows", .ref t)])) t xs := SqT.far (e1 _ _ hx) ht
  have hx2 : (upd H1 x (.ins (He.ga K "Form") dx [("rows", .ref t)])) x = some (.ins (He.ga K "Form") dx [("rows", .ref t)]) := upd_same
  show tSeq _ _ _ _ (upd H1 x (.ins (He.ga K "Form") dx [("rows", .ref t)]))
  generalize upd H1 x (.ins (He.ga K "Form") dx [("rows", .ref t)]) = H2 at e2 ht2 hx2
  walk_at "go"
  refine ⟨Nat.zero_le _, fun p hp => ?_⟩
  walk_at "go"
  have s3 : Same H2 (upd H2 p (.lst [])) := Same.new hp _
  refine ⟨x, _, dx, _, _, rfl, s3 _ _ hx2, T.cl_Form, T.n_Form_rows, rfl, ?_⟩
  walk_at "go"
  have hBp : B p = none := e2.free hp
  refine ⟨t, p, none, xs, [], rs, rfl, s3.sqt ht2, hxs.same (e2.trans s3), hdep, upd_same, ?_, fun H3 zs b3 h3 la => ?_⟩
  · show 0 + Rws.cnt rs ≤ 1000
    omega
  have e3 : Same B H3 := K3.Same.but2 (e2.trans s3) b3 hBp
  have npx : x ≠ p := fun z => by rw [z, hp] at hx2; cases hx2
  have hx3 : H3 x = some (.ins (He.ga K "Form") dx [("rows", .ref t)]) := b3 _ _ npx (s3 _ _ hx2)
  have ht3 : SqT K H3 t xs := (b3.si upd_same).sqt (s3.sqt ht2)
  have h3 : H3 p = some (.lst zs) := h3
  have la : LA K H3 zs (Rws.flat rs none 0) := la
  have lz : zs.length = Rws.cnt rs := by rw [la.length, lenF]
  walk_at "go"
  refine ⟨p, zs, rfl, .inl (SqL.of h3), ?_⟩
  walk_at "go"
  rw [lz]
  have bad : ¬ (1 ≤ Rws.cnt rs ∧ Rws.cnt rs ≤ 40) → gErr2 K "BadCount" "what" "count" (.str "rows") (.int (Rws.cnt rs : Int)) H3 fun cls d H' => E cls d H' := fun c => by
    have ef : formF rs = some (.count "rows" (Rws.cnt rs)) := if_neg c
    unfold FormEnd at q
    rw [ef] at q
    exact gErr2_of fun dd H4 e4 h4 => q _ _ H4 (e3.trans e4) ⟨rfl, dd, rfl, h4⟩
  by_cases c1 : (1 : Int) ≤ (Rws.cnt rs : Int)
  · rw [decide_eq_true c1]
    walk_at "go"
    by_cases c2 : (Rws.cnt rs : Int) ≤ 40
    · rw [decide_eq_true c2]
      walk_at "go"
      have ef : formF rs = ckRows [] (Rws.flat rs none 0) := if_pos ⟨by omega, by omega⟩
      refine ⟨p, zs, _, rfl, h3, la, hB, by rw [lenF]; omega, ?_⟩
      unfold FormEnd at q
      rw [ef] at q
      cases hck : ckRows [] (Rws.flat rs none 0) with
      | some f =>
        rw [hck] at q
        exact fun cls d H' e4 hf => q cls d H' (e3.trans e4) hf
      | none =>
        rw [hck] at q
        intro H4 e4
        have h4 := e4 _ _ h3
        have la4 := LA.si e4.si la
        walk_at "go"
        refine ⟨_, rfl, p, rfl, ⟨_, SqL.of h4⟩, fun d hd => ?_⟩
        refine dc_any (walk_list (K := K) (a := p) (xs := zs)) (fun (i : Nat) H' => Same H4 H' ∧ ∃ kvs, H' d = some (.dK kvs) ∧ kvs.length ≤ i ∧ Paired (QE K H') kvs (qsOf ((Rws.flat rs none 0).take i))) ⟨Same.new hd _, [], upd_same, Nat.le_refl _, .nil⟩ (fun i H' _ z => SqL.of (z.1 _ _ h4)) ?_ ?_
        · rintro i v _ H5 hi ⟨e5, kvs, hk, hki, hp5⟩ ⟨rfl, hv⟩
          obtain ⟨⟨r, ar⟩, hc1, u, y, rfl, hu, hy⟩ := K3.Paired.get la4 hv
          refine ⟨u, _, rfl, SqT.of (e5 _ _ hu), rfl, _, _, rfl, ?_⟩
          walk_at "go"
          refine ⟨_, _, rfl, ?_⟩
          walk_at "go"
          refine ⟨rfl, rfl, ?_⟩
          walk_at "go"
          have hy5 : RO K H5 y r := RO.same e5 hy
          refine ⟨y, r, rfl, hy5, fun H6 e6 => ?_⟩
          have tkq : qsOf ((Rws.flat rs none 0).take (i + 1)) = qsOf ((Rws.flat rs none 0).take i) ++ (if r.isQ then [r] else []) := by
            rw [List.take_add_one, hc1]
            unfold qsOf
            rw [List.filterMap_append]
            congr 1
            cases hr : r.isQ <;> simp [hr]
          have hy6 := RO.same e6 hy5
          have hp6 : Paired (QE K H6) kvs (qsOf ((Rws.flat rs none 0).take i)) := L2.Paired.mapP hp5 fun _ _ z => ⟨z.1, RO.same e6 z.2⟩
          cases hq : r.isQ with
          | false =>
            rw [hq] at tkq
            walk_at "go"
            refine ⟨e5.trans e6, kvs, e6 _ _ hk, by omega, ?_⟩
            rw [tkq, if_neg Bool.false_ne_true, List.append_nil]
            exact hp6
          | true =>
            rw [hq] at tkq
            obtain ⟨a, dx2, fs, rfl, hia, hcl, hna, hlk⟩ := ro_name T hy6 (isQ_isN hq)
            walk_at "go"
            refine ⟨a, _, dx2, fs, _, rfl, hia, hcl, hna, hlk, ?_⟩
            walk_at "go"
            have hk6 := e6 _ _ hk
            refine ⟨kvs, Sum.inr r.name, rfl, hk6, Nat.lt_of_le_of_lt (show kvs.length ≤ 1000 by omega) (by decide), ?_⟩
            have hnew : valV kvs (Sum.inr r.name) = none := by
              refine val_qe hp6 fun r' hr' => ?_
              obtain ⟨e, he, hn'⟩ := qs_al hr'
              have := look_all (ck_drop hck hc1 (isQ_isN hq)) e (by rw [List.nil_append]; exact he)
              rw [← hn']
              exact this
            have hput : putK kvs (Sum.inr r.name) (.ref a) = kvs ++ [(Sum.inr r.name, .ref a)] := by
              unfold putK
              rw [valV_any, hnew, if_neg (by decide)]
            rw [hput]
            have si := SI.upd hk6 rfl (.dK (kvs ++ [(Sum.inr r.name, V.ref a)]))
            refine ⟨(e5.trans e6).mut hd, _, upd_same, by rw [List.length_append]; exact Nat.succ_le_succ hki, ?_⟩
            rw [tkq, if_pos rfl]
            exact K3.Paired.app (L2.Paired.mapP hp6 fun _ _ z => ⟨z.1, RO.si si z.2⟩) (.cons ⟨rfl, RO.si si hy6⟩ .nil)
        · rintro H5 ⟨e5, kvs, hk, hki, hp5⟩
          rw [lz, ← lenF, List.take_length] at hp5
          have e45 := e4.trans e5
          refine ⟨_, rfl, x, _, dx, _, rfl, e45 _ _ hx3, T.cl_Form, T.n_Form_questions, (by show 1 < 1000; decide), ?_⟩
          have ndx : d ≠ x := fun z => by rw [z, e4 _ _ hx3] at hd; cases hd
          have hx5 := e45 _ _ hx3
          have sx : ∀ b o, b ≠ x → H5 b = some o → (upd H5 x (.ins (He.ga K "Form") dx [("rows", .ref t), ("questions", .ref d)])) b = some o := fun b o hb h => by rw [upd_ne hb]; exact h
          have hx6 : (upd H5 x (.ins (He.ga K "Form") dx [("rows", .ref t), ("questions", .ref d)])) x = some (.ins (He.ga K "Form") dx [("rows", .ref t), ("questions", .ref d)]) := upd_same
          have e6 : Same B (upd H5 x (.ins (He.ga K "Form") dx [("rows", .ref t), ("questions", .ref d)])) := (e3.trans e45).mut hBx
          have ht6 : SqT K (upd H5 x (.ins (He.ga K "Form") dx [("rows", .ref t), ("questions", .ref d)])) t xs := SqT.far (e45 _ _ hx3) (e45.sqt ht3)
          have hk6 := sx _ _ ndx hk
          have sx2 : SI H5 (upd H5 x (.ins (He.ga K "Form") dx [("rows", .ref t), ("questions", .ref d)])) := SI.upd (e45 _ _ hx3) rfl _
          have hp6 : Paired (QE K (upd H5 x (.ins (He.ga K "Form") dx [("rows", .ref t), ("questions", .ref d)]))) kvs (qsOf (Rws.flat rs none 0)) := L2.Paired.mapP hp5 fun _ _ z => ⟨z.1, RO.si sx2 z.2⟩
          have h6 := sx _ _ npx.symm (e45 _ _ h3)
          have la6 := LA.si (e45.si.trans sx2) la
          rw [show putF ("questions" : Str) (V.ref d) [(("rows" : Str), V.ref t)] = [(("rows" : Str), V.ref t), (("questions" : Str), V.ref d)] from rfl]
          generalize upd H5 x (.ins (He.ga K "Form") dx [("rows", V.ref t), ("questions", .ref d)]) = H6 at hx6 e6 ht6 hk6 hp6 h6 la6 ⊢
          walk_at "go"
          refine ⟨_, rfl, p, rfl, ⟨_, SqL.of h6⟩, fun d2 hd2 => ?_⟩
          refine dc_any (walk_list (K := K) (a := p) (xs := zs)) (fun (i : Nat) H' => Same H6 H' ∧ ∃ kv2, H' d2 = some (.dK kv2) ∧ kv2.length ≤ i) ⟨Same.new hd2 _, [], upd_same, Nat.le_refl _⟩ (fun i H' _ z => SqL.of (z.1 _ _ h6)) ?_ ?_
          · rintro i v _ H7 hi ⟨e7, kv2, hk2, hki2⟩ ⟨rfl, hv⟩
            obtain ⟨⟨r, ar⟩, hc1, u, y, rfl, hu, hy⟩ := K3.Paired.get la6 hv
            refine ⟨u, _, rfl, SqT.of (e7 _ _ hu), rfl, _, _, rfl, ?_⟩
            walk_at "go"
            refine ⟨_, _, rfl, ?_⟩
            walk_at "go"
            refine ⟨rfl, rfl, ?_⟩
            walk_at "go"
            have hy7 : RO K H7 y r := RO.same e7 hy
            refine ⟨y, r, rfl, hy7, fun H8 e8 => ?_⟩
            have hy8 := RO.same e8 hy7
            cases hq : r.isQ with
            | false =>
              walk_at "go"
              exact ⟨e7.trans e8, kv2, e8 _ _ hk2, by omega⟩
            | true =>
              walk_at "go"
              have no : (!decide (oV ar = V.non)) = ar.isSome := by cases ar <;> rfl
              rw [no]
              cases har : ar.isSome with
              | false =>
                walk_at "go"
                exact ⟨e7.trans e8, kv2, e8 _ _ hk2, by omega⟩
              | true =>
                obtain ⟨a, dx2, fs, rfl, hia, hcl, hna, hlk⟩ := ro_name T hy8 (isQ_isN hq)
                walk_at "go"
                refine ⟨a, _, dx2, fs, _, rfl, hia, hcl, hna, hlk, ?_⟩
                walk_at "go"
                have hk8 := e8 _ _ hk2
                refine ⟨kv2, Sum.inr r.name, rfl, hk8, Nat.lt_of_le_of_lt (show kv2.length ≤ 1000 by omega) (by decide), ?_⟩
                refine ⟨(e7.trans e8).mut hd2, _, upd_same, Nat.le_trans (putK_len _ _ _) (Nat.succ_le_succ hki2)⟩
          · rintro H7 ⟨e7, kv2, hk2, hki2⟩
            refine ⟨_, rfl, x, _, dx, _, rfl, e7 _ _ hx6, T.cl_Form, T.n_Form_repeated, (by show 2 < 1000; decide), ?_⟩
            have sx7 : SI H7 (upd H7 x (.ins (He.ga K "Form") dx [("rows", .ref t), ("questions", .ref d), ("repeated", .ref d2)])) := SI.upd (e7 _ _ hx6) rfl _
            refine q _ t d d2 kvs ((e6.trans e7).mut hBx) upd_same (SqT.far (e7 _ _ hx6) (e7.sqt ht6)) (by rw [upd_ne ndx]; exact e7 _ _ hk6) ?_
            exact L2.Paired.mapP hp6 fun _ _ z => ⟨z.1, RO.si (e7.si.trans sx7) z.2⟩
    · rw [decide_eq_false c2]
      walk_at "go"
      refine w_err2 ?_
      walk_at "go"
      refine ⟨p, zs, rfl, .inl (SqL.of h3), ?_⟩
      rw [lz]
      exact bad (by omega)
  · rw [decide_eq_false c1]
    walk_at "go"
    refine w_err2 ?_
    walk_at "go"
    refine ⟨p, zs, rfl, .inl (SqL.of h3), ?_⟩
    rw [lz]
    exact bad (by omega)
end
end K3
end P13_part
section L1_part
set_option Elab.async false
set_option linter.all false
set_option maxRecDepth 100000
set_option maxHeartbeats 1000000
set_option pp.deepTerms.threshold 5
open PySem PySem.Spec PyProof.Rows L2
/-- go on as far as nothing is open -/
local macro_rules | `(tactic| walk_at "go") => `(tactic| repeat (first
  | with_reducible refine w_seq ?_ | with_reducible refine w_next ?_ | with_reducible refine w_set ?_ | with_reducible refine w_drop ?_ | with_reducible refine w_ret ?_ | with_reducible refine w_retN ?_
  | with_reducible refine w_if ?_ | ((with_reducible refine' w_var ?hv ?_); (case hv => exact rfl)) | with_reducible refine w_c ?_ | with_reducible refine w_nil ?_ | with_reducible refine w_cons ?_ | with_reducible refine w_op ?_ | with_reducible refine w_un ?_
  | with_reducible refine w_test ?_ | with_reducible refine w_tB ?_ | with_reducible refine w_not ?_ | with_reducible refine w_and ?_ | with_reducible refine w_or ?_ | with_reducible refine w_bl ?_
  | with_reducible refine w_andV ?_ | with_reducible refine w_orV ?_ | with_reducible refine w_notV ?_ | with_reducible refine w_ifE ?_ | with_reducible refine w_chain ?_ | with_reducible refine w_i0 ?_
  | with_reducible refine w_call ?_ | with_reducible refine w_callS ?_ | with_reducible refine w_cB ?_ | with_reducible refine w_tup ?_ | with_reducible refine w_lst ?_ | with_reducible refine w_fldV ?_
  | with_reducible refine w_neF ?_ | with_reducible refine w_neT ?_ | with_reducible refine w_notN ?_ | with_reducible refine w_isN ?_ | with_reducible refine w_gname ?_ | with_reducible refine w_gsub ?_ | with_reducible refine w_asg ?_ | with_reducible refine w_yes ?_ | with_reducible refine w_nT ?_ | with_reducible refine w_nF ?_ | with_reducible refine w_iteT ?_ | with_reducible refine w_iteF ?_))
namespace K3
/-! ### heaps less what may change -/
def less (H : Hp) (M : List Addr) : Hp := fun b => if b ∈ M then none else H b
/-- all stands, what is in M perhaps changed -/
def BM (M : List Addr) (H H' : Hp) : Prop := ∀ b o, H b = some o → ∃ o', H' b = some o' ∧ (b ∉ M → o' = o)
theorem BM.refl (M : List Addr) (H : Hp) : BM M H H := fun _ o h => ⟨o, h, fun _ => rfl⟩
theorem BM.trans {M : List Addr} {H H1 H2 : Hp} (a : BM M H H1) (b : BM M H1 H2) : BM M H H2 := fun c o h => by
  obtain ⟨o1, h1, k1⟩ := a c o h
  obtain ⟨o2, h2, k2⟩ := b c o1 h1
  exact ⟨o2, h2, fun k => (k2 k).trans (k1 k)⟩
theorem BM.at {M : List Addr} {H H1 : Hp} (a : BM M H H1) {b : Addr} {o : HO} (h : H b = some o) (k : b ∉ M) : H1 b = some o := by
  obtain ⟨o1, h1, k1⟩ := a b o h
  rw [h1, k1 k]
theorem BM.of {M : List Addr} {H H1 : Hp} (a : Same H H1) : BM M H H1 := fun c o h => ⟨o, a c o h, fun _ => rfl⟩
theorem BM.mono {M N : List Addr} {H H1 : Hp} (a : BM M H H1) (s : ∀ b ∈ M, b ∈ N) : BM N H H1 := fun c o h => by
  obtain ⟨o1, h1, k1⟩ := a c o h
  exact ⟨o1, h1, fun k => k1 fun z => k (s c z)⟩
theorem BM.upd {M : List Addr} {H : Hp} {p : Addr} (hp : p ∈ M) (o : HO) : BM M H (upd H p o) := fun b u h => by
  by_cases c : b = p
  · exact ⟨o, by rw [c]; exact upd_same, fun k => absurd (by rw [c]; exact hp) k⟩
  · exact ⟨u, by rw [upd_ne c]; exact h, fun _ => rfl⟩
theorem BM.less {M : List Addr} {H H1 : Hp} (a : BM M H H1) : Same (less H M) (less H1 M) := fun b o h => by
  unfold K3.less at h ⊢
  by_cases c : b ∈ M
  · rw [if_pos c] at h; cases h
  · rw [if_neg c] at h ⊢
    exact a.at h c
theorem BM.free {M : List Addr} {H H1 : Hp} (h : BM M H H1) {p : Addr} (hp : H1 p = none) : H p = none := by
  cases e : H p with
  | none => rfl
  | some o =>
    obtain ⟨o1, h1, _⟩ := h p o e
    rw [hp] at h1
    cases h1
theorem less_at {H : Hp} {M : List Addr} {b : Addr} {o : HO} (h : less H M b = some o) : H b = some o ∧ b ∉ M := by
  unfold less at h
  by_cases c : b ∈ M
  · rw [if_pos c] at h; cases h
  · rw [if_neg c] at h; exact ⟨h, c⟩
theorem less_of {H : Hp} {M : List Addr} {b : Addr} {o : HO} (h : H b = some o) (c : b ∉ M) : less H M b = some o := by
  unfold less
  rw [if_neg c]
  exact h
theorem less_same {H : Hp} {M : List Addr} : Same (less H M) H := fun b o h => (less_at h).1
/-- all of M is there -/
def In (M : List Addr) (H : Hp) : Prop := ∀ m ∈ M, ∃ o, H m = some o
theorem In.new {M : List Addr} {H : Hp} {p : Addr} (h : In M H) (hp : H p = none) : p ∉ M := fun z => by obtain ⟨o, e⟩ := h p z; rw [hp] at e; cases e
theorem In.bm {M N : List Addr} {H H' : Hp} (h : In M H) (e : BM N H H') : In M H' := fun m hm => by
  obtain ⟨o, q⟩ := h m hm
  obtain ⟨o', q', _⟩ := e m o q
  exact ⟨o', q'⟩
/-- the source of draws -/
def Src (H : Hp) (s : Addr) : Prop := ∃ a b c : Int, H s = some (.lst [.int a, .int b, .int c])
theorem Src.bm {M : List Addr} {H H' : Hp} {s : Addr} (h : Src H s) (e : BM M H H') (k : s ∉ M) : Src H' s := let ⟨a, b, c, q⟩ := h; ⟨a, b, c, e.at q k⟩
theorem Src.same {H H' : Hp} {s : Addr} (h : Src H s) (e : Same H H') : Src H' s := let ⟨a, b, c, q⟩ := h; ⟨a, b, c, e _ _ q⟩
/-- a text so many times -/
def rRepS : R2 := fun x y H Q => ∃ (z : Str) (k : Int), x = .str z ∧ y = .int k ∧ 0 ≤ k ∧ k ≤ 1 ∧ Q (.str (if k = 1 then z else Str.empty)) H
theorem op_repS {X : Cx} : OpR X (binaryOp .Mult) rRepS := by
  intro pins s σ H x y v u Q I rx ry h
  obtain ⟨z, k, rfl, rfl, h0, h1, q⟩ := h
  obtain ⟨t, rfl⟩ := rx
  obtain ⟨t', rfl⟩ := ry
  have e : Txt.mul z k = if k = 1 then z else Str.empty := by
    unfold Txt.mul
    by_cases c : k = 1
    · subst c
      simp
    · have : k = 0 := by omega
      subst this
      simp
  refine SB.mul (n := k) ⟨?_, fun h2 h3 => ?_, fun h2 h3 => ?_⟩ fun t2 k2 => ⟨.str (if k = 1 then z else Str.empty), H, I.tok _, ?_, q⟩
  · simp only [Bool.or_eq_false_iff, decide_eq_false_iff_not]
    omega
  · have : k = 1 := by omega
    subst this
    simp at h3
  · have : k = 1 := by omega
    subst this
    simp at h3
  · rw [e]
    exact ⟨_, rfl⟩
def spTake (K : PySem.W.Frag) : Sp := fun vs H Q _ => ∃ (s : Addr) (m : Int), vs = [.ref s, .int m] ∧ Src H s ∧ 0 < m ∧ m < 2 ^ 64 ∧ ∀ r H', 0 ≤ r → r < m → BM [s] H H' → Src H' s → Q (.int r) H'
def spSource (K : PySem.W.Frag) : Sp := fun vs H Q _ => ∃ c : Int, vs = [.int c] ∧ ∀ p H', H p = none → Same H H' → Src H' p → Q (.ref p) H'
section
variable {P : Program} {w : World} {K : PySem.W.Frag} {mg : Str → Option Value} {base : Heap}
theorem sc_source : FnScope ["_law_cell"] ["_law_cell"] (defScope s__law_source) := ⟨rfl, rfl, rfl, by decide +kernel, rfl, by decide +kernel, by decide +kernel⟩
theorem ok_source (T : Tx K mg) : Ok P w K mg base 1 (He.ga K "_law_source") ["_law_cell"] (spSource K) := by
  obtain ⟨fd, F⟩ := T.f__law_source
  refine ⟨fd, F.ok sc_source (fun vs H Q E h => ?_) (fun cdv A outer s H vs Q E hr h => ?_), F.bindsN fun _ _ _ _ _ _ us hl => match us, hl with | [_], _ => rfl, F.kp⟩
  · obtain ⟨c, rfl, _⟩ := h
    rfl
  obtain ⟨c, rfl, q⟩ := h
  refine ⟨_, pss_one (ps_ret (pe_lst (pa_cons (pe_callB call_abs (by rfl) T.z_abs (by decide +kernel) (pa_cons (pv 0) pa_nil)) (pa_cons (pe_op op_mod (pv 0) pe_int) (pa_cons pe_int pa_nil))))), ?_⟩
  walk_at "go"
  refine ⟨c, rfl, ?_⟩
  walk_at "go"
  refine w_i (by decide) ?_
  walk_at "go"
  exact ⟨(by show 3 ≤ sizeLine; decide), fun p hp => q p _ hp (Same.new hp _) ⟨_, _, _, upd_same⟩⟩
theorem sc_take : FnScope ["_law_source_here", "_law_many", "_law_found", "_law_number"] ["_law_source_here", "_law_many"] (defScope s__law_take) := ⟨rfl, rfl, rfl, by decide +kernel, rfl, by decide +kernel, by decide +kernel⟩
theorem ok_take (T : Tx K mg) : Ok P w K mg base 1 (He.ga K "_law_take") ["_law_source_here", "_law_many"] (spTake K) := by
  obtain ⟨fd, F⟩ := T.f__law_take
  refine ⟨fd, F.ok sc_take (fun vs H Q E h => ?_) (fun cdv A outer s H vs Q E hr h => ?_), F.bindsN fun _ _ _ _ _ _ us hl => match us, hl with | [_, _], _ => rfl, F.kp⟩
  · obtain ⟨s, m, rfl, _⟩ := h
    rfl
  obtain ⟨s, m, rfl, ⟨a, b, c, hs⟩, m0, m1, q⟩ := h
  refine ⟨_, pss_cons (ps_if (pt_cmpR op_ge (pe_ix ix_list (pv 0) pe_int (fun _ _ => rfl)) (pe_op op_pow pe_int pe_int) (nomark _))
      (pss_cons (ps_set (i := 2) sc_take.nd rfl (Or.inl rfl) (pe_op op_mod (pe_ix ix_list (pv 0) pe_int (fun _ _ => rfl)) (pv 1)))
      (pss_cons (ps_asg (pe_op op_fdivW (pe_ix ix_list (pv 0) pe_int (fun _ _ => rfl)) (pv 1)) (pg_sub (pv 0) pe_int set_list))
      (pss_one (ps_ret (pv 2))))) pss_nil)
    (pss_cons (ps_asg (pe_op op_add (pe_ix ix_list (pv 0) pe_int (fun _ _ => rfl)) pe_int) (pg_sub (pv 0) pe_int set_list))
    (pss_cons (ps_set (i := 3) sc_take.nd rfl (Or.inl rfl) (pe_op op_mod (pe_op op_mul (pe_op op_add (pe_op op_add (pe_ix ix_list (pv 0) pe_int (fun _ _ => rfl)) (pe_op op_mul pe_int (pe_ix ix_list (pv 0) pe_int (fun _ _ => rfl)))) pe_int) pe_int) pe_int))
    (pss_cons (ps_set (i := 3) sc_take.nd rfl (Or.inl rfl) (pe_op op_mod (pe_op op_mul (pv 3) (pe_op op_add (pe_op op_fdiv (pv 3) pe_int) pe_int)) pe_int))
    (pss_one (ps_ret (pe_op op_mod (pe_op op_mod (pe_op op_add (pe_op op_fdiv (pv 3) pe_int) (pe_op op_mul (pe_op op_mod (pv 3) pe_int) pe_int)) pe_int) (pv 1))))))), ?_⟩
  have dv : CDivW a m := wide_div (b := 64) m0 (by omega) (by decide) (by decide)
  walk_at "go"
  refine w_ixL hs rfl ?_
  walk_at "go"
  refine w_i (by refine ⟨?_, ?_, ?_⟩ <;> decide) ?_
  walk_at "go"
  by_cases c0 : (10 : Int) ^ (18 : Int).toNat ≤ a
  · rw [decide_eq_true c0]
    walk_at "go"
    refine w_ixL hs rfl ?_
    walk_at "go"
    refine w_i m0 ?_
    walk_at "go"
    refine w_ixL hs rfl ?_
    walk_at "go"
    refine w_i dv ?_
    walk_at "go"
    refine w_setL hs rfl ?_
    walk_at "go"
    exact q _ _ (Int.emod_nonneg _ (by omega)) (Int.emod_lt_of_pos _ m0) (BM.upd (List.mem_singleton.mpr rfl) _) ⟨_, _, _, upd_same⟩
  · rw [decide_eq_false c0]
    walk_at "go"
    refine w_ixL hs rfl ?_
    walk_at "go"
    refine w_setL hs rfl ?_
    have hs2 : (upd H s (.lst ([V.int a, V.int b, V.int c].set 2 (V.int (c + 1))))) s = some (.lst [.int a, .int b, .int (c + 1)]) := upd_same
    have e2 : BM [s] H (upd H s (.lst ([V.int a, V.int b, V.int c].set 2 (V.int (c + 1))))) := BM.upd (List.mem_singleton.mpr rfl) _
    show tSeq _ _ _ _ (upd H s (.lst ([V.int a, V.int b, V.int c].set 2 (V.int (c + 1)))))
    generalize upd H s (.lst ([V.int a, V.int b, V.int c].set 2 (V.int (c + 1)))) = H2 at hs2 e2
    walk_at "go"
    refine w_ixL hs2 rfl ?_
    walk_at "go"
    refine w_ixL hs2 rfl ?_
    walk_at "go"
    refine w_i (.inl (by decide)) ?_
    walk_at "go"
    refine w_i (.inr (by decide)) ?_
    walk_at "go"
    refine w_i (by decide) ?_
    walk_at "go"
    generalize hn : (b + 7919 * (c + 1) + 1) * 48271 % 2147483647 = num
    have hn0 : 0 ≤ num := by rw [← hn]; exact Int.emod_nonneg _ (by decide)
    have hn1 : num < 2147483647 := by rw [← hn]; exact Int.emod_lt_of_pos _ (by decide)
    walk_at "go"
    refine w_i (by refine ⟨?_, ?_⟩ <;> decide) ?_
    walk_at "go"
    refine w_i (.inl ⟨by omega, by omega⟩) ?_
    walk_at "go"
    refine w_i (by decide) ?_
    walk_at "go"
    refine w_i (by refine ⟨?_, ?_⟩ <;> decide) ?_
    walk_at "go"
    refine w_i (by decide) ?_
    walk_at "go"
    refine w_i (.inr (by decide)) ?_
    walk_at "go"
    refine w_i (by decide) ?_
    walk_at "go"
    refine w_i m0 ?_
    exact q _ _ (Int.emod_nonneg _ (by omega)) (Int.emod_lt_of_pos _ m0) e2 ⟨_, _, _, hs2⟩
end
end K3
end L1_part
section W2_part
set_option Elab.async false
set_option linter.all false
set_option maxRecDepth 100000
set_option maxHeartbeats 0
namespace L2
open PySem PySem.Spec PyProof.Rows
section
variable {σ : St} {H : Hp} {te : TE} {tl th : TO} {Q : VK} {QO : Option Int → Hp → Prop} {r : V → Option Int → Option Int → Hp → VK → Prop}
theorem w_sl (h : te σ H fun x H1 => tl σ H1 fun l H2 => th σ H2 fun u H3 => r x l u H3 Q) : tSl r te tl th σ H Q := h
theorem w_noP (h : QO none H) : tNoPart σ H QO := h
theorem w_part (h : te σ H fun x H1 => ∃ i, x = .int i ∧ QO (some i) H1) : tPart te σ H QO := h
theorem w_int1 {i : Int} {P : Int → Prop} (h : P i) : ∃ j, V.int i = .int j ∧ P j := ⟨i, rfl, h⟩
end
end L2
end W2_part
section L2a_part
set_option Elab.async false
set_option linter.all false
set_option maxRecDepth 100000
set_option maxHeartbeats 1000000
set_option pp.deepTerms.threshold 5
open PySem PySem.Spec PyProof.Rows L2
/-- go on as far as nothing is open -/
local macro_rules | `(tactic| walk_at "go") => `(tactic| repeat (first
  | with_reducible refine w_seq ?_ | with_reducible refine w_next ?_ | with_reducible refine w_set ?_ | with_reducible refine w_drop ?_ | with_reducible refine w_ret ?_ | with_reducible refine w_retN ?_
  | with_reducible refine w_if ?_ | ((with_reducible refine' w_var ?hv ?_); (case hv => exact rfl)) | with_reducible refine w_c ?_ | with_reducible refine w_nil ?_ | with_reducible refine w_cons ?_ | with_reducible refine w_op ?_ | with_reducible refine w_un ?_
  | with_reducible refine w_test ?_ | with_reducible refine w_tB ?_ | with_reducible refine w_not ?_ | with_reducible refine w_and ?_ | with_reducible refine w_or ?_ | with_reducible refine w_bl ?_
  | with_reducible refine w_andV ?_ | with_reducible refine w_orV ?_ | with_reducible refine w_notV ?_ | with_reducible refine w_ifE ?_ | with_reducible refine w_chain ?_ | with_reducible refine w_i0 ?_
  | with_reducible refine w_call ?_ | with_reducible refine w_callS ?_ | with_reducible refine w_cB ?_ | with_reducible refine w_tup ?_ | with_reducible refine w_lst ?_ | with_reducible refine w_fldV ?_
  | with_reducible refine w_neF ?_ | with_reducible refine w_neT ?_ | with_reducible refine w_notN ?_ | with_reducible refine w_isN ?_ | with_reducible refine w_gname ?_ | with_reducible refine w_gsub ?_ | with_reducible refine w_asg ?_ | with_reducible refine w_sl ?_ | with_reducible refine w_noP ?_ | with_reducible refine w_int1 ?_ | with_reducible refine w_part ?_ | with_reducible refine w_yes ?_ | with_reducible refine w_nT ?_ | with_reducible refine w_nF ?_ | with_reducible refine w_iteT ?_ | with_reducible refine w_iteF ?_))
namespace K3
theorem BM.mut {M : List Addr} {H H' : Hp} {p : Addr} (e : BM M H H') (hp : H p = none) (o : HO) : BM M H (L2.upd H' p o) := fun b u h => by
  obtain ⟨o1, h1, k1⟩ := e b u h
  exact ⟨o1, by rw [upd_ne (ne_of_none h hp)]; exact h1, k1⟩
theorem BM.same {M : List Addr} {H H1 H2 : Hp} (a : BM M H H1) (b : Same H1 H2) : BM M H H2 := a.trans (BM.of b)
theorem at_in {α : Type} {l : List α} {i : Int} (h0 : 0 ≤ i) (h : i < (l.length : Int)) : ∃ c, atI l i = some c ∧ c ∈ l := by
  have hk : i.toNat < l.length := by omega
  refine ⟨l[i.toNat], ?_, List.getElem_mem hk⟩
  have e : ((i.toNat : Nat) : Int) = i := by omega
  have q : atI l ((i.toNat : Nat) : Int) = some l[i.toNat] := atI_nat (List.getElem?_eq_getElem hk)
  rw [e] at q
  exact q
theorem len_app (a b : Str) : (a ++ b).length = a.length + b.length := by
  show (a.cps ++ b.cps).size = _
  rw [Array.size_append] <;> rfl
/-- a sign of a text, at a place that it has -/
theorem w_ixS {z : Str} {i : Int} {H : Hp} {Q : VK} (h0 : 0 ≤ i) (h : i < (z.length : Int)) (hz : z.length ≤ 1000) (q : ∀ c : Nat, Q (.str ⟨#[c]⟩) H) : rIxS (.str z) (.int i) H Q := by
  obtain ⟨c, hc, _⟩ := at_in (l := z.cps.toList) h0 (by rw [Array.length_toList]; exact h)
  exact ⟨z, i, c, rfl, rfl, Nat.le_trans hz (by decide), hc, q c⟩
theorem w_addS {a b : Str} {H : Hp} {Q : VK} (h : a.length + b.length ≤ 1000) (q : Q (.str (a ++ b)) H) : ∃ i j, V.str a = .str i ∧ V.str b = .str j ∧ i.length + j.length ≤ sizeLine ∧ Q (.str (i ++ j)) H := ⟨a, b, rfl, rfl, Nat.le_trans h (by decide), q⟩
theorem sz_1000 {n : Nat} (h : n ≤ 1000) : n ≤ sizeLine := Nat.le_trans h (by decide)
theorem w_slS {z : Str} {lo hi : Option Int} {H : Hp} {Q : VK} (h : z.length ≤ 1000) (q : Q (.str (cutS z lo hi)) H) : rSlS (.str z) lo hi H Q := ⟨z, rfl, Nat.le_trans h (by decide), q⟩
/-- a new list of so many texts -/
def RetN (s : Addr) (m : Nat) (H : Hp) (Q : VK) : Prop := ∀ p H' (ns : List Str), H p = none → BM [s] H H' → Src H' s → H' p = some (.lst (ns.map V.str)) → ns.length = m → (∀ n ∈ ns, n.length ≤ 100) → Q (.ref p) H'
def spNames (K : PySem.W.Frag) : Sp := fun vs H Q _ => ∃ (s : Addr) (m : Nat), vs = [.ref s, .int (m : Int)] ∧ Src H s ∧ m ≤ 100 ∧ RetN s m H Q
def words5 : List V := [.str "where", .str "must", .str "and", .str "or", .str "not"]
section
variable {P : Program} {w : World} {K : PySem.W.Frag} {mg : Str → Option Value} {base : Heap}
theorem sc_names : FnScope ["_law_source_here", "_law_many", "_law_small", "_law_begin", "_law_stem", "_law_k", "_law_at", "_law_found", "_law_some"] ["_law_source_here", "_law_many"] (defScope s__law_names) := ⟨rfl, rfl, rfl, by decide +kernel, rfl, by decide +kernel, by decide +kernel⟩
theorem ok_names (T : Tx K mg) : Ok P w K mg base 2 (He.ga K "_law_names") ["_law_source_here", "_law_many"] (spNames K) := by
  obtain ⟨fd, F⟩ := T.f__law_names
  refine ⟨fd, F.ok sc_names (fun vs H Q E h => ?_) (fun cdv A outer s H vs Q E hr h => ?_), F.bindsN fun _ _ _ _ _ _ us hl => match us, hl with | [_, _], _ => rfl, F.kp⟩
  · obtain ⟨s, m, rfl, _⟩ := h
    rfl
  obtain ⟨s, m, rfl, hs, hm, q⟩ := h
  have O := ok_take (P := P) (w := w) (base := base) T
  refine ⟨_, pss_cons (ps_set (i := 2) sc_names.nd rfl (Or.inl rfl) pe_str)
    (pss_cons (ps_set (i := 3) sc_names.nd rfl (Or.inl rfl) (pe_f O hr T.g__law_take (pa_cons (pv 0) (pa_cons pe_int pa_nil))))
    (pss_cons (ps_set (i := 4) sc_names.nd rfl (Or.inl rfl) (pe_ix ix_str (pv 2) (pe_f O hr T.g__law_take (pa_cons (pv 0) (pa_cons pe_int pa_nil))) (fun _ _ => rfl)))
    (pss_cons (ps_for (passes_of rfl) rfl (pi_range1 rfl T.z_range (pa_cons pe_int pa_nil)) (pg_name (i := 5) sc_names.nd rfl (Or.inl rfl))
      (pss_one (ps_set (i := 4) sc_names.nd rfl (Or.inl rfl) (pe_op op_add_str (pv 4) (pe_ix ix_str (pe_op op_add_str (pv 2) pe_str) (pe_f O hr T.g__law_take (pa_cons (pv 0) (pa_cons pe_int pa_nil))) (fun _ _ => rfl))))))
    (pss_cons (ps_set (i := 6) sc_names.nd rfl (Or.inl rfl) (pe_f O hr T.g__law_take (pa_cons (pv 0) (pa_cons pe_int pa_nil))))
    (pss_cons (ps_set (i := 7) sc_names.nd rfl (Or.inl rfl) (pe_lst pa_nil))
    (pss_cons (ps_for (passes_of rfl) rfl (pi_range1 rfl T.z_range (pa_cons (pv 1) pa_nil)) (pg_name (i := 5) sc_names.nd rfl (Or.inl rfl))
      (pss_cons (ps_set (i := 8) sc_names.nd rfl (Or.inl rfl) (pe_op op_add_str (pe_slice sl_str (pv 4) po_none (po_some (pv 6))) (pe_ix ix_str (pv 2) (pe_op op_mod (pe_op op_add (pv 3) (pe_op op_mul pe_int (pv 5))) pe_int) (fun _ _ => rfl))))
      (pss_cons (ps_set (i := 8) sc_names.nd rfl (Or.inl rfl) (pe_op op_add_str (pv 8) (pe_slice sl_str (pv 4) (po_some (pv 6)) (po_some (pe_op op_add (pv 6) (pe_f O hr T.g__law_take (pa_cons (pv 0) (pa_cons (pe_op op_sub pe_int (pv 6)) pa_nil))))))))
      (pss_one (ps_expr (pe_bm PySem.F.plainAttrs_list PySem.F.slot_list_append PySem.F.type_list_append mt_append (pv 7) (pa_cons (pe_op op_add_str (pv 8) (pe_op op_repS pe_str (pe_callTy call_int1 (by rfl) T.z_int (by decide +kernel) (pa_cons (pe_cmpR op_in_seq (pv 8) (pe_lst (pa_cons pe_str (pa_cons pe_str (pa_cons pe_str (pa_cons pe_str (pa_cons pe_str pa_nil)))))) rfl) pa_nil)))) pa_nil)))))))
    (pss_one (ps_ret (pv 7))))))))), ?_⟩
  have l26 : (lets : Str).length = 26 := by decide +kernel
  have l36 : ((lets : Str) ++ ("0123456789" : Str)).length = 36 := by rw [len_app, l26]; decide +kernel
  walk_at "go"
  refine ⟨s, 26, rfl, hs, by decide, by decide, fun r1 H1 h0 h1 e1 s1 => ?_⟩
  walk_at "go"
  refine ⟨s, 26, rfl, s1, by decide, by decide, fun r2 H2 h2 h3 e2 s2 => ?_⟩
  refine w_ixS h2 (by rw [show ("abcdefghijklmnopqrstuvwxyz" : Str).length = 26 from l26]; exact h3) (by rw [show ("abcdefghijklmnopqrstuvwxyz" : Str).length = 26 from l26]; decide) fun c1 => ?_
  walk_at "go"
  have e02 : BM [s] H H2 := e1.trans e2
  refine ⟨6, rfl, by decide, by decide, ?_⟩
  refine for_range (lo := 0) (n := 6) (fun (i : Nat) σ H' => ∃ (v5 : Option V) (stem : Str), σ = [some (.ref s), some (.int (m : Int)), some (.str lets), some (.int r1), some (.str stem), v5, none, none, none] ∧ stem.length ≤ 1 + i ∧ BM [s] H H' ∧ Src H' s)
    ⟨none, _, rfl, Nat.le_refl _, e02, s2⟩ ?_ ?_
  · rintro i σ H3 hi ⟨v5, stem, rfl, hl, e3, s3⟩
    walk_at "go"
    refine ⟨_, _, rfl, rfl, sz_1000 (by rw [l26]; decide), ?_⟩
    walk_at "go"
    refine ⟨s, 36, rfl, s3, by decide, by decide, fun r3 H4 h4 h5 e4 s4 => ?_⟩
    refine w_ixS h4 (by rw [l36]; exact h5) (by rw [l36]; decide) fun c2 => ?_
    walk_at "go"
    refine ⟨_, _, rfl, rfl, sz_1000 (by show stem.length + 1 ≤ 1000; omega), ?_⟩
    walk_at "go"
    exact ⟨_, _, rfl, by rw [len_app]; show stem.length + 1 ≤ _; omega, e3.trans e4, s4⟩
  · rintro σ H3 ⟨v5, stem, rfl, hl, e3, s3⟩
    walk_at "go"
    refine ⟨s, 4, rfl, s3, by decide, by decide, fun r4 H4 h4 h5 e4 s4 => ?_⟩
    walk_at "go"
    refine ⟨Nat.zero_le _, fun p hp => ?_⟩
    walk_at "go"
    have hpH : H p = none := (e3.trans e4).free hp
    have ps : p ≠ s := fun z => by obtain ⟨_, _, _, z2⟩ := s4; rw [← z, hp] at z2; cases z2
    refine ⟨_, rfl, (m : Int), rfl, by omega, by omega, ?_⟩
    rw [Int.toNat_natCast]
    refine for_range (lo := 0) (n := m) (fun (i : Nat) σ H' => ∃ (v5 v8 : Option V) (ns : List Str), σ = [some (.ref s), some (.int (m : Int)), some (.str lets), some (.int r1), some (.str stem), v5, some (.int r4), some (.ref p), v8] ∧ BM [s] H H' ∧ Src H' s ∧
      H' p = some (.lst (ns.map V.str)) ∧ ns.length = i ∧ ∀ n ∈ ns, n.length ≤ 100) ⟨v5, none, [], rfl, (e3.trans e4).mut hpH _, s4.same (Same.new hp _), upd_same, rfl, fun n hn => by cases hn⟩ ?_ ?_
    · rintro i σ H5 hi ⟨v5', v8, ns, rfl, e5, s5, hp5, hns, hb⟩
      walk_at "go"
      refine w_slS (z := stem) (by omega) ?_
      walk_at "go"
      refine w_i (.inl (by decide)) ?_
      walk_at "go"
      refine w_i (by decide) ?_
      refine w_ixS (Int.emod_nonneg _ (by decide)) (by rw [l26]; exact Int.emod_lt_of_pos _ (by decide)) (by rw [l26]; decide) fun c3 => ?_
      have lc := cutS_length stem none (some r4)
      walk_at "go"
      refine ⟨cutS stem none (some r4), ⟨#[c3]⟩, rfl, rfl, sz_1000 (by show _ + 1 ≤ 1000; omega), ?_⟩
      walk_at "go"
      refine ⟨s, 8 - r4, rfl, s5, by omega, by omega, fun r6 H6 h6 h7 e6 s6 => ?_⟩
      walk_at "go"
      refine w_slS (z := stem) (by omega) ?_
      have lc2 := cutS_length stem (some r4) (some (r4 + r6))
      have len1 : (cutS stem none (some r4) ++ (⟨#[c3]⟩ : Str)).length ≤ 8 := by rw [len_app]; show _ + 1 ≤ 8; omega
      refine ⟨_, _, rfl, rfl, sz_1000 (by omega), ?_⟩
      walk_at "go"
      have len2 : (cutS stem none (some r4) ++ (⟨#[c3]⟩ : Str) ++ cutS stem (some r4) (some (r4 + r6))).length ≤ 15 := by rw [len_app]; omega
      generalize cutS stem none (some r4) ++ (⟨#[c3]⟩ : Str) ++ cutS stem (some r4) (some (r4 + r6)) = nm at len2
      have hp6 := e6.at hp5 (by simpa using ps)
      refine ⟨_, rfl, .inl ⟨rfl, _, SqL.of hp6⟩, ?_⟩
      walk_at "go"
      refine ⟨(by show 5 ≤ sizeLine; decide), fun p2 hp2 => ?_⟩
      refine ⟨p2, _, rfl, .inl (SqL.of upd_same), rfl, rfl, ?_⟩
      walk_at "go"
      refine .inr ⟨_, rfl, ?_⟩
      have s7 := s6.same (Same.new hp2 (.lst words5))
      have e7 : BM [s] H (upd H6 p2 (.lst words5)) := (e5.trans e6).same (Same.new hp2 _)
      have hp7 : (upd H6 p2 (.lst words5)) p = some (.lst (ns.map V.str)) := Same.new hp2 _ _ _ hp6
      show rRepS (.str "x") _ (upd H6 p2 (.lst words5)) _
      generalize upd H6 p2 (.lst words5) = H7 at s7 e7 hp7
      have hk : ∀ b : Bool, 0 ≤ (if b = true then (1 : Int) else 0) ∧ (if b = true then (1 : Int) else 0) ≤ 1 := fun b => by cases b <;> decide
      have lk : ∀ k : Int, (if k = 1 then ("x" : Str) else Str.empty).length ≤ 1 := fun k => by
        by_cases c : k = 1
        · rw [if_pos c]; exact Nat.le_refl _
        · rw [if_neg c]; exact Nat.zero_le _
      refine ⟨"x", _, rfl, rfl, (hk _).1, (hk _).2, ?_⟩
      refine ⟨nm, _, rfl, rfl, sz_1000 (Nat.le_trans (Nat.add_le_add len2 (lk _)) (by decide)), ?_⟩
      walk_at "go"
      refine ⟨p, ns.map V.str, _, rfl, rfl, hp7, Nat.lt_of_le_of_lt (show (ns.map V.str).length ≤ 100 by rw [List.length_map]; omega) (by decide), ?_⟩
      refine ⟨_, _, ns ++ [_], rfl, e7.mut hpH _, ?_, by rw [upd_same, List.map_append]; rfl, by rw [List.length_append, hns]; rfl, fun n hn => ?_⟩
      · obtain ⟨a, b, c, hq⟩ := s7
        exact ⟨a, b, c, by rw [upd_ne (Ne.symm ps)]; exact hq⟩
      · rcases List.mem_append.mp hn with h | h
        · exact hb n h
        · rw [List.mem_singleton.mp h, len_app]
          exact Nat.le_trans (Nat.add_le_add len2 (lk _)) (by decide)
    · rintro σ H5 ⟨v5', v8, ns, rfl, e5, s5, hp5, hns, hb⟩
      walk_at "go"
      exact q p H5 ns hpH e5 s5 hp5 hns hb
end
end K3
end L2a_part
section L3_part
set_option Elab.async false
set_option linter.all false
set_option maxRecDepth 100000
set_option maxHeartbeats 1000000
set_option pp.deepTerms.threshold 5
open PySem PySem.Spec PyProof.Rows L2
/-- go on as far as nothing is open -/
local macro_rules | `(tactic| walk_at "go") => `(tactic| repeat (first
  | with_reducible refine w_seq ?_ | with_reducible refine w_next ?_ | with_reducible refine w_set ?_ | with_reducible refine w_drop ?_ | with_reducible refine w_ret ?_ | with_reducible refine w_retN ?_
  | with_reducible refine w_if ?_ | ((with_reducible refine' w_var ?hv ?_); (case hv => exact rfl)) | with_reducible refine w_c ?_ | with_reducible refine w_nil ?_ | with_reducible refine w_cons ?_ | with_reducible refine w_op ?_ | with_reducible refine w_un ?_
  | with_reducible refine w_test ?_ | with_reducible refine w_tB ?_ | with_reducible refine w_not ?_ | with_reducible refine w_and ?_ | with_reducible refine w_or ?_ | with_reducible refine w_bl ?_
  | with_reducible refine w_andV ?_ | with_reducible refine w_orV ?_ | with_reducible refine w_notV ?_ | with_reducible refine w_ifE ?_ | with_reducible refine w_chain ?_ | with_reducible refine w_i0 ?_
  | with_reducible refine w_call ?_ | with_reducible refine w_callS ?_ | with_reducible refine w_cB ?_ | with_reducible refine w_tup ?_ | with_reducible refine w_lst ?_ | with_reducible refine w_fldV ?_
  | with_reducible refine w_neF ?_ | with_reducible refine w_neT ?_ | with_reducible refine w_notN ?_ | with_reducible refine w_isN ?_ | with_reducible refine w_gname ?_ | with_reducible refine w_gsub ?_ | with_reducible refine w_asg ?_ | with_reducible refine w_sl ?_ | with_reducible refine w_noP ?_ | with_reducible refine w_int1 ?_ | with_reducible refine w_part ?_ | with_reducible refine w_yes ?_ | with_reducible refine w_nT ?_ | with_reducible refine w_nF ?_ | with_reducible refine w_iteT ?_ | with_reducible refine w_iteF ?_))
namespace K3
/-! ### lists compared: with an empty one; item by item the same -/
def rEqE (K : PySem.W.Frag) : R2 := fun x y H Q => ∃ (a b : Addr) (xs ys : List V), x = .ref a ∧ y = .ref b ∧ SqL K H a xs ∧ SqL K H b ys ∧ (xs = [] ∨ ys = [] ∨ xs.length ≠ ys.length) ∧ Q (.bl (decide (xs = [] ∧ ys = []))) H
def rNeE (K : PySem.W.Frag) : R2 := fun x y H Q => ∃ (a b : Addr) (xs ys : List V), x = .ref a ∧ y = .ref b ∧ SqL K H a xs ∧ SqL K H b ys ∧ (xs = [] ∨ ys = [] ∨ xs.length ≠ ys.length) ∧ Q (.bl (!decide (xs = [] ∧ ys = []))) H
def rNeS (K : PySem.W.Frag) : R2 := fun x y H Q => ∃ (a b : Addr) (xs : List V), x = .ref a ∧ y = .ref b ∧ SqL K H a xs ∧ SqL K H b xs ∧ (∀ v ∈ xs, ∃ c, v = V.ref c) ∧ Q (.bl false) H
theorem sizes {xs ys : List V} {is js : List Value} (r1 : Vals xs is) (r2 : Vals ys js) (h : xs = [] ∨ ys = [] ∨ xs.length ≠ ys.length) (c : ¬ (xs = [] ∧ ys = [])) : (is.toArray.size != js.toArray.size) = true := by
  have e1 := r1.length
  have e2 := r2.length
  simp only [List.size_toArray, bne_iff_ne, ne_eq]
  rw [← e1, ← e2]
  intro z
  rcases h with h | h | h
  · rw [h] at z
    exact c ⟨h, List.length_eq_zero_iff.mp z.symm⟩
  · rw [h] at z
    exact c ⟨List.length_eq_zero_iff.mp z, h⟩
  · exact h z
theorem op_eqE {X : Cx} (hu : X.A.units < cLine) : OpR X (compareOp .Eq) (rEqE X.K) := by
  intro pins s σ H x y v u Q I rx ry h
  obtain ⟨a, b, xs, ys, rfl, rfl, ha, hb, hs, q⟩ := h
  cases rx
  cases ry
  obtain ⟨is, r1, p1, _⟩ := I.list ha
  obtain ⟨js, r2, p2, _⟩ := I.list hb
  by_cases c : xs = [] ∧ ys = []
  · rw [decide_eq_true c] at q
    obtain ⟨rfl, rfl⟩ := c
    cases r1
    cases r2
    exact SeqAt.eq_listAt (e := fun _ => true) p1.isList p2.isList rfl hu (fun j h1 => absurd h1 (Nat.not_lt_zero _)) ⟨.bl true, H, I, rfl, q⟩
  · rw [decide_eq_false c] at q
    exact SeqAt.eq_list_lengthsAt p1.isList p2.isList (sizes r1 r2 hs c) hu ⟨.bl false, H, I, rfl, q⟩
theorem op_neE {X : Cx} (hu : X.A.units < cLine) : OpR X (compareOp .NotEq) (rNeE X.K) := by
  intro pins s σ H x y v u Q I rx ry h
  obtain ⟨a, b, xs, ys, rfl, rfl, ha, hb, hs, q⟩ := h
  cases rx
  cases ry
  obtain ⟨is, r1, p1, _⟩ := I.list ha
  obtain ⟨js, r2, p2, _⟩ := I.list hb
  by_cases c : xs = [] ∧ ys = []
  · rw [decide_eq_true c] at q
    obtain ⟨rfl, rfl⟩ := c
    cases r1
    cases r2
    exact SeqAt.RcNeAt.lists (e := fun _ => true) p1.isList p2.isList rfl hu (fun j h1 => absurd h1 (Nat.not_lt_zero _)) X.prog X.w X.xe _ ⟨.bl false, H, I, rfl, q⟩
  · rw [decide_eq_false c] at q
    exact SeqAt.RcNeAt.lists_lengths p1.isList p2.isList (sizes r1 r2 hs c) hu X.prog X.w X.xe _ ⟨.bl true, H, I, rfl, q⟩
theorem vals_same : ∀ {xs : List V} {is js : List Value}, (∀ v ∈ xs, ∃ c, v = V.ref c) → Vals xs is → Vals xs js → is = js
  | _, _, _, _, .nil, .nil => rfl
  | _, _, _, hr, .cons h1 t1, .cons h2 t2 => by
    obtain ⟨c, rfl⟩ := hr _ (List.mem_cons_self ..)
    rw [vals_same (fun v hv => hr v (List.mem_cons_of_mem _ hv)) t1 t2, show _ = Value.ref c from h1, show _ = Value.ref c from h2]
theorem op_neS {X : Cx} (hu : X.A.units < cLine) : OpR X (compareOp .NotEq) (rNeS X.K) := by
  intro pins s σ H x y v u Q I rx ry h
  obtain ⟨a, b, xs, rfl, rfl, ha, hb, hr, q⟩ := h
  cases rx
  cases ry
  obtain ⟨is, r1, p1, _⟩ := I.list ha
  obtain ⟨js, r2, p2, _⟩ := I.list hb
  have e : is = js := vals_same hr r1 r2
  subst e
  refine SeqAt.RcNeAt.lists (e := fun _ => true) p1.isList p2.isList rfl hu (fun j h1 h2 => SeqAt.EqAt.same _) X.prog X.w X.xe _ ?_
  have e2 : (!(List.range is.toArray.size).all fun _ => true) = false := by simp
  rw [e2]
  exact ⟨.bl false, H, I, rfl, q⟩
end K3
end L3_part
section L4_part
set_option Elab.async false
set_option linter.all false
set_option maxRecDepth 100000
set_option maxHeartbeats 1000000
set_option pp.deepTerms.threshold 5
open PySem PySem.Spec PyProof.Rows L2
/-- go on as far as nothing is open -/
local macro_rules | `(tactic| walk_at "go") => `(tactic| repeat (first
  | with_reducible refine w_seq ?_ | with_reducible refine w_next ?_ | with_reducible refine w_set ?_ | with_reducible refine w_drop ?_ | with_reducible refine w_ret ?_ | with_reducible refine w_retN ?_
  | with_reducible refine w_if ?_ | ((with_reducible refine' w_var ?hv ?_); (case hv => exact rfl)) | with_reducible refine w_c ?_ | with_reducible refine w_nil ?_ | with_reducible refine w_cons ?_ | with_reducible refine w_op ?_ | with_reducible refine w_un ?_
  | with_reducible refine w_test ?_ | with_reducible refine w_tB ?_ | with_reducible refine w_not ?_ | with_reducible refine w_and ?_ | with_reducible refine w_or ?_ | with_reducible refine w_bl ?_
  | with_reducible refine w_andV ?_ | with_reducible refine w_orV ?_ | with_reducible refine w_notV ?_ | with_reducible refine w_ifE ?_ | with_reducible refine w_chain ?_ | with_reducible refine w_i0 ?_
  | with_reducible refine w_call ?_ | with_reducible refine w_callS ?_ | with_reducible refine w_cB ?_ | with_reducible refine w_tup ?_ | with_reducible refine w_lst ?_ | with_reducible refine w_fldV ?_
  | with_reducible refine w_neF ?_ | with_reducible refine w_neT ?_ | with_reducible refine w_notN ?_ | with_reducible refine w_isN ?_ | with_reducible refine w_gname ?_ | with_reducible refine w_gsub ?_ | with_reducible refine w_asg ?_ | with_reducible refine w_sl ?_ | with_reducible refine w_noP ?_ | with_reducible refine w_int1 ?_ | with_reducible refine w_part ?_ | with_reducible refine w_yes ?_ | with_reducible refine w_nT ?_ | with_reducible refine w_nF ?_ | with_reducible refine w_iteT ?_ | with_reducible refine w_iteF ?_))
namespace K3
/-! ### the law's own data: tuples and lists that stay -/
inductive DC (B : Hp) : V → Cd → Prop where
  | is {t n o} : B t = some (.tup [.str "is", .str n, .str o]) → DC B (.ref t) (.is n o)
  | has {t n o} : B t = some (.tup [.str "has", .str n, .str o]) → DC B (.ref t) (.has n o)
  | over {t n k} : B t = some (.tup [.str "above", .str n, .int k]) → DC B (.ref t) (.over n k)
  | under {t n k} : B t = some (.tup [.str "below", .str n, .int k]) → DC B (.ref t) (.under n k)
  | no {t v c} : B t = some (.tup [.str "not", v]) → DC B v c → DC B (.ref t) (.no c)
  | both {t v u c d} : B t = some (.tup [.str "both", v, u]) → DC B v c → DC B u d → DC B (.ref t) (.both c d)
  | either {t v u c d} : B t = some (.tup [.str "either", v, u]) → DC B v c → DC B u d → DC B (.ref t) (.either c d)
theorem DC.same {B B' : Hp} (e : Same B B') : ∀ {c : Cd} {v : V}, DC B v c → DC B' v c := by
  intro c v h
  induction h with
  | is h => exact .is (e _ _ h)
  | has h => exact .has (e _ _ h)
  | over h => exact .over (e _ _ h)
  | under h => exact .under (e _ _ h)
  | no h _ i => exact .no (e _ _ h) i
  | both h _ _ i j => exact .both (e _ _ h) i j
  | either h _ _ i j => exact .either (e _ _ h) i j
inductive DW (B : Hp) : V → Option Cd → Prop where
  | none : DW B .non none
  | some {v c} : DC B v c → DW B v (some c)
theorem DW.same {B B' : Hp} (e : Same B B') {c : Option Cd} {v : V} (h : DW B v c) : DW B' v c := by
  cases h with
  | none => exact .none
  | some h => exact .some (h.same e)
mutual
inductive DR (B : Hp) : V → Rw → Prop where
  | one {t l n os w wv} : B t = some (.tup [.str "one", .str n, .ref l, wv]) → B l = some (.lst (os.map V.str)) → DW B wv w → DR B (.ref t) (.one n os w)
  | some {t l n os w wv} : B t = some (.tup [.str "some", .str n, .ref l, wv]) → B l = some (.lst (os.map V.str)) → DW B wv w → DR B (.ref t) (.some n os w)
  | number {t n lo hi w wv} : B t = some (.tup [.str "number", .str n, .int lo, .int hi, wv]) → DW B wv w → DR B (.ref t) (.number n lo hi w)
  | check {t n mv m w wv} : B t = some (.tup [.str "check", .str n, mv, wv]) → DC B mv m → DW B wv w → DR B (.ref t) (.check n m w)
  | sect {t l xs rs w wv} : B t = some (.tup [.str "section", .ref l, wv]) → B l = some (.lst xs) → DRs B xs rs → DW B wv w → DR B (.ref t) (.sect rs w)
  | rounds {t l n xs rs w wv} : B t = some (.tup [.str "rounds", .str n, .ref l, wv]) → B l = some (.lst xs) → DRs B xs rs → DW B wv w → DR B (.ref t) (.rounds n rs w)
inductive DRs (B : Hp) : List V → List Rw → Prop where
  | nil : DRs B [] []
  | cons {v vs r rs} : DR B v r → DRs B vs rs → DRs B (v :: vs) (r :: rs)
end
mutual
theorem DR.same {B B' : Hp} (e : Same B B') : ∀ {r : Rw} {v : V}, DR B v r → DR B' v r
  | _, _, .one h l w => .one (e _ _ h) (e _ _ l) (w.same e)
  | _, _, .some h l w => .some (e _ _ h) (e _ _ l) (w.same e)
  | _, _, .number h w => .number (e _ _ h) (w.same e)
  | _, _, .check h m w => .check (e _ _ h) (m.same e) (w.same e)
  | _, _, .sect h l rs w => .sect (e _ _ h) (e _ _ l) (DRs.same e rs) (w.same e)
  | _, _, .rounds h l rs w => .rounds (e _ _ h) (e _ _ l) (DRs.same e rs) (w.same e)
theorem DRs.same {B B' : Hp} (e : Same B B') : ∀ {rs : List Rw} {vs : List V}, DRs B vs rs → DRs B' vs rs
  | _, _, .nil => .nil
  | _, _, .cons h t => .cons (DR.same e h) (DRs.same e t)
end
/-- a question that is known -/
inductive Kn where
  | one (n : Str) (os : List Str)
  | some (n : Str) (os : List Str)
  | num (n : Str) (lo hi : Int)
def Kn.name : Kn → Str
  | .one n _ => n | .some n _ => n | .num n _ _ => n
inductive KE (B : Hp) : V → Kn → Prop where
  | one {t l n os} : B t = some (.tup [.str n, .str "one", .ref l]) → B l = some (.lst (os.map V.str)) → 0 < os.length → os.length ≤ 100 → n.length ≤ 100 → KE B (.ref t) (.one n os)
  | some {t l n os} : B t = some (.tup [.str n, .str "some", .ref l]) → B l = some (.lst (os.map V.str)) → 0 < os.length → os.length ≤ 100 → n.length ≤ 100 → KE B (.ref t) (.some n os)
  | num {t t2 n lo hi} : B t = some (.tup [.str n, .str "number", .ref t2]) → B t2 = some (.tup [.int lo, .int hi]) → lo ≤ hi → hi ≤ lo + 1000000000000 → n.length ≤ 100 → KE B (.ref t) (.num n lo hi)
theorem KE.same {B B' : Hp} (e : Same B B') {k : Kn} {v : V} (h : KE B v k) : KE B' v k := by
  cases h with
  | one h l a b c => exact .one (e _ _ h) (e _ _ l) a b c
  | some h l a b c => exact .some (e _ _ h) (e _ _ l) a b c
  | num h l a b c => exact .num (e _ _ h) (e _ _ l) a b c
/-- the list of those known, at kn -/
def KL (M : List Addr) (H : Hp) (kn : Addr) (ks : List Kn) : Prop := ∃ xs, H kn = some (.lst xs) ∧ Paired (KE (less H M)) xs ks
theorem KL.bm {M N : List Addr} {H H' : Hp} {kn : Addr} {ks : List Kn} (h : KL M H kn ks) (e : BM N H H') (k : kn ∉ N) (s : ∀ b ∈ N, b ∈ M) : KL M H' kn ks := by
  obtain ⟨xs, h1, h2⟩ := h
  exact ⟨xs, e.at h1 k, L2.Paired.mapP h2 fun _ _ q => q.same (e.mono s).less⟩
/-- what stands ahead of a draw: the source, what is known; M may change -/
structure Ah (M : List Addr) (H : Hp) (s kn : Addr) (ks : List Kn) : Prop where
  src : Src H s
  kl : KL M H kn ks
  sm : s ∈ M
  ne : kn ≠ s
  len : ks.length ≤ 200
theorem Ah.bm {M : List Addr} {H H' : Hp} {s kn : Addr} {ks : List Kn} (h : Ah M H s kn ks) (e : BM [s] H H') (hs : Src H' s) : Ah M H' s kn ks :=
  ⟨hs, h.kl.bm e (by simpa using h.ne) (fun b hb => by rw [List.mem_singleton.mp hb]; exact h.sm), h.sm, h.ne, h.len⟩
theorem Ah.same {M : List Addr} {H H' : Hp} {s kn : Addr} {ks : List Kn} (h : Ah M H s kn ks) (e : Same H H') : Ah M H' s kn ks := h.bm (BM.of e) (h.src.same e)
/-- a condition drawn -/
def RetD (M : List Addr) (s : Addr) (d : Nat) (H : Hp) (Q : VK) : Prop := ∀ v H' c, BM [s] H H' → Src H' s → DC (less H' M) v c → c.dep ≤ d → c.simp.length ≤ 2 ^ d → Q v H'
def spSimple (K : PySem.W.Frag) : Sp := fun vs H Q _ => ∃ (M : List Addr) (s kn : Addr) (ks : List Kn), vs = [.ref s, .ref kn] ∧ In M H ∧ Ah M H s kn ks ∧ 0 < ks.length ∧ RetD M s 0 H Q
def spCond (K : PySem.W.Frag) (n : Nat) : Sp := fun vs H Q _ => ∃ (M : List Addr) (s kn : Addr) (ks : List Kn) (d : Nat), vs = [.ref s, .ref kn, .int (d : Int)] ∧ d < n ∧ In M H ∧ Ah M H s kn ks ∧ 0 < ks.length ∧ RetD M s d H Q
def spPerhaps (K : PySem.W.Frag) : Sp := fun vs H Q _ => ∃ (M : List Addr) (s kn : Addr) (ks : List Kn), vs = [.ref s, .ref kn] ∧ In M H ∧ Ah M H s kn ks ∧ ∀ v H' w, BM [s] H H' → Src H' s → DW (less H' M) v w → odep w ≤ 2 → (owh w).length ≤ 4 → Q v H'
theorem ok_none' {P : Program} {w : World} {K : PySem.W.Frag} {mg : Str → Option Value} {base : Heap} {f : Addr} {fd : FuncData} {ps : List Str} {sp : Sp} {k : Nat} (no : ∀ vs H Q E, ¬ sp vs H Q E) : FnOk P w K mg base (L2.CX P w) k f fd ps sp :=
  ⟨fun vs H Q E h => absurd h (no vs H Q E), fun A outer s H args us vs Q E _ _ _ _ h => absurd h (no vs H Q E)⟩
theorem two_of {r : Int} (h0 : 0 ≤ r) (h : r < 2) : r = 0 ∨ r = 1 := by omega
section
variable {P : Program} {w : World} {K : PySem.W.Frag} {mg : Str → Option Value} {base : Heap}
theorem sc_simple : FnScope ["_law_source_here", "_law_known", "_law_name", "_law_kind", "_law_some"] ["_law_source_here", "_law_known"] (defScope s__law_simple) := ⟨rfl, rfl, rfl, by decide +kernel, rfl, by decide +kernel, by decide +kernel⟩
theorem ok_simple (T : Tx K mg) : Ok P w K mg base 2 (He.ga K "_law_simple") ["_law_source_here", "_law_known"] (spSimple K) := by
  obtain ⟨fd, F⟩ := T.f__law_simple
  refine ⟨fd, F.ok sc_simple (fun vs H Q E h => ?_) (fun cdv A outer s' H vs Q E hr h => ?_), F.bindsN fun _ _ _ _ _ _ us hl => match us, hl with | [_, _], _ => rfl, F.kp⟩
  · obtain ⟨M, s, kn, ks, rfl, _⟩ := h
    rfl
  obtain ⟨M, s, kn, ks, rfl, hM, hA, hk, q⟩ := h
  have O := ok_take (P := P) (w := w) (base := base) T
  refine ⟨_, pss_cons (ps_asg (pe_ix ix_list (pv 1) (pe_f O hr T.g__law_take (pa_cons (pv 0) (pa_cons (pe_callB call_len_seq (by rfl) T.z_len PySem.boot_len (pa_cons (pv 1) pa_nil)) pa_nil))) (fun _ _ => rfl)) (pg_tup rfl (pgs_cons (pg_name (i := 2) sc_simple.nd rfl (Or.inl rfl)) (pgs_cons (pg_name (i := 3) sc_simple.nd rfl (Or.inl rfl)) (pgs_cons (pg_name (i := 4) sc_simple.nd rfl (Or.inl rfl)) pgs_nil)))))
    (pss_cons (ps_if (pt_cmpR op_eq (pv 3) pe_str (nomark _)) (pss_one (ps_ret (pe_tup (pa_cons (pe_ix ix_list (pe_lst (pa_cons pe_str (pa_cons pe_str pa_nil))) (pe_f O hr T.g__law_take (pa_cons (pv 0) (pa_cons pe_int pa_nil))) (fun _ _ => rfl)) (pa_cons (pv 2)
        (pa_cons (pe_op op_sub (pe_op op_add (pe_ix ix_tup (pv 4) pe_int (fun _ _ => rfl)) (pe_f O hr T.g__law_take (pa_cons (pv 0) (pa_cons (pe_op op_add (pe_op op_sub (pe_ix ix_tup (pv 4) pe_int (fun _ _ => rfl)) (pe_ix ix_tup (pv 4) pe_int (fun _ _ => rfl))) pe_int) pa_nil)))) pe_int) pa_nil)))))) pss_nil)
    (pss_one (ps_ret (pe_tup (pa_cons (pe_dget (hu_of hr) (pe_disp (pps_cons pe_str pe_str (pps_cons pe_str pe_str pps_nil)) (by rfl) (by rfl) (fun z => by cases z) (by decide)) (pv 3) (fun _ _ => rfl)) (pa_cons (pv 2)
        (pa_cons (pe_ix ix_list (pv 4) (pe_f O hr T.g__law_take (pa_cons (pv 0) (pa_cons (pe_callB call_len_seq (by rfl) T.z_len PySem.boot_len (pa_cons (pv 4) pa_nil)) pa_nil))) (fun _ _ => rfl)) pa_nil))))))), ?_⟩
  obtain ⟨xs, hx, hp⟩ := hA.kl
  have lp := hp.length
  walk_at "go"
  refine ⟨kn, _, rfl, .inl (SqL.of hx), ?_⟩
  walk_at "go"
  refine ⟨s, _, rfl, hA.src, by omega, by have := hA.len; omega, fun r1 H1 h0 h1 e1 s1 => ?_⟩
  obtain ⟨v, hv, _⟩ := at_in h0 h1
  refine w_ixL (e1.at hx (by simpa using hA.ne)) hv ?_
  obtain ⟨j, _, hj, _⟩ := atI_get hv
  obtain ⟨k, hk1, hke⟩ := K3.Paired.get hp hj
  have eM : BM M H H1 := e1.mono fun b hb => by rw [List.mem_singleton.mp hb]; exact hA.sm
  have hke1 := hke.same eM.less
  have ns : ∀ {p : Addr} {o : HO}, less H1 M p = some o → p ≠ s := fun {p o} h z => (less_at h).2 (by rw [z]; exact hA.sm)
  have other : ∀ (knd nk : Str) (t l : Addr) (n : Str) (os : List Str) (C : Str → Str → Cd), (∀ a b, (C a b).dep = 0) → (∀ a b, (C a b).simp = [C a b]) → (∀ (B : Hp) (t : Addr) (a b : Str), B t = some (.tup [.str nk, .str a, .str b]) → DC B (.ref t) (C a b)) → less H1 M l = some (.lst (os.map V.str)) → 0 < os.length → os.length ≤ 100 →
      valV (mergeK [] [((Sum.inr "one" : Key), V.str "is"), (Sum.inr "some", .str "has")]) (Sum.inr knd) = some (.str nk) →
      tRet (tTup (tCons (tDGet (tDisp [(tC (.str "one"), tC (.str "is")), (tC (.str "some"), tC (.str "has"))]) (tVar 3)) (tCons (tVar 2) (tCons (tOp (rIxL K) (tVar 4) (tCall (spTake K) [] E0 (tCons (tVar 0) (tCons (tCB (fun xs H Q => ∃ p ys, xs = [V.ref p] ∧ (SqL K H p ys ∨ SqT K H p ys) ∧ Q (.int ys.length) H) (tCons (tVar 4) tNil)) tNil)))) tNil))))
        { nx := fun _ H' => Q .non H', rt := Q } [some (.ref s), some (.ref kn), some (.str n), some (.str knd), some (.ref l)] H1 := by
    intro knd nk t l n os C hd hs hc hl h2 h3 hval
    walk_at "go"
    intro p hp2
    refine ⟨upd_same, [(Sum.inr "one", .str "is"), (Sum.inr "some", .str "has")], rfl, by decide, ?_⟩
    refine ⟨_, rfl, p, _, rfl, by rw [← hval]; exact DGet.k (k := Sum.inr knd) upd_same, ?_⟩
    have e2 : Same H1 (upd (upd H1 p (.dK [])) p (.dK (mergeK [] [((Sum.inr "one" : Key), V.str "is"), (Sum.inr "some", .str "has")]))) := ((Same.refl H1).mut hp2).mut hp2
    have s2 := s1.same e2
    have l2 := e2 _ _ (less_at hl).1
    show tCons (tVar 2) _ _ (upd (upd H1 p (.dK [])) p (.dK (mergeK [] [((Sum.inr "one" : Key), V.str "is"), (Sum.inr "some", .str "has")]))) _
    generalize upd (upd H1 p (.dK [])) p (.dK (mergeK [] [((Sum.inr "one" : Key), V.str "is"), (Sum.inr "some", .str "has")])) = H2 at e2 s2 l2
    walk_at "go"
    refine ⟨l, _, rfl, .inl (SqL.of l2), ?_⟩
    walk_at "go"
    refine ⟨s, _, rfl, s2, by rw [List.length_map]; omega, by rw [List.length_map]; omega, fun r3 H3 h4 h5 e3 s3 => ?_⟩
    obtain ⟨u, hu, hu2⟩ := at_in h4 h5
    obtain ⟨o, ho, rfl⟩ := List.mem_map.mp hu2
    refine w_ixL (e3.at l2 (by simpa using ns hl)) hu ?_
    walk_at "go"
    refine ⟨(by show 3 ≤ sizeLine; decide), fun t3 ht3 => ?_⟩
    have e4 : BM [s] H (upd H3 t3 (.tup [.str nk, .str n, .str o])) := ((e1.same e2).trans e3).same (Same.new ht3 _)
    exact q _ _ (C n o) e4 (s3.same (Same.new ht3 _)) (hc _ _ _ _ (less_of upd_same ((hM.bm ((e1.same e2).trans e3)).new ht3))) (by rw [hd]; exact Nat.le_refl _) (by rw [hs]; show 1 ≤ 1; exact Nat.le_refl 1)
  cases hke1 with
  | @one t l n os a1 a2 a3 a4 a5 =>
    refine ⟨t, _, rfl, SqT.of (less_at a1).1, rfl, _, _, rfl, _, _, rfl, _, _, rfl, rfl, ?_⟩
    walk_at "go"
    refine ⟨rfl, ?_⟩
    walk_at "go"
    rw [show decide (V.str "one" = V.str "number") = false by decide]
    refine w_iteF ?_
    exact other "one" "is" t l n os .is (fun _ _ => rfl) (fun _ _ => rfl) (fun _ _ _ _ h => .is h) a2 a3 a4 (by decide +kernel)
  | @some t l n os a1 a2 a3 a4 a5 =>
    refine ⟨t, _, rfl, SqT.of (less_at a1).1, rfl, _, _, rfl, _, _, rfl, _, _, rfl, rfl, ?_⟩
    walk_at "go"
    refine ⟨rfl, ?_⟩
    walk_at "go"
    rw [show decide (V.str "some" = V.str "number") = false by decide]
    refine w_iteF ?_
    exact other "some" "has" t l n os .has (fun _ _ => rfl) (fun _ _ => rfl) (fun _ _ _ _ h => .has h) a2 a3 a4 (by decide +kernel)
  | @num t t2 n lo hi a1 a2 a3 a4 a5 =>
    refine ⟨t, _, rfl, SqT.of (less_at a1).1, rfl, _, _, rfl, _, _, rfl, _, _, rfl, rfl, ?_⟩
    walk_at "go"
    refine ⟨rfl, ?_⟩
    walk_at "go"
    rw [show decide (V.str "number" = V.str "number") = true by decide]
    walk_at "go"
    refine ⟨(by show 2 ≤ sizeLine; decide), fun p hp2 => ?_⟩
    have e2 : Same H1 (upd H1 p (.lst [.str "above", .str "below"])) := Same.new hp2 _
    walk_at "go"
    refine ⟨s, 2, rfl, s1.same e2, by decide, by decide, fun r3 H3 h4 h5 e3 s3 => ?_⟩
    have ps : p ≠ s := fun z => by obtain ⟨_, _, _, z2⟩ := s1; rw [← z, hp2] at z2; cases z2
    have hp3 : H3 p = some (.lst [.str "above", .str "below"]) := e3.at upd_same (by simpa using ps)
    have ht3 : H3 t2 = some (.tup [.int lo, .int hi]) := e3.at (e2 _ _ (less_at a2).1) (by simpa using ns a2)
    have fin : ∀ (nk : Str) (C : Str → Int → Cd), (∀ a b, (C a b).dep = 0) → (∀ a b, (C a b).simp = [C a b]) → (∀ (B : Hp) (t : Addr) (a : Str) (b : Int), B t = some (.tup [.str nk, .str a, .int b]) → DC B (.ref t) (C a b)) →
        (tCons (tVar 2) (tCons (tOp (rI0 fun i j => .int (i - j)) (tOp (rI0 fun i j => .int (i + j)) (tOp (rIxT K) (tVar 4) (tC (.int 0))) (tCall (spTake K) [] E0 (tCons (tVar 0) (tCons (tOp (rI0 fun i j => .int (i + j)) (tOp (rI0 fun i j => .int (i - j)) (tOp (rIxT K) (tVar 4) (tC (.int 1))) (tOp (rIxT K) (tVar 4) (tC (.int 0)))) (tC (.int 3))) tNil)))) (tC (.int 1))) tNil))
          [some (.ref s), some (.ref kn), some (.str n), some (.str "number"), some (.ref t2)] H3 fun xs H1 => (V.str nk :: xs).length ≤ sizeLine ∧ ∀ p, H1 p = none → Q (.ref p) (upd H1 p (.tup (V.str nk :: xs))) := by
      intro nk C hd hs hc
      walk_at "go"
      refine w_ixT (SqT.of ht3) rfl ?_
      walk_at "go"
      refine w_ixT (SqT.of ht3) rfl ?_
      walk_at "go"
      refine w_ixT (SqT.of ht3) rfl ?_
      walk_at "go"
      refine ⟨s, _, rfl, s3, by omega, by omega, fun r4 H4 h6 h7 e4 s4 => ?_⟩
      walk_at "go"
      refine ⟨(by show 3 ≤ sizeLine; decide), fun t5 ht5 => ?_⟩
      have e5 := ((e1.same e2).trans e3).trans e4
      exact q _ _ (C n _) (e5.same (Same.new ht5 _)) (s4.same (Same.new ht5 _)) (hc _ _ _ _ (less_of upd_same ((hM.bm e5).new ht5))) (by rw [hd]; exact Nat.le_refl _) (by rw [hs]; show 1 ≤ 1; exact Nat.le_refl 1)
    rcases two_of h4 h5 with rfl | rfl
    · refine w_ixL hp3 rfl ?_
      exact fin "above" .over (fun _ _ => rfl) (fun _ _ => rfl) (fun _ _ _ _ h => .over h)
    · refine w_ixL hp3 rfl ?_
      exact fin "below" .under (fun _ _ => rfl) (fun _ _ => rfl) (fun _ _ _ _ h => .under h)
end
end K3
end L4_part
section L5_part
set_option Elab.async false
set_option linter.all false
set_option maxRecDepth 100000
set_option maxHeartbeats 1000000
set_option pp.deepTerms.threshold 5
open PySem PySem.Spec PyProof.Rows L2
/-- go on as far as nothing is open -/
local macro_rules | `(tactic| walk_at "go") => `(tactic| repeat (first
  | with_reducible refine w_seq ?_ | with_reducible refine w_next ?_ | with_reducible refine w_set ?_ | with_reducible refine w_drop ?_ | with_reducible refine w_ret ?_ | with_reducible refine w_retN ?_
  | with_reducible refine w_if ?_ | ((with_reducible refine' w_var ?hv ?_); (case hv => exact rfl)) | with_reducible refine w_c ?_ | with_reducible refine w_nil ?_ | with_reducible refine w_cons ?_ | with_reducible refine w_op ?_ | with_reducible refine w_un ?_
  | with_reducible refine w_test ?_ | with_reducible refine w_tB ?_ | with_reducible refine w_not ?_ | with_reducible refine w_and ?_ | with_reducible refine w_or ?_ | with_reducible refine w_bl ?_
  | with_reducible refine w_andV ?_ | with_reducible refine w_orV ?_ | with_reducible refine w_notV ?_ | with_reducible refine w_ifE ?_ | with_reducible refine w_chain ?_ | with_reducible refine w_i0 ?_
  | with_reducible refine w_call ?_ | with_reducible refine w_callS ?_ | with_reducible refine w_cB ?_ | with_reducible refine w_tup ?_ | with_reducible refine w_lst ?_ | with_reducible refine w_fldV ?_
  | with_reducible refine w_neF ?_ | with_reducible refine w_neT ?_ | with_reducible refine w_notN ?_ | with_reducible refine w_isN ?_ | with_reducible refine w_gname ?_ | with_reducible refine w_gsub ?_ | with_reducible refine w_asg ?_ | with_reducible refine w_sl ?_ | with_reducible refine w_noP ?_ | with_reducible refine w_int1 ?_ | with_reducible refine w_part ?_ | with_reducible refine w_yes ?_ | with_reducible refine w_nT ?_ | with_reducible refine w_nF ?_ | with_reducible refine w_iteT ?_ | with_reducible refine w_iteF ?_))
namespace K3
theorem RetD.ah {M : List Addr} {s : Addr} {d : Nat} {H H1 : Hp} {Q : VK} (q : RetD M s d H Q) (e : BM [s] H H1) : RetD M s d H1 Q := fun v H' c e' s' h h1 h2 => q v H' c (e.trans e') s' h h1 h2
theorem dec_int (a b : Int) : decide (V.int a = V.int b) = decide (a = b) := by
  by_cases c : a = b
  · rw [c, decide_eq_true rfl, decide_eq_true rfl]
  · rw [decide_eq_false c, decide_eq_false (fun z => c (by cases z; rfl))]
section
variable {P : Program} {w : World} {K : PySem.W.Frag} {mg : Str → Option Value} {base : Heap}
theorem sc_condition : FnScope ["_law_source_here", "_law_known", "_law_deep", "_law_way", "_law_left"] ["_law_source_here", "_law_known", "_law_deep"] (defScope s__law_condition) := ⟨rfl, rfl, rfl, by decide +kernel, rfl, by decide +kernel, by decide +kernel⟩
theorem ok_condition (T : Tx K mg) (n : Nat) : Ok P w K mg base (n + 2) (He.ga K "_law_condition") ["_law_source_here", "_law_known", "_law_deep"] (spCond K n) := by
  induction n with
  | zero =>
    obtain ⟨fd, F⟩ := T.f__law_condition
    exact ⟨fd, ok_none' fun vs H Q E ⟨_, _, _, _, _, _, h, _⟩ => absurd h (Nat.not_lt_zero _), F.bindsN fun _ _ _ _ _ _ us hl => match us, hl with | [_, _, _], _ => rfl, F.kp⟩
  | succ n Oc =>
    obtain ⟨fd, F⟩ := T.f__law_condition
    have Os := ok_simple (P := P) (w := w) (base := base) T
    have O := ok_take (P := P) (w := w) (base := base) T
    refine ⟨fd, F.ok sc_condition (fun vs H Q E h => ?_) (fun cdv A outer s' H vs Q E hr h => ?_), F.bindsN fun _ _ _ _ _ _ us hl => match us, hl with | [_, _, _], _ => rfl, F.kp⟩
    · obtain ⟨M, s, kn, ks, d, rfl, _⟩ := h
      rfl
    obtain ⟨M, s, kn, ks, d, rfl, hd, hM, hA, hk, q⟩ := h
    refine ⟨_, pss_cons (ps_set (i := 3) sc_condition.nd rfl (Or.inl rfl) (pe_f O (hr.mono (by omega)) T.g__law_take (pa_cons (pv 0) (pa_cons pe_int pa_nil))))
      (pss_cons (ps_if (pw_or (pt_cmpR op_eq (pv 2) pe_int (nomark _)) (pw_or1 (pt_cmpR op_lt (pv 3) pe_int (nomark _)))).pt (pss_one (ps_ret (pe_f Os (hr.mono (by omega)) T.g__law_simple (pa_cons (pv 0) (pa_cons (pv 1) pa_nil))))) pss_nil)
      (pss_cons (ps_if (pt_cmpR op_eq (pv 3) pe_int (nomark _)) (pss_one (ps_ret (pe_tup (pa_cons pe_str (pa_cons (pe_f Oc hr T.g__law_condition (pa_cons (pv 0) (pa_cons (pv 1) (pa_cons (pe_op op_sub (pv 2) pe_int) pa_nil)))) pa_nil))))) pss_nil)
      (pss_cons (ps_set (i := 4) sc_condition.nd rfl (Or.inl rfl) (pe_f Oc hr T.g__law_condition (pa_cons (pv 0) (pa_cons (pv 1) (pa_cons (pe_op op_sub (pv 2) pe_int) pa_nil)))))
      (pss_one (ps_ret (pe_tup (pa_cons (pe_ix ix_list (pe_lst (pa_cons pe_str (pa_cons pe_str pa_nil))) (pe_op op_mod (pv 3) pe_int) (fun _ _ => rfl)) (pa_cons (pv 4) (pa_cons (pe_f Oc hr T.g__law_condition (pa_cons (pv 0) (pa_cons (pv 1) (pa_cons (pe_op op_sub (pv 2) pe_int) pa_nil)))) pa_nil))))))))), ?_⟩
    walk_at "go"
    refine ⟨s, _, rfl, hA.src, by decide, by decide, fun r1 H1 h0 h1 e1 s1 => ?_⟩
    have A1 := hA.bm e1 s1
    walk_at "go"
    refine ⟨rfl, ?_⟩
    walk_at "go"
    rw [dec_int]
    have sim : spSimple K ([.ref s, .ref kn] ++ []) H1 Q E0 :=
      ⟨M, s, kn, ks, rfl, hM.bm e1, A1, hk, fun v H' c e' s' h g1 g2 => q v H' c (e1.trans e') s' h (by omega) (Nat.le_trans g2 (Nat.pow_le_pow_right (by decide) (Nat.zero_le d)))⟩
    by_cases c0 : (d : Int) = 0
    · rw [decide_eq_true c0]
      walk_at "go"
      exact sim
    rw [decide_eq_false c0]
    have rc : ∀ (H2 : Hp), BM [s] H H2 → Src H2 s → ∀ (Q2 : VK) (E2 : XK), RetD M s (d - 1) H2 Q2 → spCond K n ([.ref s, .ref kn, .int ((d : Int) - 1)] ++ []) H2 Q2 E2 := fun H2 e2 s2 Q2 E2 k =>
      ⟨M, s, kn, ks, d - 1, by rw [show ((d - 1 : Nat) : Int) = (d : Int) - 1 by omega]; rfl, by omega, hM.bm e2, hA.bm e2 s2, hk, k⟩
    have p2 : 2 ^ d = 2 ^ (d - 1) + 2 ^ (d - 1) := by
      obtain ⟨m, rfl⟩ : ∃ m, d = m + 1 := ⟨d - 1, by omega⟩
      rw [Nat.add_sub_cancel, Nat.pow_succ]
      omega
    walk_at "go"
    by_cases c1 : r1 < 3
    · rw [decide_eq_true c1]
      walk_at "go"
      exact sim
    rw [decide_eq_false c1]
    walk_at "go"
    refine ⟨rfl, ?_⟩
    rw [dec_int]
    by_cases c2 : r1 = 3
    · rw [decide_eq_true c2]
      walk_at "go"
      refine rc H1 e1 s1 _ _ fun v H2 c e2 s2 hv g1 g2 => ?_
      walk_at "go"
      refine ⟨(by show 2 ≤ sizeLine; decide), fun t ht => ?_⟩
      have e3 := (e1.trans e2).same (Same.new ht (.tup [.str "not", v]))
      exact q _ _ (.no c) e3 (s2.same (Same.new ht _)) (.no (less_of upd_same ((hM.bm (e1.trans e2)).new ht)) (hv.same (BM.of (M := M) (Same.new ht _)).less)) (by show c.dep + 1 ≤ d; omega) (by show c.simp.length ≤ _; omega)
    rw [decide_eq_false c2]
    walk_at "go"
    refine rc H1 e1 s1 _ _ fun v H2 c e2 s2 hv g1 g2 => ?_
    walk_at "go"
    refine ⟨(by show 2 ≤ sizeLine; decide), fun p hp => ?_⟩
    walk_at "go"
    refine w_i (by decide) ?_
    have s3 := s2.same (Same.new hp (.lst [V.str "both", .str "either"]))
    have e3 : BM [s] H (upd H2 p (.lst [V.str "both", .str "either"])) := (e1.trans e2).same (Same.new hp _)
    have hv3 := hv.same (BM.of (M := M) (Same.new hp (.lst [V.str "both", .str "either"]))).less
    have m2 : r1 % 2 = 0 ∨ r1 % 2 = 1 := by omega
    have fin : ∀ (nk : Str) (C : Cd → Cd → Cd), (∀ a b, (C a b).dep = max a.dep b.dep + 1) → (∀ a b, (C a b).simp = a.simp ++ b.simp) → (∀ (B : Hp) (t : Addr) (v u : V) (a b : Cd), B t = some (.tup [.str nk, v, u]) → DC B v a → DC B u b → DC B (.ref t) (C a b)) → atI [V.str "both", .str "either"] (r1 % 2) = some (.str nk) →
        rIxL K (.ref p) (.int (r1 % 2)) (upd H2 p (.lst [V.str "both", .str "either"])) fun x H1 => tCons (tVar 4) (tCons (tCall (spCond K n) [] E0 (tCons (tVar 0) (tCons (tVar 1) (tCons (tOp (rI0 fun i j => .int (i - j)) (tVar 2) (tC (.int 1))) tNil)))) tNil) [some (.ref s), some (.ref kn), some (.int (d : Int)), some (.int r1), some v] H1 fun xs H1 => (x :: xs).length ≤ sizeLine ∧ ∀ p, H1 p = none → Q (.ref p) (upd H1 p (.tup (x :: xs))) := by
      intro nk C hd1 hs1 hc hat
      refine w_ixL upd_same hat ?_
      walk_at "go"
      refine rc _ e3 s3 _ _ fun u H4 c4 e4 s4 hu g3 g4 => ?_
      walk_at "go"
      refine ⟨(by show 3 ≤ sizeLine; decide), fun t ht => ?_⟩
      have e5 := e3.trans e4
      have eM : BM M (upd H2 p (.lst [V.str "both", .str "either"])) (upd H4 t (.tup [.str nk, v, u])) := (e4.mono fun b hb => by rw [List.mem_singleton.mp hb]; exact hA.sm).same (Same.new ht _)
      exact q _ _ (C c c4) (e5.same (Same.new ht _)) (s4.same (Same.new ht _)) (hc _ _ _ _ _ _ (less_of upd_same ((hM.bm e5).new ht)) (hv3.same eM.less) (hu.same (BM.of (M := M) (Same.new ht _)).less)) (by rw [hd1]; omega) (by rw [hs1, List.length_append]; omega)
    rcases m2 with m2 | m2
    · rw [m2] at fin ⊢
      exact fin "both" .both (fun _ _ => rfl) (fun _ _ => rfl) (fun _ _ _ _ _ _ h a b => .both h a b) rfl
    · rw [m2] at fin ⊢
      exact fin "either" .either (fun _ _ => rfl) (fun _ _ => rfl) (fun _ _ _ _ _ _ h a b => .either h a b) rfl
end
end K3
end L5_part
section L6_part
set_option Elab.async false
set_option linter.all false
set_option maxRecDepth 100000
set_option maxHeartbeats 1000000
set_option pp.deepTerms.threshold 5
open PySem PySem.Spec PyProof.Rows L2
/-- go on as far as nothing is open -/
local macro_rules | `(tactic| walk_at "go") => `(tactic| repeat (first
  | with_reducible refine w_seq ?_ | with_reducible refine w_next ?_ | with_reducible refine w_set ?_ | with_reducible refine w_drop ?_ | with_reducible refine w_ret ?_ | with_reducible refine w_retN ?_
  | with_reducible refine w_if ?_ | ((with_reducible refine' w_var ?hv ?_); (case hv => exact rfl)) | with_reducible refine w_c ?_ | with_reducible refine w_nil ?_ | with_reducible refine w_cons ?_ | with_reducible refine w_op ?_ | with_reducible refine w_un ?_
  | with_reducible refine w_test ?_ | with_reducible refine w_tB ?_ | with_reducible refine w_not ?_ | with_reducible refine w_and ?_ | with_reducible refine w_or ?_ | with_reducible refine w_bl ?_
  | with_reducible refine w_andV ?_ | with_reducible refine w_orV ?_ | with_reducible refine w_notV ?_ | with_reducible refine w_ifE ?_ | with_reducible refine w_chain ?_ | with_reducible refine w_i0 ?_
  | with_reducible refine w_call ?_ | with_reducible refine w_callS ?_ | with_reducible refine w_cB ?_ | with_reducible refine w_tup ?_ | with_reducible refine w_lst ?_ | with_reducible refine w_fldV ?_
  | with_reducible refine w_neF ?_ | with_reducible refine w_neT ?_ | with_reducible refine w_notN ?_ | with_reducible refine w_isN ?_ | with_reducible refine w_gname ?_ | with_reducible refine w_gsub ?_ | with_reducible refine w_asg ?_ | with_reducible refine w_sl ?_ | with_reducible refine w_noP ?_ | with_reducible refine w_int1 ?_ | with_reducible refine w_part ?_ | with_reducible refine w_yes ?_ | with_reducible refine w_nT ?_ | with_reducible refine w_nF ?_ | with_reducible refine w_iteT ?_ | with_reducible refine w_iteF ?_))
namespace K3
theorem len_eq_nil {α : Type} {l : List α} : decide (l = [] ∧ ([] : List α) = []) = decide (l.length = 0) := by
  cases l with
  | nil => rfl
  | cons a t =>
    rw [decide_eq_false (by simp), decide_eq_false (by simp)]
theorem isnil {l : List V} : decide (l = [] ∧ ([] : List V) = []) = l.isEmpty := by cases l with
  | nil => rfl
  | cons a t => exact decide_eq_false fun h => by cases h.1
theorem less_upd {H : Hp} {M : List Addr} {p : Addr} (h : p ∈ M) (o : HO) : less (upd H p o) M = less H M := by
  funext b
  unfold K3.less
  by_cases c : b ∈ M
  · rw [if_pos c, if_pos c]
  · rw [if_neg c, if_neg c, upd_ne (fun z => c (by rw [z]; exact h))]
theorem less_sub {H : Hp} {M N : List Addr} (h : ∀ b ∈ M, b ∈ N) : Same (less H N) (less H M) := fun b o q => less_of (less_at q).1 fun z => (less_at q).2 (h b z)
section
variable {P : Program} {w : World} {K : PySem.W.Frag} {mg : Str → Option Value} {base : Heap}
theorem sc_perhaps : FnScope ["_law_source_here", "_law_known"] ["_law_source_here", "_law_known"] (defScope s__law_perhaps) := ⟨rfl, rfl, rfl, by decide +kernel, rfl, by decide +kernel, by decide +kernel⟩
theorem ok_perhaps (T : Tx K mg) : Ok P w K mg base 6 (He.ga K "_law_perhaps") ["_law_source_here", "_law_known"] (spPerhaps K) := by
  obtain ⟨fd, F⟩ := T.f__law_perhaps
  have O := ok_take (P := P) (w := w) (base := base) T
  have Oc := ok_condition (P := P) (w := w) (base := base) T 3
  refine ⟨fd, F.ok (k := 5) sc_perhaps (fun vs H Q E h => ?_) (fun cdv A outer s' H vs Q E hr h => ?_), F.bindsN fun _ _ _ _ _ _ us hl => match us, hl with | [_, _], _ => rfl, F.kp⟩
  · obtain ⟨M, s, kn, ks, rfl, _⟩ := h
    rfl
  obtain ⟨M, s, kn, ks, rfl, hM, hA, q⟩ := h
  refine ⟨_, pss_cons (ps_if (pw_or (pt_cmpR (op_eqE hr.units0) (pv 1) (pe_lst pa_nil) (nomark _)) (pw_or1 (pt_cmpR op_gt (pe_f O (hr.mono (by omega)) T.g__law_take (pa_cons (pv 0) (pa_cons pe_int pa_nil))) pe_int (nomark _)))).pt (pss_one (ps_ret pe_non)) pss_nil)
    (pss_one (ps_ret (pe_f Oc hr T.g__law_condition (pa_cons (pv 0) (pa_cons (pv 1) (pa_cons pe_int pa_nil)))))), ?_⟩
  obtain ⟨xs, hx, hp⟩ := hA.kl
  have lp := hp.length
  walk_at "go"
  refine ⟨Nat.zero_le _, fun p hpn => ?_⟩
  have e1 : Same H (upd H p (.lst [])) := Same.new hpn _
  refine ⟨kn, p, xs, [], rfl, rfl, SqL.of (e1 _ _ hx), SqL.of upd_same, .inr (.inl rfl), ?_⟩
  walk_at "go"
  rw [isnil]
  have A1 := hA.same e1
  have B1 : BM [s] H (upd H p (.lst [])) := BM.of e1
  have non : ∀ (H2 : Hp), BM [s] H H2 → Src H2 s → Q .non H2 := fun H2 e2 s2 => q _ _ none e2 s2 .none (Nat.zero_le _) (Nat.zero_le _)
  cases hxs : xs.isEmpty with
  | true =>
    walk_at "go"
    exact non _ B1 A1.src
  | false =>
    have kpos : 0 < ks.length := by
      cases xs with
      | nil => cases hxs
      | cons a t => rw [← lp]; exact Nat.succ_pos _
    walk_at "go"
    refine ⟨s, _, rfl, A1.src, by decide, by decide, fun r1 H1 h0 h1 e2 s2 => ?_⟩
    walk_at "go"
    by_cases c : (0 : Int) < r1
    · rw [decide_eq_true c]
      walk_at "go"
      exact non _ (B1.trans e2) s2
    · rw [decide_eq_false c]
      walk_at "go"
      exact ⟨M, s, kn, ks, 2, rfl, by decide, (hM.bm B1).bm e2, A1.bm e2 s2, kpos, fun v H' c e' s' h g1 g2 => q v H' (some c) ((B1.trans e2).trans e') s' (.some h) g1 g2⟩
end
end K3
end L6_part
section L7_part
set_option Elab.async false
set_option linter.all false
set_option maxRecDepth 100000
set_option maxHeartbeats 1000000
set_option pp.deepTerms.threshold 5
open PySem PySem.Spec PyProof.Rows L2
/-- go on as far as nothing is open -/
local macro_rules | `(tactic| walk_at "go") => `(tactic| repeat (first
  | with_reducible refine w_seq ?_ | with_reducible refine w_next ?_ | with_reducible refine w_set ?_ | with_reducible refine w_drop ?_ | with_reducible refine w_ret ?_ | with_reducible refine w_retN ?_
  | with_reducible refine w_if ?_ | ((with_reducible refine' w_var ?hv ?_); (case hv => exact rfl)) | with_reducible refine w_c ?_ | with_reducible refine w_nil ?_ | with_reducible refine w_cons ?_ | with_reducible refine w_op ?_ | with_reducible refine w_un ?_
  | with_reducible refine w_test ?_ | with_reducible refine w_tB ?_ | with_reducible refine w_not ?_ | with_reducible refine w_and ?_ | with_reducible refine w_or ?_ | with_reducible refine w_bl ?_
  | with_reducible refine w_andV ?_ | with_reducible refine w_orV ?_ | with_reducible refine w_notV ?_ | with_reducible refine w_ifE ?_ | with_reducible refine w_chain ?_ | with_reducible refine w_i0 ?_
  | with_reducible refine w_call ?_ | with_reducible refine w_callS ?_ | with_reducible refine w_cB ?_ | with_reducible refine w_tup ?_ | with_reducible refine w_lst ?_ | with_reducible refine w_fldV ?_
  | with_reducible refine w_neF ?_ | with_reducible refine w_neT ?_ | with_reducible refine w_notN ?_ | with_reducible refine w_isN ?_ | with_reducible refine w_gname ?_ | with_reducible refine w_gsub ?_ | with_reducible refine w_asg ?_ | with_reducible refine w_sl ?_ | with_reducible refine w_noP ?_ | with_reducible refine w_int1 ?_ | with_reducible refine w_part ?_ | with_reducible refine w_yes ?_ | with_reducible refine w_nT ?_ | with_reducible refine w_nF ?_ | with_reducible refine w_iteT ?_ | with_reducible refine w_iteF ?_))
namespace K3
/-- bounds of a row -/
def WB (w : Option Cd) : Prop := odep w ≤ 3 ∧ (owh w).length ≤ 100
mutual
def RB (b : Nat) : Rw → Prop
  | .one n os w => n.length ≤ 100 ∧ os.length ≤ b ∧ (∀ o ∈ os, o.length ≤ 100) ∧ WB w
  | .some n os w => n.length ≤ 100 ∧ os.length ≤ b ∧ (∀ o ∈ os, o.length ≤ 100) ∧ WB w
  | .number n _ _ w => n.length ≤ 100 ∧ WB w
  | .check n m w => n.length ≤ 100 ∧ m.dep ≤ 3 ∧ m.simp.length ≤ 100 ∧ WB w
  | .sect rs w => RBs b rs ∧ WB w
  | .rounds n rs w => n.length ≤ 100 ∧ RBs b rs ∧ WB w
def RBs (b : Nat) : List Rw → Prop
  | [] => True
  | r :: rs => RB b r ∧ RBs b rs
end
theorem RBs.iff {b : Nat} (rs : List Rw) : RBs b rs ↔ ∀ r ∈ rs, RB b r := by
  induction rs with
  | nil => exact ⟨fun _ r h => (by cases h), fun _ => (by unfold RBs; trivial)⟩
  | cons r rs ih => rw [RBs, ih, List.forall_mem_cons]
theorem one_of {α : Type} {l : List α} {v : α} {j : Nat} (h : l[j]? = some v) : v ∈ l := by
  obtain ⟨h1, h2⟩ := List.getElem?_eq_some_iff.mp h
  rw [← h2]
  exact List.getElem_mem h1
theorem KL.add {M : List Addr} {H : Hp} {kn : Addr} {ks : List Kn} {k : Kn} {q : Addr} (h : KL M H kn ks) (hm : kn ∈ M) (e : KE (less H M) (.ref q) k) : ∃ xs, H kn = some (.lst xs) ∧ xs.length = ks.length ∧ KL M (upd H kn (.lst (xs ++ [.ref q]))) kn (ks ++ [k]) := by
  obtain ⟨xs, h1, h2⟩ := h
  exact ⟨xs, h1, h2.length, _, upd_same, by rw [less_upd hm]; exact K3.Paired.app h2 (.cons e .nil)⟩
def spQuestion (K : PySem.W.Frag) : Sp := fun vs H Q _ => ∃ (M : List Addr) (s kn : Addr) (ks : List Kn) (nm : Str), vs = [.ref s, .str nm, .ref kn] ∧ In M H ∧ Ah M H s kn ks ∧ kn ∈ M ∧ ks.length < 200 ∧ nm.length ≤ 100 ∧
  ∀ v H' r k, BM [s, kn] H H' → Src H' s → KL M H' kn (ks ++ [k]) → DR (less H' M) v r → RB 6 r → r.cnt = 1 → r.dep = 0 → Q v H'
theorem nat_of {v : V} {l : List V} (h : v ∈ l) {m : Nat} (hl : l.all (fun v => match v with | .int i => decide (0 < i) && decide (i ≤ (m : Int)) | _ => false) = true) : ∃ j : Nat, v = .int (j : Int) ∧ 0 < j ∧ j ≤ m := by
  have q := List.all_eq_true.mp hl v h
  cases v with
  | int i =>
    simp only [Bool.and_eq_true, decide_eq_true_eq] at q
    exact ⟨i.toNat, by rw [Int.toNat_of_nonneg (by omega)], by omega, by omega⟩
  | _ => cases q
theorem int_of {v : V} {l : List V} (h : v ∈ l) {lo hi : Int} (hl : l.all (fun v => match v with | .int i => decide (lo ≤ i) && decide (i ≤ hi) | _ => false) = true) : ∃ j : Int, v = .int j ∧ lo ≤ j ∧ j ≤ hi := by
  have q := List.all_eq_true.mp hl v h
  cases v with
  | int i =>
    simp only [Bool.and_eq_true, decide_eq_true_eq] at q
    exact ⟨i, rfl, q.1, q.2⟩
  | _ => cases q
section
variable {P : Program} {w : World} {K : PySem.W.Frag} {mg : Str → Option Value} {base : Heap}
theorem sc_question : FnScope ["_law_source_here", "_law_name", "_law_known", "_law_cond", "_law_way", "_law_some", "_law_low", "_law_high"] ["_law_source_here", "_law_name", "_law_known"] (defScope s__law_question) := ⟨rfl, rfl, rfl, by decide +kernel, rfl, by decide +kernel, by decide +kernel⟩
theorem ok_question (T : Tx K mg) : Ok P w K mg base 7 (He.ga K "_law_question") ["_law_source_here", "_law_name", "_law_known"] (spQuestion K) := by
  obtain ⟨fd, F⟩ := T.f__law_question
  have O := ok_take (P := P) (w := w) (base := base) T
  have On := ok_names (P := P) (w := w) (base := base) T
  have Op := ok_perhaps (P := P) (w := w) (base := base) T
  refine ⟨fd, F.ok (k := 6) sc_question (fun vs H Q E h => ?_) (fun cdv A outer s' H vs Q E hr h => ?_), F.bindsN fun _ _ _ _ _ _ us hl => match us, hl with | [_, _, _], _ => rfl, F.kp⟩
  · obtain ⟨M, s, kn, ks, nm, rfl, _⟩ := h
    rfl
  obtain ⟨M, s, kn, ks, nm, rfl, hM, hA, hkM, hkl, hnm, q⟩ := h
  have hr1 := hr.mono (show 1 ≤ 6 by decide)
  have hr2 := hr.mono (show 2 ≤ 6 by decide)
  refine ⟨_, pss_cons (ps_set (i := 3) sc_question.nd rfl (Or.inl rfl) (pe_f Op hr T.g__law_perhaps (pa_cons (pv 0) (pa_cons (pv 2) pa_nil))))
    (pss_cons (ps_set (i := 4) sc_question.nd rfl (Or.inl rfl) (pe_f O hr1 T.g__law_take (pa_cons (pv 0) (pa_cons pe_int pa_nil))))
    (pss_cons (ps_if (pt_cmpR op_lt (pv 4) pe_int (nomark _))
      (pss_cons (ps_set (i := 5) sc_question.nd rfl (Or.inl rfl) (pe_f On hr2 T.g__law_names (pa_cons (pv 0) (pa_cons (pe_ix ix_list (pe_lst (pa_cons pe_int (pa_cons pe_int (pa_cons pe_int (pa_cons pe_int (pa_cons pe_int (pa_cons pe_int pa_nil))))))) (pe_f O hr1 T.g__law_take (pa_cons (pv 0) (pa_cons pe_int pa_nil))) (fun _ _ => rfl)) pa_nil))))
      (pss_cons (ps_expr (pe_bm PySem.F.plainAttrs_list PySem.F.slot_list_append PySem.F.type_list_append mt_append (pv 2) (pa_cons (pe_tup (pa_cons (pv 1) (pa_cons pe_str (pa_cons (pv 5) pa_nil)))) pa_nil)))
      (pss_one (ps_ret (pe_tup (pa_cons pe_str (pa_cons (pv 1) (pa_cons (pv 5) (pa_cons (pv 3) pa_nil)))))))))
      pss_nil)
    (pss_cons (ps_if (pt_cmpR op_eq (pv 4) pe_int (nomark _))
      (pss_cons (ps_set (i := 5) sc_question.nd rfl (Or.inl rfl) (pe_f On hr2 T.g__law_names (pa_cons (pv 0) (pa_cons (pe_op op_add pe_int (pe_f O hr1 T.g__law_take (pa_cons (pv 0) (pa_cons pe_int pa_nil)))) pa_nil))))
      (pss_cons (ps_expr (pe_bm PySem.F.plainAttrs_list PySem.F.slot_list_append PySem.F.type_list_append mt_append (pv 2) (pa_cons (pe_tup (pa_cons (pv 1) (pa_cons pe_str (pa_cons (pv 5) pa_nil)))) pa_nil)))
      (pss_one (ps_ret (pe_tup (pa_cons pe_str (pa_cons (pv 1) (pa_cons (pv 5) (pa_cons (pv 3) pa_nil)))))))))
      pss_nil)
    (pss_cons (ps_set (i := 6) sc_question.nd rfl (Or.inl rfl) (pe_ix ix_list (pe_lst (pa_cons pe_int (pa_cons pe_int (pa_cons pe_int (pa_cons (pe_un un_neg pe_int) (pa_cons (pe_op op_sub pe_int (pe_op op_pow pe_int pe_int)) pa_nil)))))) (pe_f O hr1 T.g__law_take (pa_cons (pv 0) (pa_cons pe_int pa_nil))) (fun _ _ => rfl)))
    (pss_cons (ps_set (i := 7) sc_question.nd rfl (Or.inl rfl) (pe_op op_add (pv 6) (pe_ix ix_list (pe_lst (pa_cons pe_int (pa_cons pe_int (pa_cons pe_int (pa_cons pe_int (pa_cons (pe_op op_pow pe_int pe_int) pa_nil)))))) (pe_f O hr1 T.g__law_take (pa_cons (pv 0) (pa_cons pe_int pa_nil))) (fun _ _ => rfl))))
    (pss_cons (ps_expr (pe_bm PySem.F.plainAttrs_list PySem.F.slot_list_append PySem.F.type_list_append mt_append (pv 2) (pa_cons (pe_tup (pa_cons (pv 1) (pa_cons pe_str (pa_cons (pe_tup (pa_cons (pv 6) (pa_cons (pv 7) pa_nil))) pa_nil)))) pa_nil)))
    (pss_one (ps_ret (pe_tup (pa_cons pe_str (pa_cons (pv 1) (pa_cons (pv 6) (pa_cons (pv 7) (pa_cons (pv 3) pa_nil)))))))))))))), ?_⟩
  walk_at "go"
  refine ⟨M, s, kn, ks, rfl, hM, hA, fun wv H1 wc e1 s1 hw w1 w2 => ?_⟩
  have hWB : WB wc := ⟨by omega, by omega⟩
  walk_at "go"
  refine ⟨s, _, rfl, s1, by decide, by decide, fun r1 H2 h0 h1 e2 s2 => ?_⟩
  have B2 : BM [s] H H2 := e1.trans e2
  have sM : ∀ b ∈ [s], b ∈ M := fun b hb => by rw [List.mem_singleton.mp hb]; exact hA.sm
  have skM : ∀ b ∈ [s, kn], b ∈ M := fun b hb => by
    rcases List.mem_cons.mp hb with h | h
    · rw [h]; exact hA.sm
    · rw [List.mem_singleton.mp h]; exact hkM
  have s2k : ∀ b ∈ [s], b ∈ [s, kn] := fun b hb => by rw [List.mem_singleton.mp hb]; exact List.mem_cons_self ..
  have hw2 := hw.same (e2.mono sM).less
  have nek := hA.ne
  -- the rest once the options' list stands
  have fin : ∀ (knd : Str) (C : Str → List Str → Kn) (D : Str → List Str → Option Cd → Rw) (H3 : Hp) (l : Addr) (os : List Str) (x6 x7 : Option V), BM [s] H H3 → Src H3 s → H3 l = some (.lst (os.map V.str)) → l ∉ M → 0 < os.length → os.length ≤ 6 → (∀ n ∈ os, n.length ≤ 100) → DW (less H3 M) wv wc →
      (∀ (B : Hp) (t : Addr), B t = some (.tup [.str nm, .str knd, .ref l]) → B l = some (.lst (os.map V.str)) → KE B (.ref t) (C nm os)) → (∀ (B : Hp) (t : Addr), B t = some (.tup [.str knd, .str nm, .ref l, wv]) → B l = some (.lst (os.map V.str)) → DW B wv wc → DR B (.ref t) (D nm os wc)) → RB 6 (D nm os wc) → (D nm os wc).cnt = 1 → (D nm os wc).dep = 0 →
      ∀ t, H3 t = none → rAppend (.ref kn) [.ref t] (upd H3 t (.tup [.str nm, .str knd, .ref l])) fun _ H4 => ∀ t2, H4 t2 = none → Q (.ref t2) (upd H4 t2 (.tup [.str knd, .str nm, .ref l, wv])) := by
    intro knd C D H3 l os x6 x7 e3 s3 hl lM l0 l6 ln hw3 hK hD hB hc hd t ht
    have e4 : BM [s] H (upd H3 t (.tup [.str nm, .str knd, .ref l])) := e3.same (Same.new ht _)
    have tM : t ∉ M := (hM.bm e3).new ht
    have A4 := hA.bm e4 (s3.same (Same.new ht _))
    have ls : Same (less H3 M) (less (upd H3 t (.tup [.str nm, .str knd, .ref l])) M) := (BM.of (M := M) (Same.new ht _)).less
    have hl4 := ls _ _ (less_of hl lM)
    obtain ⟨xs, g1, g2, g3⟩ := A4.kl.add hkM (hK _ t (less_of upd_same tM) hl4)
    refine ⟨kn, xs, _, rfl, rfl, g1, Nat.lt_of_le_of_lt (show xs.length ≤ 200 by omega) (by decide), fun t2 ht2 => ?_⟩
    have h4n : (upd H3 t (.tup [.str nm, .str knd, .ref l])) kn ≠ none := by rw [g1]; exact fun z => by cases z
    have e5 : BM [s, kn] H (upd (upd H3 t (.tup [.str nm, .str knd, .ref l])) kn (.lst (xs ++ [.ref t]))) := (e4.mono s2k).trans (BM.upd (List.mem_cons_of_mem _ (List.mem_singleton.mpr rfl)) _)
    have e6 := e5.same (Same.new ht2 (.tup [.str knd, .str nm, .ref l, wv]))
    have t2M : t2 ∉ M := (hM.bm e5).new ht2
    have ls2 := (BM.of (M := M) (Same.new ht2 (.tup [.str knd, .str nm, .ref l, wv]))).less
    refine q _ _ (D nm os wc) (C nm os) e6 ?_ ?_ (hD _ _ (less_of upd_same t2M) (ls2 _ _ (by rw [less_upd hkM]; exact hl4)) (by exact (DW.same (by rw [less_upd hkM]; exact ls) hw3).same ls2)) hB hc hd
    · have := A4.src.bm (M := [kn]) (BM.upd (List.mem_singleton.mpr rfl) (.lst (xs ++ [.ref t]))) (by simpa using Ne.symm nek)
      exact this.same (Same.new ht2 _)
    · exact g3.bm (N := []) (BM.of (Same.new ht2 _)) (by simp) (by simp)
  have names : ∀ (knd : Str) (C : Str → List Str → Kn) (D : Str → List Str → Option Cd → Rw) (m : Nat) (H3 : Hp) (x5 x6 x7 : Option V), BM [s] H2 H3 → Src H3 s → 0 < m → m ≤ 6 → (∀ a b, (D a b wc).cnt = 1) → (∀ a b, (D a b wc).dep = 0) → (∀ a b, a.length ≤ 100 → b.length ≤ 6 → (∀ o ∈ b, o.length ≤ 100) → RB 6 (D a b wc)) →
      (∀ (B : Hp) (t l : Addr) (n : Str) (os : List Str), B t = some (.tup [.str n, .str knd, .ref l]) → B l = some (.lst (os.map V.str)) → 0 < os.length → os.length ≤ 100 → n.length ≤ 100 → KE B (.ref t) (C n os)) →
      (∀ (B : Hp) (t l : Addr) (n : Str) (os : List Str), B t = some (.tup [.str knd, .str n, .ref l, wv]) → B l = some (.lst (os.map V.str)) → DW B wv wc → DR B (.ref t) (D n os wc)) →
      spNames K ([.ref s, .int (m : Int)] ++ []) H3 (fun x H' => tSeq (tDrop (tBM K "list" rAppend (tVar 2) (tCons (tTup (tCons (tVar 1) (tCons (tC (.str knd)) (tCons (tVar 5) tNil)))) tNil))) (tRet (tTup (tCons (tC (.str knd)) (tCons (tVar 1) (tCons (tVar 5) (tCons (tVar 3) tNil))))))
        { nx := fun _ H' => Q .non H', rt := Q } [some (.ref s), some (.str nm), some (.ref kn), some wv, some (.int r1), some x, x6, x7] H') E0 := by
    intro knd C D m H3 x5 x6 x7 e3 s3 m0 m6 hc hd hB hK hD
    refine ⟨s, m, rfl, s3, by omega, fun l H4 os hln e4 s4 hl hlen hos => ?_⟩
    have B4 : BM [s] H H4 := (B2.trans e3).trans e4
    have lM : l ∉ M := ((hM.bm B2).bm e3).new hln
    walk_at "go"
    refine ⟨_, rfl, .inl ⟨rfl, _, SqL.of (B4.at (hA.kl.choose_spec.1) (by simpa using nek))⟩, ?_⟩
    walk_at "go"
    refine ⟨(by show 3 ≤ sizeLine; decide), fun t ht => ?_⟩
    walk_at "go"
    have f := fin knd C D H4 l os x6 x7 B4 s4 hl lM (by omega) (by omega) hos (hw2.same ((e3.trans e4).mono sM).less) (fun B t h1 h2 => hK B t l nm os h1 h2 (by omega) (by omega) hnm) (fun B t h1 h2 h3 => hD B t l nm os h1 h2 h3) (hB _ _ hnm (by omega) hos) (hc _ _) (hd _ _) t ht
    obtain ⟨a, xs, y, z1, z2, z3, z4, z5⟩ := f
    refine ⟨a, xs, y, z1, z2, z3, z4, ?_⟩
    walk_at "go"
    exact ⟨(by show 4 ≤ sizeLine; decide), z5⟩
  walk_at "go"
  by_cases c1 : r1 < 3
  · rw [decide_eq_true c1]
    walk_at "go"
    refine ⟨(by show 6 ≤ sizeLine; decide), fun p hp => ?_⟩
    walk_at "go"
    refine ⟨s, _, rfl, s2.same (Same.new hp _), by decide, by decide, fun r2 H3 h2 h3 e3 s3 => ?_⟩
    obtain ⟨v, hv, hv2⟩ := at_in h2 (show r2 < (([V.int 2, .int 2, .int 3, .int 1, .int 6, .int 4].length : Nat) : Int) from h3)
    obtain ⟨m, rfl, m0, m6⟩ := nat_of hv2 (m := 6) (by decide)
    have ps : p ≠ s := fun z => by obtain ⟨_, _, _, z2⟩ := s2; rw [← z, hp] at z2; cases z2
    refine w_ixL (e3.at upd_same (by simpa using ps)) hv ?_
    walk_at "go"
    exact names "one" .one .one m H3 none none none ((BM.of (Same.new hp _)).trans e3) s3 m0 m6 (fun _ _ => by unfold Rw.cnt; rfl) (fun _ _ => by unfold Rw.dep; rfl) (fun a b h1 h2 h3 => by unfold RB; exact ⟨h1, h2, h3, hWB⟩) (fun _ _ _ _ _ a b c d e => .one a b c d e) (fun _ _ _ _ _ a b c => .one a b c)
  rw [decide_eq_false c1]
  walk_at "go"
  refine ⟨rfl, ?_⟩
  rw [dec_int]
  by_cases c2 : r1 = 3
  · rw [decide_eq_true c2]
    walk_at "go"
    refine ⟨s, _, rfl, s2, by decide, by decide, fun r2 H3 h2 h3 e3 s3 => ?_⟩
    walk_at "go"
    have em : (1 + r2 : Int) = (((1 + r2).toNat : Nat) : Int) := by omega
    rw [em]
    exact names "some" .some .some (1 + r2).toNat H3 none none none e3 s3 (by omega) (by omega) (fun _ _ => by unfold Rw.cnt; rfl) (fun _ _ => by unfold Rw.dep; rfl) (fun a b h1 h2 h3 => by unfold RB; exact ⟨h1, h2, h3, hWB⟩) (fun _ _ _ _ _ a b c d e => .some a b c d e) (fun _ _ _ _ _ a b c => .some a b c)
  rw [decide_eq_false c2]
  walk_at "go"
  refine ⟨7, rfl, ?_⟩
  walk_at "go"
  refine w_i (by refine ⟨?_, ?_, ?_⟩ <;> decide) ?_
  walk_at "go"
  refine ⟨(by show 5 ≤ sizeLine; decide), fun p hp => ?_⟩
  have ps : p ≠ s := fun z => by obtain ⟨_, _, _, z2⟩ := s2; rw [← z, hp] at z2; cases z2
  walk_at "go"
  refine ⟨s, _, rfl, s2.same (Same.new hp _), by decide, by decide, fun r2 H3 h2 h3 e3 s3 => ?_⟩
  obtain ⟨v, hv, hv2⟩ := at_in h2 (show r2 < (([V.int 0, .int 0, .int 1, .int (-7), .int (0 - 10 ^ (9 : Int).toNat)].length : Nat) : Int) from h3)
  obtain ⟨lo, rfl, lo0, lo1⟩ := int_of hv2 (lo := -1000000000) (hi := 1) (by decide)
  refine w_ixL (e3.at upd_same (by simpa using ps)) hv ?_
  walk_at "go"
  refine w_i (by refine ⟨?_, ?_, ?_⟩ <;> decide) ?_
  walk_at "go"
  refine ⟨(by show 5 ≤ sizeLine; decide), fun p2 hp2 => ?_⟩
  have ps2 : p2 ≠ s := fun z => by obtain ⟨_, _, _, z2⟩ := s3; rw [← z, hp2] at z2; cases z2
  walk_at "go"
  refine ⟨s, _, rfl, s3.same (Same.new hp2 _), by decide, by decide, fun r3 H4 h4 h5 e4 s4 => ?_⟩
  obtain ⟨v4, hv4, hv5⟩ := at_in h4 (show r3 < (([V.int 0, .int 1, .int 3, .int 4, .int (10 ^ (11 : Int).toNat)].length : Nat) : Int) from h5)
  obtain ⟨hi, rfl, hi0, hi1⟩ := int_of hv5 (lo := 0) (hi := 100000000000) (by decide)
  refine w_ixL (e4.at upd_same (by simpa using ps2)) hv4 ?_
  have B4 : BM [s] H H4 := ((B2.same (Same.new hp _)).trans e3).trans ((BM.of (Same.new hp2 _)).trans e4)
  walk_at "go"
  refine ⟨_, rfl, .inl ⟨rfl, _, SqL.of (B4.at (hA.kl.choose_spec.1) (by simpa using nek))⟩, ?_⟩
  walk_at "go"
  refine ⟨(by show 2 ≤ sizeLine; decide), fun t0 ht0 => ?_⟩
  walk_at "go"
  refine ⟨(by show 3 ≤ sizeLine; decide), fun t ht => ?_⟩
  have B5 : BM [s] H (upd H4 t0 (.tup [.int lo, .int (lo + hi)])) := B4.same (Same.new ht0 _)
  have B6 := B5.same (Same.new ht (.tup [.str nm, .str "number", .ref t0]))
  have t0M : t0 ∉ M := (hM.bm B4).new ht0
  have tM : t ∉ M := (hM.bm B5).new ht
  have s6 := (s4.same (Same.new ht0 (.tup [.int lo, .int (lo + hi)]))).same (Same.new ht (.tup [.str nm, .str "number", .ref t0]))
  have A6 := hA.bm B6 s6
  have h0 : less (upd (upd H4 t0 (.tup [.int lo, .int (lo + hi)])) t (.tup [.str nm, .str "number", .ref t0])) M t0 = some (.tup [.int lo, .int (lo + hi)]) := less_of ((Same.new ht _) _ _ upd_same) t0M
  obtain ⟨xs, g1, g2, g3⟩ := A6.kl.add hkM (KE.num (less_of upd_same tM) h0 (by omega) (by omega) hnm)
  walk_at "go"
  refine ⟨kn, xs, _, rfl, rfl, g1, Nat.lt_of_le_of_lt (show xs.length ≤ 200 by omega) (by decide), ?_⟩
  walk_at "go"
  refine ⟨(by show 5 ≤ sizeLine; decide), fun t2 ht2 => ?_⟩
  have e5 : BM [s, kn] H (upd (upd (upd H4 t0 (.tup [.int lo, .int (lo + hi)])) t (.tup [.str nm, .str "number", .ref t0])) kn (.lst (xs ++ [.ref t]))) := (B6.mono s2k).trans (BM.upd (List.mem_cons_of_mem _ (List.mem_singleton.mpr rfl)) _)
  have t2M : t2 ∉ M := (hM.bm e5).new ht2
  have ls2 := (BM.of (M := M) (Same.new ht2 (.tup [.str "number", .str nm, .int lo, .int (lo + hi), wv]))).less
  have lw : Same (less H2 M) (less (upd (upd (upd H4 t0 (.tup [.int lo, .int (lo + hi)])) t (.tup [.str nm, .str "number", .ref t0])) kn (.lst (xs ++ [.ref t]))) M) := by
    rw [less_upd hkM]
    exact (((((BM.of (Same.new hp _)).trans e3).trans ((BM.of (Same.new hp2 _)).trans e4)).same (Same.new ht0 _)).same (Same.new ht _)).mono sM |>.less
  refine q _ _ (.number nm lo (lo + hi) wc) (.num nm lo (lo + hi)) (e5.same (Same.new ht2 _)) ?_ ?_ (.number (less_of upd_same t2M) ((hw2.same lw).same ls2)) (by unfold RB; exact ⟨hnm, hWB⟩) (by unfold Rw.cnt; rfl) (by unfold Rw.dep; rfl)
  · have := s6.bm (M := [kn]) (BM.upd (List.mem_singleton.mpr rfl) (.lst (xs ++ [.ref t]))) (by simpa using Ne.symm nek)
    exact this.same (Same.new ht2 _)
  · exact g3.bm (N := []) (BM.of (Same.new ht2 _)) (by simp) (by simp)
end
end K3
end L7_part
section L8_part
set_option Elab.async false
set_option linter.all false
set_option maxRecDepth 100000
set_option maxHeartbeats 1000000
set_option pp.deepTerms.threshold 5
open PySem PySem.Spec PyProof.Rows L2
/-- go on as far as nothing is open -/
local macro_rules | `(tactic| walk_at "go") => `(tactic| repeat (first
  | with_reducible refine w_seq ?_ | with_reducible refine w_next ?_ | with_reducible refine w_set ?_ | with_reducible refine w_drop ?_ | with_reducible refine w_ret ?_ | with_reducible refine w_retN ?_
  | with_reducible refine w_if ?_ | ((with_reducible refine' w_var ?hv ?_); (case hv => exact rfl)) | with_reducible refine w_c ?_ | with_reducible refine w_nil ?_ | with_reducible refine w_cons ?_ | with_reducible refine w_op ?_ | with_reducible refine w_un ?_
  | with_reducible refine w_test ?_ | with_reducible refine w_tB ?_ | with_reducible refine w_not ?_ | with_reducible refine w_and ?_ | with_reducible refine w_or ?_ | with_reducible refine w_bl ?_
  | with_reducible refine w_andV ?_ | with_reducible refine w_orV ?_ | with_reducible refine w_notV ?_ | with_reducible refine w_ifE ?_ | with_reducible refine w_chain ?_ | with_reducible refine w_i0 ?_
  | with_reducible refine w_call ?_ | with_reducible refine w_callS ?_ | with_reducible refine w_cB ?_ | with_reducible refine w_tup ?_ | with_reducible refine w_lst ?_ | with_reducible refine w_fldV ?_
  | with_reducible refine w_neF ?_ | with_reducible refine w_neT ?_ | with_reducible refine w_notN ?_ | with_reducible refine w_isN ?_ | with_reducible refine w_gname ?_ | with_reducible refine w_gsub ?_ | with_reducible refine w_asg ?_ | with_reducible refine w_sl ?_ | with_reducible refine w_noP ?_ | with_reducible refine w_int1 ?_ | with_reducible refine w_part ?_ | with_reducible refine w_yes ?_ | with_reducible refine w_nT ?_ | with_reducible refine w_nF ?_ | with_reducible refine w_iteT ?_ | with_reducible refine w_iteF ?_))
namespace K3
structure Bg (M : List Addr) (H : Hp) (s nh kn : Addr) (j : Nat) : Prop where
  inM : In M H
  sM : s ∈ M
  nM : nh ∈ M
  kM : kn ∈ M
  n1 : nh ≠ s
  n2 : nh ≠ kn
  n3 : kn ≠ s
  src : Src H s
  bag : ∃ (ks : List Kn) (ns : List Str), KL M H kn ks ∧ H nh = some (.lst (ns.map V.str)) ∧ (∀ n ∈ ns, n.length ≤ 100) ∧ ks.length + ns.length ≤ 100 ∧ ns.length ≤ j
theorem Bg.ah {M : List Addr} {H : Hp} {s nh kn : Addr} {j : Nat} (b : Bg M H s nh kn j) {ks : List Kn} (h : KL M H kn ks) (l : ks.length ≤ 100) : Ah M H s kn ks := ⟨b.src, h, b.sM, b.n3, by omega⟩
theorem Bg.bm {M : List Addr} {H H' : Hp} {s nh kn : Addr} {j : Nat} (b : Bg M H s nh kn j) (e : BM [s] H H') (hs : Src H' s) : Bg M H' s nh kn j := by
  obtain ⟨ks, ns, h1, h2, h3, h4, h5⟩ := b.bag
  exact ⟨b.inM.bm e, b.sM, b.nM, b.kM, b.n1, b.n2, b.n3, hs, ks, ns, h1.bm e (by simpa using b.n3) (fun c hc => by rw [List.mem_singleton.mp hc]; exact b.sM), e.at h2 (by simpa using b.n1), h3, h4, h5⟩
theorem Bg.same {M : List Addr} {H H' : Hp} {s nh kn : Addr} {j : Nat} (b : Bg M H s nh kn j) (e : Same H H') : Bg M H' s nh kn j := b.bm (BM.of e) (b.src.same e)
/-- one more that may change, new -/
theorem KL.more {M : List Addr} {H : Hp} {kn p : Addr} {ks : List Kn} (h : KL M H kn ks) (hp : H p = none) (o : HO) : KL (p :: M) (upd H p o) kn ks := by
  obtain ⟨xs, h1, h2⟩ := h
  refine ⟨xs, Same.new hp o _ _ h1, L2.Paired.mapP h2 fun _ _ q => q.same fun b u hb => ?_⟩
  have nb : b ≠ p := fun z => by have := (less_at hb).1; rw [z, hp] at this; cases this
  exact less_of (Same.new hp o _ _ (less_at hb).1) fun z => by
    rcases List.mem_cons.mp z with z | z
    · exact nb z
    · exact (less_at hb).2 z
theorem In.more {M : List Addr} {H : Hp} {p : Addr} (h : In M H) (hp : H p = none) (o : HO) : In (p :: M) (upd H p o) := fun m hm => by
  rcases List.mem_cons.mp hm with z | z
  · exact ⟨o, by rw [z]; exact upd_same⟩
  · obtain ⟨u, hu⟩ := h m z
    exact ⟨u, Same.new hp o _ _ hu⟩
theorem Bg.more {M : List Addr} {H : Hp} {s nh kn p : Addr} {j : Nat} (b : Bg M H s nh kn j) (hp : H p = none) (o : HO) : Bg (p :: M) (upd H p o) s nh kn j := by
  obtain ⟨ks, ns, h1, h2, h3, h4, h5⟩ := b.bag
  exact ⟨b.inM.more hp o, .tail _ b.sM, .tail _ b.nM, .tail _ b.kM, b.n1, b.n2, b.n3, b.src.same (Same.new hp o), ks, ns, h1.more hp o, Same.new hp o _ _ h2, h3, h4, h5⟩
theorem KL.fewer {M N : List Addr} {H : Hp} {kn : Addr} {ks : List Kn} (h : KL N H kn ks) (s : ∀ b ∈ M, b ∈ N) : KL M H kn ks := by
  obtain ⟨xs, h1, h2⟩ := h
  exact ⟨xs, h1, L2.Paired.mapP h2 fun _ _ q => q.same (less_sub s)⟩
theorem Bg.fewer {M N : List Addr} {H : Hp} {s nh kn : Addr} {j : Nat} (b : Bg N H s nh kn j) (k : ∀ b ∈ M, b ∈ N) (sM : s ∈ M) (nM : nh ∈ M) (kM : kn ∈ M) : Bg M H s nh kn j := by
  obtain ⟨ks, ns, h1, h2, h3, h4, h5⟩ := b.bag
  exact ⟨fun m hm => b.inM m (k m hm), sM, nM, kM, b.n1, b.n2, b.n3, b.src, ks, ns, h1.fewer k, h2, h3, h4, h5⟩
/-- a change of another in M -/
theorem Bg.set {M : List Addr} {H : Hp} {s nh kn p : Addr} {j : Nat} (b : Bg M H s nh kn j) (hp : p ∈ M) (ps : p ≠ s) (pn : p ≠ nh) (pk : p ≠ kn) (o : HO) : Bg M (upd H p o) s nh kn j := by
  obtain ⟨ks, ns, ⟨xs, h0, h1⟩, h2, h3, h4, h5⟩ := b.bag
  obtain ⟨a, c, d, hs⟩ := b.src
  refine ⟨fun m hm => ?_, b.sM, b.nM, b.kM, b.n1, b.n2, b.n3, ⟨a, c, d, by rw [upd_ne (Ne.symm ps)]; exact hs⟩, ks, ns, ⟨xs, by rw [upd_ne (Ne.symm pk)]; exact h0, by rw [less_upd hp]; exact h1⟩, by rw [upd_ne (Ne.symm pn)]; exact h2, h3, h4, h5⟩
  by_cases z : m = p
  · exact ⟨o, by rw [z]; exact upd_same⟩
  · rw [upd_ne z]; exact b.inM m hm
def cbT : Nat → Nat
  | 0 => 1
  | d + 1 => 1 + 2 * cbT d
def cbF : Nat → Nat
  | 0 => 1 + 3 * cbT 0
  | d + 1 => 1 + max (2 * cbF d) (3 * cbT (d + 1))
def cbt (b : Bool) (d : Nat) : Nat := if b = true then cbT d else cbF d
def muB (b : Bool) (d : Nat) : Nat := if b = true then d else d + 1
theorem cbt_pos (b : Bool) (d : Nat) : 1 ≤ cbt b d := by
  unfold cbt
  cases b <;> cases d <;> simp [cbT, cbF] <;> omega
theorem cbt_sect (b : Bool) (d : Nat) : 1 + 2 * cbt b d ≤ cbt b (d + 1) := by
  unfold cbt
  cases b
  · simp only [Bool.false_eq_true, if_false, cbF]; omega
  · simp only [if_true, cbT]; omega
theorem cbt_rounds (d : Nat) : 1 + 3 * cbt true d ≤ cbt false d := by
  unfold cbt
  cases d
  · simp only [Bool.false_eq_true, if_false, if_true, cbF]; omega
  · simp only [Bool.false_eq_true, if_false, if_true, cbF]; omega
/-- the rows drawn -/
def RetRs (M : List Addr) (s nh kn : Addr) (j c d : Nat) (H : Hp) (Q : VK) : Prop := ∀ p H' rs xs, H p = none → BM [s, nh, kn] H H' → Bg M H' s nh kn j → H' p = some (.lst xs) → DRs (less H' M) xs rs → RBs 6 rs → Rws.cnt rs ≤ c → Rws.dep rs ≤ d → Q (.ref p) H'
def spRows (K : PySem.W.Frag) (n : Nat) : Sp := fun vs H Q _ => ∃ (M : List Addr) (s nh kn pl : Addr) (j many : Nat) (ins : Bool) (deep : Nat), vs = [.ref s, .ref nh, .ref kn, .int (many : Int), .ref pl] ∧ H pl = some (.tup [.bl ins, .int (deep : Int)]) ∧ cbt ins deep ≤ 22 ∧ many ≤ 7 ∧ muB ins deep < n ∧
  Bg M H s nh kn j ∧ RetRs M s nh kn j (many * cbt ins deep) (muB ins deep) H Q
theorem DRs.app {B : Hp} : ∀ {xs ys : List V} {rs ss : List Rw}, DRs B xs rs → DRs B ys ss → DRs B (xs ++ ys) (rs ++ ss)
  | _, _, _, _, .nil, h => h
  | _, _, _, _, .cons a t, h => .cons a (DRs.app t h)
theorem DRs.len {B : Hp} : ∀ {xs : List V} {rs : List Rw}, DRs B xs rs → xs.length = rs.length
  | _, _, .nil => rfl
  | _, _, .cons _ t => congrArg (· + 1) (DRs.len t)
theorem Rws.dep_app (r : Rw) : ∀ rs : List Rw, Rws.dep (rs ++ [r]) = max (Rws.dep rs) r.dep
  | [] => by show Rws.dep [r] = _; unfold Rws.dep Rws.dep; omega
  | q :: rs => by
    show Rws.dep (q :: (rs ++ [r])) = _
    rw [Rws.dep, Rws.dep_app r rs, Rws.dep]
    omega
theorem Rws.len_cnt : ∀ rs : List Rw, rs.length ≤ Rws.cnt rs
  | [] => Nat.zero_le _
  | r :: rs => by
    have := Rws.len_cnt rs
    have h1 : 1 ≤ r.cnt := by cases r <;> unfold Rw.cnt <;> omega
    rw [Rws.cnt, List.length_cons]
    omega
theorem BM.fresh {M N : List Addr} {p : Addr} {H H1 H2 : Hp} (a : BM M H H1) (hp : H p = none) (b : BM N H1 H2) (h : ∀ c ∈ N, c = p ∨ c ∈ M) : BM M H H2 := fun c o hc => by
  obtain ⟨o1, h1, k1⟩ := a c o hc
  obtain ⟨o2, h2, k2⟩ := b c o1 h1
  refine ⟨o2, h2, fun z => (k2 fun q => ?_).trans (k1 z)⟩
  rcases h c q with e | e
  · rw [e, hp] at hc; cases hc
  · exact z e
/-- a test whose end is known up to R -/
theorem w_ifR {tt : TT} {t u : TS} {D : L2.Ends} {σ : L2.St} {H : Hp} (R : Bool → Hp → Prop) (h : ∀ QB : Bool → Hp → Prop, (∀ b H', R b H' → QB b H') → tt σ H QB) (h1 : ∀ H', R true H' → t D σ H') (h2 : ∀ H', R false H' → u D σ H') : tIfS tt t u D σ H :=
  h _ fun b H' r => by
    cases b with
    | true => exact h1 H' r
    | false => exact h2 H' r
theorem pop_last {ns : List Str} (h : ns ≠ []) : ∃ z, z ∈ ns ∧ (ns.map V.str)[(ns.map V.str).length - 1]? = some (.str z) := by
  have h0 : 0 < ns.length := List.length_pos_iff.mpr h
  refine ⟨ns[ns.length - 1], List.getElem_mem _, ?_⟩
  rw [List.getElem?_map, List.length_map, List.getElem?_eq_getElem (by omega)]
  rfl
theorem ke_parts {B : Hp} {x : V} {k : Kn} (h : KE B x k) : ∃ (t : Addr) (n kd : Str) (d : V), x = V.ref t ∧ B t = some (.tup [.str n, .str kd, d]) ∧ n.length ≤ 100 ∧ (kd = "number" → ∃ (t2 : Addr) (lo hi : Int), d = V.ref t2 ∧ B t2 = some (.tup [.int lo, .int hi])) := by
  cases h with
  | one a b c d e => exact ⟨_, _, _, _, rfl, a, e, fun z => absurd z (by decide +kernel)⟩
  | some a b c d e => exact ⟨_, _, _, _, rfl, a, e, fun z => absurd z (by decide +kernel)⟩
  | num a b c d e => exact ⟨_, _, _, _, rfl, a, e, fun _ => ⟨_, _, _, rfl, b⟩⟩
theorem Bg.pop {M : List Addr} {H : Hp} {s nh kn : Addr} {j : Nat} {ks : List Kn} {ns : List Str} (b : Bg M H s nh kn j) (hk : KL M H kn ks) (h1 : ∀ n ∈ ns, n.length ≤ 100) (h2 : ks.length + ns.length ≤ 100) (h3 : ns.length ≤ j) (ne : ns ≠ []) :
    Bg M (upd H nh (.lst (ns.map V.str).dropLast)) s nh kn j ∧ KL M (upd H nh (.lst (ns.map V.str).dropLast)) kn ks ∧ BM [s, nh, kn] H (upd H nh (.lst (ns.map V.str).dropLast)) ∧ (upd H nh (.lst (ns.map V.str).dropLast)) nh = some (.lst (ns.dropLast.map V.str)) ∧ ks.length + ns.dropLast.length + 1 ≤ 100 := by
  have hl : ns.dropLast.length + 1 = ns.length := by
    rw [List.length_dropLast]
    have := List.length_pos_iff.mpr ne
    omega
  have e : (upd H nh (.lst (ns.map V.str).dropLast)) nh = some (.lst (ns.dropLast.map V.str)) := by rw [upd_same, List.map_dropLast]
  have k : KL M (upd H nh (.lst (ns.map V.str).dropLast)) kn ks := by
    obtain ⟨xs, x1, x2⟩ := hk
    exact ⟨xs, by rw [upd_ne (Ne.symm b.n2)]; exact x1, by rw [less_upd b.nM]; exact x2⟩
  have fr : BM [s, nh, kn] H (upd H nh (.lst (ns.map V.str).dropLast)) := BM.upd (.tail _ (.head _)) _
  obtain ⟨a, c, d, hs⟩ := b.src
  exact ⟨⟨b.inM.bm fr, b.sM, b.nM, b.kM, b.n1, b.n2, b.n3, ⟨a, c, d, by rw [upd_ne (Ne.symm b.n1)]; exact hs⟩, ks, ns.dropLast, k, e, fun n hn => h1 n (List.dropLast_subset _ hn), by omega, by omega⟩, k, fr, e, by omega⟩
theorem muB_sect (b : Bool) (d : Nat) : muB b (d + 1) = muB b d + 1 := by cases b <;> rfl
section
variable {P : Program} {w : World} {K : PySem.W.Frag} {mg : Str → Option Value} {base : Heap}
theorem sc_rows : FnScope ["_law_source_here", "_law_names_here", "_law_known", "_law_many", "_law_place", "_law_is_inside", "_law_deep", "_law_found", "_law_k", "_law_way", "_law_counts", "_law_one", "_law_cond", "_law_count", "_law_inner", "_law_name"] ["_law_source_here", "_law_names_here", "_law_known", "_law_many", "_law_place"] (defScope s__law_rows) := ⟨rfl, rfl, rfl, by decide +kernel, rfl, by decide +kernel, by decide +kernel⟩
theorem ok_rows (T : Tx K mg) (n : Nat) : Ok P w K mg base (n + 8) (He.ga K "_law_rows") ["_law_source_here", "_law_names_here", "_law_known", "_law_many", "_law_place"] (spRows K n) := by
  induction n with
  | zero =>
    obtain ⟨fd, F⟩ := T.f__law_rows
    exact ⟨fd, ok_none' fun vs H Q E ⟨_, _, _, _, _, _, _, _, _, _, _, _, _, h, _⟩ => absurd h (Nat.not_lt_zero _), F.bindsN fun _ _ _ _ _ _ us hl => match us, hl with | [_, _, _, _, _], _ => rfl, F.kp⟩
  | succ n Orw =>
  obtain ⟨fd, F⟩ := T.f__law_rows
  have O := ok_take (P := P) (w := w) (base := base) T
  have Oq := ok_question (P := P) (w := w) (base := base) T
  have Oc := ok_condition (P := P) (w := w) (base := base) T 3
  have Op := ok_perhaps (P := P) (w := w) (base := base) T
  refine ⟨fd, F.ok (k := n + 8) sc_rows (fun vs H Q E h => ?_) (fun cdv A outer s' H vs Q E hr h => ?_), F.bindsN fun _ _ _ _ _ _ us hl => match us, hl with | [_, _, _, _, _], _ => rfl, F.kp⟩
  · obtain ⟨M, s, nh, kn, pl, j, many, ins, deep, rfl, _⟩ := h
    rfl
  obtain ⟨M, s, nh, kn, pl, j, many, ins, deep, rfl, hpl, hcb, hmany, hmu, hb, q⟩ := h
  have hu := hr.units
  have hr1 := hr.mono (show 1 ≤ n + 8 by omega)
  have hr5 := hr.mono (show 5 ≤ n + 8 by omega)
  have hr6 := hr.mono (show 6 ≤ n + 8 by omega)
  have hr7 := hr.mono (show 7 ≤ n + 8 by omega)
  have hu65 : (A.deeper (envOfC (Str.ofString "_law_rows") (defScope s__law_rows) s'.heap.objs.size (He.ga K (Str.ofString "_law_rows")) cdv)).units + 65 < cLine := by have := hr.un; omega
  refine ⟨_, pss_cons (ps_asg (pv 4) (pg_tup rfl (pgs_cons (pg_name (i := 5) sc_rows.nd rfl (Or.inl rfl)) (pgs_cons (pg_name (i := 6) sc_rows.nd rfl (Or.inl rfl)) pgs_nil))))
      (pss_cons (ps_set (i := 7) sc_rows.nd rfl (Or.inl rfl) (pe_lst pa_nil))
      (pss_cons (ps_for (passes_of rfl) rfl (pi_range1 rfl T.z_range (pa_cons (pv 3) pa_nil)) (pg_name (i := 8) sc_rows.nd rfl (Or.inl rfl)) (pss_cons (ps_set (i := 9) sc_rows.nd rfl (Or.inl rfl) (pe_f O hr1 T.g__law_take (pa_cons (pv 0) (pa_cons pe_int pa_nil))))
      (pss_cons (by exact ps_setLc (i := 10) (own := [("_law_one", 11)]) (g := gName 11) (tt := (tAnd (tTest (tOp rEq (tOp (rIxT K) (tVar 11) (tC (.int 1))) (tC (.str "number")))) (tTest (tOp (rInD K) (tOp (rIxT K) (tVar 11) (tC (.int 2))) (tLst (tCons (tTup (tCons (tC (.int 0)) (tCons (tC (.int 0)) tNil))) (tCons (tTup (tCons (tC (.int 0)) (tCons (tC (.int 1)) tNil))) (tCons (tTup (tCons (tC (.int 0)) (tCons (tC (.int 3)) tNil))) (tCons (tTup (tCons (tC (.int 0)) (tCons (tC (.int 4)) tNil))) (tCons (tTup (tCons (tC (.int 1)) (tCons (tC (.int 4)) tNil))) tNil)))))))))) (te := (tOp (rIxT K) (tVar 11) (tC (.int 0)))) (by rfl) sc_rows.nd rfl rfl (by rfl) (pi_list (pv 2)) (blkOk_by (own := [("_law_one", 11)]) (N := ["_law_source_here", "_law_names_here", "_law_known", "_law_many", "_law_place", "_law_is_inside", "_law_deep", "_law_found", "_law_k", "_law_way", "_law_counts", "_law_one", "_law_cond", "_law_count", "_law_inner", "_law_name"]) (sc := defScope s__law_rows) (by decide +kernel)) (fun _ _ _ _ _ => pg_name (i := 11) sc_rows.nd rfl (Or.inl rfl)) (fun _ _ _ _ _ => pts_one (pw_and (pt_cmpR op_eq (pe_ix ix_tup (pv 11) pe_int (fun _ _ => rfl)) pe_str (nomark _)) (pw_and1 (pt_cmpR (op_inD hu65) (pe_ix ix_tup (pv 11) pe_int (fun _ _ => rfl)) (pe_lst (pa_cons (pe_tup (pa_cons pe_int (pa_cons pe_int pa_nil))) (pa_cons (pe_tup (pa_cons pe_int (pa_cons pe_int pa_nil))) (pa_cons (pe_tup (pa_cons pe_int (pa_cons pe_int pa_nil))) (pa_cons (pe_tup (pa_cons pe_int (pa_cons pe_int pa_nil))) (pa_cons (pe_tup (pa_cons pe_int (pa_cons pe_int pa_nil))) pa_nil)))))) (by rfl)))).pt) (fun _ _ _ _ _ => (pe_ix ix_tup (pv 11) pe_int (fun _ _ => rfl))))
      (pss_cons (ps_if (pt_cmpR (op_eqE hr.units0) (pv 1) (pe_lst pa_nil) (nomark _)) (pss_one (ps_ret (pv 7))) pss_nil)
      (pss_one (ps_if (pw_and (pt_cmpR op_eq (pv 9) pe_int (nomark _)) (pw_and (pt_not (pt_val (pv 5))) (pw_and1 (pt_cmpR (op_neE hr.units0) (pv 10) (pe_lst pa_nil) (nomark _))))).pt (pss_cons (ps_set (i := 12) sc_rows.nd rfl (Or.inl rfl) (pe_f Op hr6 T.g__law_perhaps (pa_cons (pv 0) (pa_cons (pv 2) pa_nil))))
      (pss_cons (ps_set (i := 13) sc_rows.nd rfl (Or.inl rfl) (pe_ix ix_list (pv 10) (pe_f O hr1 T.g__law_take (pa_cons (pv 0) (pa_cons (pe_callB call_len_seq (by rfl) T.z_len PySem.boot_len (pa_cons (pv 10) pa_nil)) pa_nil))) (fun _ _ => rfl)))
      (pss_cons (ps_set (i := 14) sc_rows.nd rfl (Or.inl rfl) (pe_f Orw hr T.g__law_rows (pa_cons (pv 0) (pa_cons (pv 1) (pa_cons (pe_callTy call_list_of (by rfl) T.z_list (by decide +kernel) (pa_cons (pv 2) pa_nil)) (pa_cons (pe_op op_add pe_int (pe_f O hr1 T.g__law_take (pa_cons (pv 0) (pa_cons pe_int pa_nil)))) (pa_cons (pe_tup (pa_cons pe_bl (pa_cons (pv 6) pa_nil))) pa_nil)))))))
      (pss_one (ps_expr (pe_bm PySem.F.plainAttrs_list PySem.F.slot_list_append PySem.F.type_list_append mt_append (pv 7) (pa_cons (pe_tup (pa_cons pe_str (pa_cons (pv 13) (pa_cons (pv 14) (pa_cons (pv 12) pa_nil))))) pa_nil))))))) (pss_one (ps_if (pw_and (pt_cmpR op_eq (pv 9) pe_int (nomark _)) (pw_and1 (pt_cmpR op_gt (pv 6) pe_int (nomark _)))).pt (pss_cons (ps_set (i := 12) sc_rows.nd rfl (Or.inl rfl) (pe_f Op hr6 T.g__law_perhaps (pa_cons (pv 0) (pa_cons (pv 2) pa_nil))))
      (pss_cons (ps_set (i := 14) sc_rows.nd rfl (Or.inl rfl) (pe_f Orw hr T.g__law_rows (pa_cons (pv 0) (pa_cons (pv 1) (pa_cons (pv 2) (pa_cons (pe_op op_add pe_int (pe_f O hr1 T.g__law_take (pa_cons (pv 0) (pa_cons pe_int pa_nil)))) (pa_cons (pe_tup (pa_cons (pv 5) (pa_cons (pe_op op_sub (pv 6) pe_int) pa_nil))) pa_nil)))))))
      (pss_one (ps_expr (pe_bm PySem.F.plainAttrs_list PySem.F.slot_list_append PySem.F.type_list_append mt_append (pv 7) (pa_cons (pe_tup (pa_cons pe_str (pa_cons (pv 14) (pa_cons (pv 12) pa_nil)))) pa_nil)))))) (pss_one (ps_if (pw_and (pt_cmpR op_eq (pv 9) pe_int (nomark _)) (pw_and1 (pt_cmpR (op_neE hr.units0) (pv 2) (pe_lst pa_nil) (nomark _)))).pt (pss_cons (ps_set (i := 15) sc_rows.nd rfl (Or.inl rfl) (pe_bm0 PySem.F.plainAttrs_list PySem.F.slot_list_pop PySem.F.type_list_pop mt_pop (pv 1)))
      (pss_one (ps_expr (pe_bm PySem.F.plainAttrs_list PySem.F.slot_list_append PySem.F.type_list_append mt_append (pv 7) (pa_cons (pe_tup (pa_cons pe_str (pa_cons (pv 15) (pa_cons (pe_f Oc hr5 T.g__law_condition (pa_cons (pv 0) (pa_cons (pv 2) (pa_cons pe_int pa_nil)))) (pa_cons (pe_f Op hr6 T.g__law_perhaps (pa_cons (pv 0) (pa_cons (pv 2) pa_nil))) pa_nil))))) pa_nil))))) (pss_one (ps_expr (pe_bm PySem.F.plainAttrs_list PySem.F.slot_list_append PySem.F.type_list_append mt_append (pv 7) (pa_cons (pe_f Oq hr7 T.g__law_question (pa_cons (pv 0) (pa_cons (pe_bm0 PySem.F.plainAttrs_list PySem.F.slot_list_pop PySem.F.type_list_pop mt_pop (pv 1)) (pa_cons (pv 2) pa_nil)))) pa_nil))))))))))))))
      (pss_one (ps_ret (pv 7))))), ?_⟩
  walk_at "go"
  refine ⟨pl, _, rfl, SqT.of hpl, rfl, _, _, rfl, _, _, rfl, rfl, ?_⟩
  walk_at "go"
  refine ⟨Nat.zero_le _, fun p hp => ?_⟩
  walk_at "go"
  refine ⟨_, rfl, (many : Int), rfl, by omega, by omega, ?_⟩
  rw [Int.toNat_natCast]
  have pM : p ∉ M := hb.inM.new hp
  have ps : p ≠ s := fun z => pM (z ▸ hb.sM)
  have pn : p ≠ nh := fun z => pM (z ▸ hb.nM)
  have pk : p ≠ kn := fun z => pM (z ▸ hb.kM)
  have p3 : p ∉ [s, nh, kn] := by simp [ps, pn, pk]
  have ret : ∀ (H1 : Hp) (xs : List V) (rs : List Rw) (i : Nat), i ≤ many → BM [s, nh, kn] H H1 → Bg (p :: M) H1 s nh kn j → H1 p = some (.lst xs) → DRs (less H1 (p :: M)) xs rs → RBs 6 rs → Rws.cnt rs ≤ i * cbt ins deep → Rws.dep rs ≤ muB ins deep → Q (.ref p) H1 :=
    fun H1 xs rs i hi e1 b1 hp1 hx hB hc hd => q p H1 rs xs hp e1 (b1.fewer (fun b hb => .tail _ hb) hb.sM hb.nM hb.kM) hp1 (hx.same (less_sub fun b hb => .tail _ hb)) hB (Nat.le_trans hc (Nat.mul_le_mul_right _ hi)) hd
  refine for_range (lo := 0) (n := many) (fun (i : Nat) σ H' => ∃ (o8 o9 o10 o11 o12 o13 o14 o15 : Option V) (xs : List V) (rs : List Rw), σ = [some (.ref s), some (.ref nh), some (.ref kn), some (.int (many : Int)), some (.ref pl), some (.bl ins), some (.int (deep : Int)), some (.ref p), o8, o9, o10, o11, o12, o13, o14, o15] ∧
      BM [s, nh, kn] H H' ∧ Bg (p :: M) H' s nh kn j ∧ H' p = some (.lst xs) ∧ DRs (less H' (p :: M)) xs rs ∧ RBs 6 rs ∧ Rws.cnt rs ≤ i * cbt ins deep ∧ Rws.dep rs ≤ muB ins deep)
    ⟨none, none, none, none, none, none, none, none, [], [], rfl, (BM.refl _ _).mut hp _, hb.more hp _, upd_same, .nil, by unfold RBs; trivial, Nat.zero_le _, Nat.zero_le _⟩ ?_ ?_
  · rintro i σ H1 hi ⟨o8, o9, o10, o11, o12, o13, o14, o15, xs, rs, rfl, e1, b1, hp1, hx, hB, hc, hd⟩
    have app : ∀ (H2 : Hp) (v : V) (r : Rw) (QQ : VK), BM [s, nh, kn] H1 H2 → Bg (p :: M) H2 s nh kn j → DR (less H2 (p :: M)) v r → RB 6 r → r.cnt ≤ cbt ins deep → r.dep ≤ muB ins deep →
        (∀ H3 xs rs, BM [s, nh, kn] H H3 → Bg (p :: M) H3 s nh kn j → H3 p = some (.lst xs) → DRs (less H3 (p :: M)) xs rs → RBs 6 rs → Rws.cnt rs ≤ (i + 1) * cbt ins deep → Rws.dep rs ≤ muB ins deep → QQ .non H3) → rAppend (.ref p) [v] H2 QQ := by
      intro H2 v r QQ e2 b2 hv hr1 hrc hrd k
      have ep : BM (p :: M) H1 H2 := e2.mono fun b hb => by
        rcases List.mem_cons.mp hb with z | hb
        · rw [z]; exact b1.sM
        rcases List.mem_cons.mp hb with z | hb
        · rw [z]; exact b1.nM
        · rw [List.mem_singleton.mp hb]; exact b1.kM
      have hlen : xs.length ≤ 100000 := by
        have h1 := hx.len
        have h2 := Rws.len_cnt rs
        have h3 : i * cbt ins deep ≤ 7 * cbt ins deep := Nat.mul_le_mul_right _ (by omega)
        have h4 : cbt ins deep ≤ 22 := hcb
        omega
      refine ⟨p, xs, v, rfl, rfl, e2.at hp1 p3, Nat.lt_of_le_of_lt hlen (by decide), k _ (xs ++ [v]) (rs ++ [r]) ((e1.trans e2).mut hp _) (b2.set (.head _) ps pn pk _) upd_same ?_ ((RBs.iff _).mpr ?_) ?_ ?_⟩
      · rw [less_upd (.head _)]
        exact DRs.app (hx.same ep.less) (.cons hv .nil)
      · intro r' hr'
        rcases List.mem_append.mp hr' with z | z
        · exact (RBs.iff _).mp hB r' z
        · rw [List.mem_singleton.mp z]; exact hr1
      · rw [Rws.cnt_app, Nat.add_mul, Nat.one_mul]; omega
      · rw [Rws.dep_app]; omega
    walk_at "go"
    refine ⟨s, _, rfl, b1.src, by decide, by decide, fun r1 H2 h0 h1 e2 s2 => ?_⟩
    have b2 := b1.bm e2 s2
    obtain ⟨ks, ns, ⟨ys, hk, hke⟩, hn, hn1, hn2, hn3⟩ := b2.bag
    have lke := hke.length
    walk_at "go"
    refine ⟨_, rfl, kn, rfl, ⟨_, SqL.of hk⟩, fun D hD => ?_⟩
    refine lc_list (K := K) (a := kn) (xs := ys) (fun (i : Nat) H' => ∃ cs : List Str, Same H2 H' ∧ H' D = some (.lst (cs.map V.str)) ∧ (∀ c ∈ cs, c.length ≤ 100) ∧ cs.length ≤ i) ⟨[], Same.new hD _, upd_same, fun c hc => (by cases hc), Nat.le_refl _⟩ (fun i H' _ ⟨cs, e, _⟩ => SqL.of (e _ _ hk)) ?_ ?_
    · rintro i' x H3 hxi ⟨cs, e3, hD3, hc3, hl3⟩
      obtain ⟨k, _, hke3⟩ := K3.Paired.get hke hxi
      obtain ⟨t, n', kd, d, rfl, ht, hnl, hnum⟩ := ke_parts (hke3.same (BM.of (M := p :: M) e3).less)
      have ht := (less_at ht).1
      have hi' : i' < ys.length := (List.getElem?_eq_some_iff.mp hxi).1
      walk_at "go"
      refine ⟨rfl, ?_⟩
      walk_at "go"
      refine w_ixT (SqT.of ht) rfl ?_
      refine ⟨rfl, ?_⟩
      walk_at "go"
      by_cases hkd : kd = "number"
      · obtain ⟨t2, lo, hi2, rfl, ht2⟩ := hnum hkd
        have ht2 := (less_at ht2).1
        subst hkd
        rw [show decide (V.str "number" = V.str "number") = true by decide]
        walk_at "go"
        refine w_ixT (SqT.of ht) rfl ?_
        walk_at "go"
        refine ⟨(by show 2 ≤ sizeLine; decide), fun q1 hq1 => ?_⟩
        walk_at "go"
        refine ⟨(by show 2 ≤ sizeLine; decide), fun q2 hq2 => ?_⟩
        walk_at "go"
        refine ⟨(by show 2 ≤ sizeLine; decide), fun q3 hq3 => ?_⟩
        walk_at "go"
        refine ⟨(by show 2 ≤ sizeLine; decide), fun q4 hq4 => ?_⟩
        walk_at "go"
        refine ⟨(by show 2 ≤ sizeLine; decide), fun q5 hq5 => ?_⟩
        walk_at "go"
        refine ⟨(by show 5 ≤ sizeLine; decide), fun q6 hq6 => ?_⟩
        have f1 := Same.new hq1 (.tup [.int 0, .int 0])
        have f2 := Same.new hq2 (.tup [.int 0, .int 1])
        have f3 := Same.new hq3 (.tup [.int 0, .int 3])
        have f4 := Same.new hq4 (.tup [.int 0, .int 4])
        have f5 := Same.new hq5 (.tup [.int 1, .int 4])
        have f6 := Same.new hq6 (.lst [.ref q1, .ref q2, .ref q3, .ref q4, .ref q5])
        have g5 := f5.trans f6
        have g4 := f4.trans g5
        have g3 := f3.trans g4
        have g2 := f2.trans g3
        have g1 := f1.trans g2
        have pr : ∀ (a : Addr) (x y : Int) (B : Hp), B a = some (.tup [.int x, .int y]) → Dp K B (.ref a) (.tuple [.int x, .int y]) := fun a x y B h => .tup (SqT.of h) (.cons (.int _) (.cons (.int _) .nil))
        refine ⟨.tuple [.int lo, .int hi2], [.tuple [.int 0, .int 0], .tuple [.int 0, .int 1], .tuple [.int 0, .int 3], .tuple [.int 0, .int 4], .tuple [.int 1, .int 4]], pr _ _ _ _ (g1 _ _ ht2), .lst (SqL.of upd_same) (.cons (pr _ _ _ _ (g2 _ _ upd_same)) (.cons (pr _ _ _ _ (g3 _ _ upd_same)) (.cons (pr _ _ _ _ (g4 _ _ upd_same)) (.cons (pr _ _ _ _ (g5 _ _ upd_same)) (.cons (pr _ _ _ _ (f6 _ _ upd_same)) .nil))))), by rfl, by rfl, ?_⟩
        walk_at "go"
        generalize (List.any _ _ : Bool) = bb
        have e4 := e3.trans g1
        have hD4 := g1 _ _ hD3
        have ht4 := g1 _ _ ht
        generalize upd _ q6 _ = H4 at e4 hD4 ht4 ⊢
        cases bb with
        | false =>
          walk_at "go"
          exact ⟨cs, e4, hD4, hc3, by omega⟩
        | true =>
          walk_at "go"
          refine w_ixT (SqT.of ht4) rfl ?_
          refine ⟨_, hD4, Nat.lt_of_le_of_lt (show (cs.map V.str).length ≤ 200 by rw [List.length_map]; omega) (by decide), cs ++ [n'], e4.mut hD, by rw [upd_same, List.map_append]; rfl, fun c hc => ?_, by rw [List.length_append]; show cs.length + 1 ≤ _; omega⟩
          rcases List.mem_append.mp hc with z | z
          · exact hc3 c z
          · rw [List.mem_singleton.mp z]; exact hnl
      · rw [show decide (V.str kd = V.str "number") = false from decide_eq_false fun z => hkd (by cases z; rfl)]
        walk_at "go"
        exact ⟨cs, e3, hD3, hc3, by omega⟩
    · rintro H3 ⟨cs, e3, hD3, hc3, hl3⟩
      have b3 := b2.same e3
      have DM : D ∉ p :: M := b2.inM.new hD
      have c3 : BM [s, nh, kn] H1 H3 := (e2.mono fun b hb => by rw [List.mem_singleton.mp hb]; exact .head _).same e3
      walk_at "go"
      refine ⟨Nat.zero_le _, fun p4 hp4 => ?_⟩
      have f4 := Same.new hp4 (.lst [])
      have hn4 := f4 _ _ (e3 _ _ hn)
      refine ⟨nh, p4, ns.map V.str, [], rfl, rfl, SqL.of hn4, SqL.of upd_same, .inr (.inl rfl), ?_⟩
      walk_at "go"
      rw [isnil]
      have e4 := e3.trans f4
      have hD4 := f4 _ _ hD3
      have b4 := b3.same f4
      have c4 := c3.same f4
      generalize upd _ p4 _ = H4 at e4 hD4 b4 c4 hn4 ⊢
      clear f4 hp4 hD3 b3 c3 e3
      have hk4 := e4 _ _ hk
      have hke4 : Paired (KE (less H4 (p :: M))) ys ks := L2.Paired.mapP hke fun _ _ q => q.same (BM.of (M := p :: M) e4).less
      have le4 : BM [] H2 H4 := BM.of e4
      have hp4 := c4.at hp1 p3
      have sub3 : ∀ b ∈ [s, nh, kn], b ∈ p :: M := fun b hb => by
        rcases List.mem_cons.mp hb with z | hb
        · rw [z]; exact b1.sM
        rcases List.mem_cons.mp hb with z | hb
        · rw [z]; exact b1.nM
        · rw [List.mem_singleton.mp hb]; exact b1.kM
      by_cases nne : ns = []
      · rw [show (ns.map V.str).isEmpty = true by rw [nne]; rfl]
        walk_at "go"
        exact ret H4 xs rs i (by omega) (e1.trans c4) b4 hp4 (hx.same (c4.mono sub3).less) hB hc hd
      rw [show (ns.map V.str).isEmpty = false by cases ns with
        | nil => exact absurd rfl nne
        | cons a b => rfl]
      refine w_iteF ?_
      refine w_next ?_
      have hWB : ∀ wc : Option Cd, odep wc ≤ 2 → (owh wc).length ≤ 4 → WB wc := fun wc a b => ⟨by omega, by omega⟩
      have s5M : ∀ b ∈ [s], b ∈ p :: M := fun b hb => by rw [List.mem_singleton.mp hb]; exact b1.sM
      have s3 : ∀ b ∈ [s], b ∈ [s, nh, kn] := fun b hb => by rw [List.mem_singleton.mp hb]; exact .head _
      have fine : ∀ Hc, Same H4 Hc → BM [s, nh, kn] H1 Hc ∧ Bg (p :: M) Hc s nh kn j ∧ Hc D = some (.lst (cs.map V.str)) ∧ Hc nh = some (.lst (ns.map V.str)) ∧ KL (p :: M) Hc kn ks ∧ Hc kn = some (.lst ys) := fun Hc e =>
        ⟨c4.same e, b4.same e, e _ _ hD4, e _ _ hn4, ⟨ys, e _ _ hk4, L2.Paired.mapP hke4 fun _ _ q => q.same (BM.of (M := p :: M) e).less⟩, e _ _ hk4⟩
      with_reducible refine w_ifR (fun b Hc => Same H4 Hc ∧ (b = true → r1 = 7 ∧ ins = false ∧ cs ≠ [])) ?_ ?_ ?_
      · intro QB k
        walk_at "go"
        refine ⟨rfl, ?_⟩
        walk_at "go"
        rw [dec_int]
        by_cases q1 : r1 = 7
        · rw [decide_eq_true q1]
          walk_at "go"
          cases hins : ins with
          | true =>
            walk_at "go"
            exact k _ _ ⟨Same.refl _, fun z => by cases z⟩
          | false =>
            walk_at "go"
            refine ⟨Nat.zero_le _, fun p5 hp5 => ?_⟩
            have f5 := Same.new hp5 (.lst [])
            refine ⟨D, p5, cs.map V.str, [], rfl, rfl, SqL.of (f5 _ _ hD4), SqL.of upd_same, .inr (.inl rfl), ?_⟩
            walk_at "go"
            rw [isnil]
            refine k _ _ ⟨f5, fun z => ⟨q1, hins, fun z2 => ?_⟩⟩
            rw [z2] at z
            cases z
        · rw [decide_eq_false q1]
          walk_at "go"
          exact k _ _ ⟨Same.refl _, fun z => by cases z⟩
      · intro Hc ⟨ec, hbt⟩
        obtain ⟨hr7, rfl, hcs⟩ := hbt rfl
        obtain ⟨cc, bc, hDc, hnc, hkc, hkc2⟩ := fine Hc ec
        have ds : D ≠ s := fun z => DM (by rw [z]; exact b1.sM)
        walk_at "go"
        refine ⟨p :: M, s, kn, ks, rfl, bc.inM, bc.ah hkc (by omega), fun wv H5 wc e5 s5 hw w1 w2 => ?_⟩
        have b5 := bc.bm e5 s5
        have s5M : ∀ b ∈ [s], b ∈ p :: M := fun b hb => by rw [List.mem_singleton.mp hb]; exact b1.sM
        walk_at "go"
        refine ⟨D, _, rfl, .inl (SqL.of (e5.at hDc (by simpa using ds))), ?_⟩
        walk_at "go"
        have lcs : (cs.map V.str).length = cs.length := List.length_map ..
        have cpos := List.length_pos_iff.mpr hcs
        refine ⟨s, _, rfl, s5, by omega, by omega, fun r2 H6 h2 h3 e6 s6 => ?_⟩
        obtain ⟨u, hu1, hu2⟩ := at_in h2 h3
        obtain ⟨c, hc1, rfl⟩ := List.mem_map.mp hu2
        have e56 := e5.trans e6
        refine w_ixL (e56.at hDc (by simpa using ds)) hu1 ?_
        walk_at "go"
        have b6 := b5.bm e6 s6
        have hkn6 := e56.at hkc2 (by simpa using hb.n3)
        have hn6 := e56.at hnc (by simpa using hb.n1)
        refine ⟨kn, _, rfl, .inl (SqL.of hkn6), fun q5 hq5 => ?_⟩
        have q5M : q5 ∉ p :: M := b6.inM.new hq5
        have q5s : q5 ≠ s := fun z => q5M (by rw [z]; exact b1.sM)
        have q5n : q5 ≠ nh := fun z => q5M (by rw [z]; exact b1.nM)
        have q5k : q5 ≠ kn := fun z => q5M (by rw [z]; exact b1.kM)
        have q5p : q5 ≠ p := fun z => q5M (by rw [z]; exact .head _)
        have hkl6 : KL (p :: M) H6 kn ks := hkc.bm e56 (by simpa using hb.n3) s5M
        have kk := hkl6.more hq5 (.lst ys)
        have kq : KL (q5 :: p :: M) (upd H6 q5 (.lst ys)) q5 ks := by
          obtain ⟨zs, z1, z2⟩ := kk
          rw [Same.new hq5 (.lst ys) _ _ hkn6] at z1
          cases z1
          exact ⟨ys, upd_same, z2⟩
        have bq : Bg (q5 :: p :: M) (upd H6 q5 (.lst ys)) s nh q5 ns.length := ⟨b6.inM.more hq5 _, .tail _ b1.sM, .tail _ b1.nM, .head _, hb.n1, Ne.symm q5n, q5s, s6.same (Same.new hq5 _), ks, ns, kq, Same.new hq5 (.lst ys) _ _ hn6, hn1, hn2, Nat.le_refl _⟩
        walk_at "go"
        refine ⟨s, _, rfl, s6.same (Same.new hq5 _), by decide, by decide, fun r3 H7 h4 h5 e7 s7 => ?_⟩
        have bq7 := bq.bm e7 s7
        walk_at "go"
        refine ⟨(by show 2 ≤ sizeLine; decide), fun pl2 hpl2 => ?_⟩
        have bq8 := bq7.same (Same.new hpl2 (.tup [.bl true, .int (deep : Int)]))
        walk_at "go"
        have hcr := cbt_rounds deep
        refine ⟨q5 :: p :: M, s, nh, q5, pl2, ns.length, (1 + r3).toNat, true, deep, by rw [show (((1 + r3).toNat : Nat) : Int) = 1 + r3 by omega]; rfl, upd_same, by omega, by omega, by show deep < n; have : deep + 1 < n + 1 := hmu; omega, bq8, fun p6 H8 rs6 xs6 hp6n e8 b8 hp6 hx6 hB6 hc6 hd6 => ?_⟩
        have p6M : p6 ∉ q5 :: p :: M := bq8.inM.new hp6n
        have eq8 : BM [s, nh, q5] (upd H6 q5 (.lst ys)) H8 := ((e7.mono fun b hb => by rw [List.mem_singleton.mp hb]; exact .head _).same (Same.new hpl2 _)).trans e8
        have e68 : BM [s, nh, q5] H6 H8 := (BM.of (Same.new hq5 _)).trans eq8
        have sp : p ∉ [s, nh, q5] := by simp [ps, pn, Ne.symm q5p]
        have sk : kn ∉ [s, nh, q5] := by simp [hb.n3, Ne.symm hb.n2, Ne.symm q5k]
        have c6 : BM [s, nh, kn] H1 H6 := cc.trans (e56.mono fun b hb => by rw [List.mem_singleton.mp hb]; exact .head _)
        have c8 : BM [s, nh, kn] H1 H8 := BM.fresh c6 (c6.free hq5) e68 fun c hc => by
          rcases List.mem_cons.mp hc with z | hc
          · rw [z]; exact .inr (.head _)
          rcases List.mem_cons.mp hc with z | hc
          · rw [z]; exact .inr (.tail _ (.head _))
          · exact .inl (List.mem_singleton.mp hc)
        have m58 : BM (p :: M) H5 H8 := BM.fresh (e6.mono s5M) (e6.free hq5) e68 fun c hc => by
          rcases List.mem_cons.mp hc with z | hc
          · rw [z]; exact .inr b1.sM
          rcases List.mem_cons.mp hc with z | hc
          · rw [z]; exact .inr b1.nM
          · exact .inl (List.mem_singleton.mp hc)
        have B8 : Bg (p :: M) H8 s nh kn j := by
          obtain ⟨ks', ns', _, g2, g3, g4, g5⟩ := b8.bag
          refine ⟨fun m hm => b8.inM m (.tail _ hm), b1.sM, b1.nM, b1.kM, hb.n1, hb.n2, hb.n3, b8.src, ks, ns', (kk.bm eq8 sk fun c hc => ?_).fewer fun b hb => .tail _ hb, g2, g3, by omega, by omega⟩
          rcases List.mem_cons.mp hc with z | hc
          · rw [z]; exact .tail _ b1.sM
          rcases List.mem_cons.mp hc with z | hc
          · rw [z]; exact .tail _ b1.nM
          · rw [List.mem_singleton.mp hc]; exact .head _
        walk_at "go"
        refine ⟨_, rfl, .inl ⟨rfl, _, SqL.of (c8.at hp1 p3)⟩, ?_⟩
        walk_at "go"
        refine ⟨(by show 4 ≤ sizeLine; decide), fun t ht => ?_⟩
        walk_at "go"
        have lt := (BM.of (M := p :: M) (Same.new ht (.tup [.str "rounds", .str c, .ref p6, wv]))).less
        have h3' : (1 + r3).toNat * cbt true deep ≤ 3 * cbt true deep := Nat.mul_le_mul_right _ (by omega)
        refine app _ _ (.rounds c rs6 wc) _ (c8.same (Same.new ht _)) (B8.same (Same.new ht _)) (.rounds (less_of upd_same (B8.inM.new ht)) (lt _ _ (less_of hp6 fun z => p6M (.tail _ z))) ((hx6.same (less_sub fun b hb => .tail _ hb)).same lt) ((hw.same m58.less).same lt)) (by unfold RB; exact ⟨hc3 c hc1, hB6, hWB wc w1 w2⟩) (by unfold Rw.cnt; omega) (by unfold Rw.dep; show 1 + _ ≤ deep + 1; have : Rws.dep rs6 ≤ deep := hd6; omega) fun H9 xs9 rs9 a1 a2 a3 a4 a5 a6 a7 => ⟨_, _, _, _, _, _, _, _, xs9, rs9, rfl, a1, a2, a3, a4, a5, a6, a7⟩
      · intro Hc ⟨ec, _⟩
        obtain ⟨cc, bc, hDc, hnc, hkc, hkc2⟩ := fine Hc ec
        with_reducible refine w_ifR (fun b Hd => Hd = Hc ∧ (b = true → 0 < deep)) ?_ ?_ ?_
        · intro QB k
          walk_at "go"
          refine ⟨rfl, ?_⟩
          walk_at "go"
          rw [dec_int]
          by_cases q1 : r1 = 6
          · rw [decide_eq_true q1]
            walk_at "go"
            exact k _ _ ⟨rfl, fun z => by have := of_decide_eq_true z; omega⟩
          · rw [decide_eq_false q1]
            walk_at "go"
            exact k _ _ ⟨rfl, fun z => by cases z⟩
        · intro Hd ⟨ed, hbt⟩
          subst ed
          have hdeep := hbt rfl
          obtain ⟨m, rfl⟩ : ∃ m, deep = m + 1 := ⟨deep - 1, by omega⟩
          walk_at "go"
          refine ⟨p :: M, s, kn, ks, rfl, bc.inM, bc.ah hkc (by omega), fun wv H5 wc e5 s5 hw w1 w2 => ?_⟩
          have b5 := bc.bm e5 s5
          walk_at "go"
          refine ⟨s, _, rfl, s5, by decide, by decide, fun r3 H7 h4 h5 e7 s7 => ?_⟩
          have b7 := b5.bm e7 s7
          walk_at "go"
          refine ⟨(by show 2 ≤ sizeLine; decide), fun pl2 hpl2 => ?_⟩
          have b8 := b7.same (Same.new hpl2 (.tup [.bl ins, .int ((m + 1 : Nat) - 1 : Int)]))
          walk_at "go"
          have hcr := cbt_sect ins m
          have hmm := muB_sect ins m
          refine ⟨p :: M, s, nh, kn, pl2, j, (1 + r3).toNat, ins, m, by rw [show (((1 + r3).toNat : Nat) : Int) = 1 + r3 by omega]; rfl, by rw [upd_same, show ((m + 1 : Nat) - 1 : Int) = (m : Int) by omega], by omega, by omega, by omega, b8, fun p6 H8 rs6 xs6 hp6n e8 b8' hp6 hx6 hB6 hc6 hd6 => ?_⟩
          have p6M : p6 ∉ p :: M := b8.inM.new hp6n
          have e58 : BM [s, nh, kn] H5 H8 := ((e7.mono s3).same (Same.new hpl2 _)).trans e8
          have c8 : BM [s, nh, kn] H1 H8 := (cc.trans (e5.mono s3)).trans e58
          walk_at "go"
          refine ⟨_, rfl, .inl ⟨rfl, _, SqL.of (c8.at hp1 p3)⟩, ?_⟩
          walk_at "go"
          refine ⟨(by show 3 ≤ sizeLine; decide), fun t ht => ?_⟩
          walk_at "go"
          have lt := (BM.of (M := p :: M) (Same.new ht (.tup [.str "section", .ref p6, wv]))).less
          have h3' : (1 + r3).toNat * cbt ins m ≤ 2 * cbt ins m := Nat.mul_le_mul_right _ (by omega)
          refine app _ _ (.sect rs6 wc) _ (c8.same (Same.new ht _)) (b8'.same (Same.new ht _)) (.sect (less_of upd_same (b8'.inM.new ht)) (lt _ _ (less_of hp6 p6M)) (hx6.same lt) ((hw.same (e58.mono sub3).less).same lt)) (by unfold RB; exact ⟨hB6, hWB wc w1 w2⟩) (by unfold Rw.cnt; omega) (by unfold Rw.dep; omega) fun H9 xs9 rs9 a1 a2 a3 a4 a5 a6 a7 => ⟨_, _, _, _, _, _, _, _, xs9, rs9, rfl, a1, a2, a3, a4, a5, a6, a7⟩
        · intro Hd ⟨ed, _⟩
          subst ed
          with_reducible refine w_ifR (fun b He => Same Hd He ∧ (b = true → ks ≠ [])) ?_ ?_ ?_
          · intro QB k
            walk_at "go"
            refine ⟨rfl, ?_⟩
            walk_at "go"
            rw [dec_int]
            by_cases q1 : r1 = 5
            · rw [decide_eq_true q1]
              walk_at "go"
              refine ⟨Nat.zero_le _, fun p5 hp5 => ?_⟩
              have f5 := Same.new hp5 (.lst [])
              refine ⟨kn, p5, ys, [], rfl, rfl, SqL.of (f5 _ _ hkc2), SqL.of upd_same, .inr (.inl rfl), ?_⟩
              walk_at "go"
              rw [isnil]
              refine k _ _ ⟨f5, fun z z2 => ?_⟩
              rw [z2] at lke
              rw [List.length_eq_zero_iff.mp lke] at z
              cases z
            · rw [decide_eq_false q1]
              walk_at "go"
              exact k _ _ ⟨Same.refl _, fun z => by cases z⟩
          · intro He ⟨ee, hbt⟩
            obtain ⟨ce, be, hDe, hne, hke, hke2⟩ := fine He (ec.trans ee)
            have kpos : 0 < ks.length := List.length_pos_iff.mpr (hbt rfl)
            obtain ⟨z, zm, hz⟩ := pop_last nne
            obtain ⟨bp, kp, fp, np, lp⟩ := be.pop hke hn1 hn2 hn3 nne
            walk_at "go"
            refine ⟨_, rfl, .inl ⟨rfl, _, SqL.of hne⟩, ?_⟩
            refine ⟨nh, _, _, rfl, rfl, hne, hz, ?_⟩
            have cp := ce.trans fp
            generalize upd He nh _ = Hp at bp kp fp np cp ⊢
            walk_at "go"
            refine ⟨_, rfl, .inl ⟨rfl, _, SqL.of (cp.at hp1 p3)⟩, ?_⟩
            walk_at "go"
            refine ⟨p :: M, s, kn, ks, 2, rfl, by decide, bp.inM, bp.ah kp (by omega), kpos, fun v H6 c e6 s6 hv g1 g2 => ?_⟩
            have b6 := bp.bm e6 s6
            have k6 := kp.bm e6 (by simpa using hb.n3) s5M
            walk_at "go"
            refine ⟨p :: M, s, kn, ks, rfl, b6.inM, b6.ah k6 (by omega), fun wv H7 wc e7 s7 hw w1 w2 => ?_⟩
            have b7 := b6.bm e7 s7
            have c7 : BM [s, nh, kn] H1 H7 := cp.trans ((e6.trans e7).mono s3)
            walk_at "go"
            refine ⟨(by show 4 ≤ sizeLine; decide), fun t ht => ?_⟩
            walk_at "go"
            have lt := (BM.of (M := p :: M) (Same.new ht (.tup [.str "check", .str z, v, wv]))).less
            have cpos := cbt_pos ins deep
            refine app _ _ (.check z c wc) _ (c7.same (Same.new ht _)) (b7.same (Same.new ht _)) (.check (less_of upd_same (b7.inM.new ht)) ((hv.same (e7.mono s5M).less).same lt) (hw.same lt)) (by unfold RB; exact ⟨hn1 z zm, by omega, by omega, hWB wc w1 w2⟩) (by unfold Rw.cnt; omega) (by unfold Rw.dep; omega) fun H9 xs9 rs9 a1 a2 a3 a4 a5 a6 a7 => ⟨_, _, _, _, _, _, _, _, xs9, rs9, rfl, a1, a2, a3, a4, a5, a6, a7⟩
          · intro He ⟨ee, _⟩
            obtain ⟨ce, be, hDe, hne, hke, hke2⟩ := fine He (ec.trans ee)
            obtain ⟨z, zm, hz⟩ := pop_last nne
            obtain ⟨bp, kp, fp, np, lp⟩ := be.pop hke hn1 hn2 hn3 nne
            walk_at "go"
            refine ⟨_, rfl, .inl ⟨rfl, _, SqL.of (ce.at hp1 p3)⟩, ?_⟩
            walk_at "go"
            refine ⟨_, rfl, .inl ⟨rfl, _, SqL.of hne⟩, ?_⟩
            refine ⟨nh, _, _, rfl, rfl, hne, hz, ?_⟩
            have cp := ce.trans fp
            generalize upd He nh _ = Hp at bp kp fp np cp ⊢
            walk_at "go"
            refine ⟨p :: M, s, kn, ks, z, rfl, bp.inM, bp.ah kp (by omega), b1.kM, by omega, hn1 z zm, fun v H6 r k6 e6 s6 hk6 hdr hrb hcnt hdep => ?_⟩
            have sk3 : ∀ b ∈ [s, kn], b ∈ [s, nh, kn] := fun b hb => by
              rcases List.mem_cons.mp hb with z | hb
              · rw [z]; exact .head _
              · rw [List.mem_singleton.mp hb]; exact .tail _ (.tail _ (.head _))
            have b6 : Bg (p :: M) H6 s nh kn j := ⟨bp.inM.bm e6, b1.sM, b1.nM, b1.kM, hb.n1, hb.n2, hb.n3, s6, ks ++ [k6], ns.dropLast, hk6, e6.at np (by simp [hb.n1, hb.n2]), fun n hn => hn1 n (List.dropLast_subset _ hn), by rw [List.length_append]; show ks.length + 1 + _ ≤ _; omega, by rw [List.length_dropLast]; omega⟩
            have cpos := cbt_pos ins deep
            walk_at "go"
            refine app _ _ r _ (cp.trans (e6.mono sk3)) b6 hdr hrb (by omega) (by omega) fun H9 xs9 rs9 a1 a2 a3 a4 a5 a6 a7 => ⟨_, _, _, _, _, _, _, _, xs9, rs9, rfl, a1, a2, a3, a4, a5, a6, a7⟩
  · rintro σ H1 ⟨o8, o9, o10, o11, o12, o13, o14, o15, xs, rs, rfl, e1, b1, hp1, hx, hB, hc, hd⟩
    walk_at "go"
    exact ret H1 xs rs many (Nat.le_refl _) e1 b1 hp1 hx hB hc hd
end
end K3
end L8_part
section L9_part
set_option Elab.async false
set_option linter.all false
set_option maxRecDepth 100000
set_option maxHeartbeats 1000000
set_option pp.deepTerms.threshold 5
open PySem PySem.Spec PyProof.Rows L2
/-- go on as far as nothing is open -/
local macro_rules | `(tactic| walk_at "go") => `(tactic| repeat (first
  | with_reducible refine w_seq ?_ | with_reducible refine w_next ?_ | with_reducible refine w_set ?_ | with_reducible refine w_drop ?_ | with_reducible refine w_ret ?_ | with_reducible refine w_retN ?_
  | with_reducible refine w_if ?_ | ((with_reducible refine' w_var ?hv ?_); (case hv => exact rfl)) | with_reducible refine w_c ?_ | with_reducible refine w_nil ?_ | with_reducible refine w_cons ?_ | with_reducible refine w_op ?_ | with_reducible refine w_un ?_
  | with_reducible refine w_test ?_ | with_reducible refine w_tB ?_ | with_reducible refine w_not ?_ | with_reducible refine w_and ?_ | with_reducible refine w_or ?_ | with_reducible refine w_bl ?_
  | with_reducible refine w_andV ?_ | with_reducible refine w_orV ?_ | with_reducible refine w_notV ?_ | with_reducible refine w_ifE ?_ | with_reducible refine w_chain ?_ | with_reducible refine w_i0 ?_
  | with_reducible refine w_call ?_ | with_reducible refine w_callS ?_ | with_reducible refine w_cB ?_ | with_reducible refine w_tup ?_ | with_reducible refine w_lst ?_ | with_reducible refine w_fldV ?_
  | with_reducible refine w_neF ?_ | with_reducible refine w_neT ?_ | with_reducible refine w_notN ?_ | with_reducible refine w_isN ?_ | with_reducible refine w_gname ?_ | with_reducible refine w_gsub ?_ | with_reducible refine w_asg ?_ | with_reducible refine w_sl ?_ | with_reducible refine w_noP ?_ | with_reducible refine w_int1 ?_ | with_reducible refine w_part ?_ | with_reducible refine w_yes ?_ | with_reducible refine w_nT ?_ | with_reducible refine w_nF ?_ | with_reducible refine w_iteT ?_ | with_reducible refine w_iteF ?_))
namespace L2
open PySem PySem.Spec PyProof.Rows
section
variable {X : Cx} {k : Nat} {f C : Addr} {ps : List Str} {sp : Sp} {x : Str} {e : Expr} {es : List Expr} {p pos : Pos} {t : TA}
/-- C(e, ..), nothing is raised -/
theorem pe_cls (M : Mk X.K C f) (O : Ok X.prog X.w X.K X.mg X.base k f ps sp) (hr : Room (k + 1) X.A) (hm : X.mg x = some (.ref C)) (ha : PA X (e :: es) t) (hg : Gl X x := by rfl) (hdb : (x == ("__debug__" : Str)) = false := by decide)
    (he : starEach (e :: es) X.env = (false, eval e X.env) :: starEach es X.env := by rfl) (hpl : (backTo pos (starEach es X.env)).any (·.1) = false := by rfl) :
    PE X (.Call (.Name x p) (e :: es) [] pos) (tMake C sp [] E0 t) := by
  obtain ⟨fd, F, b, kp⟩ := O.run
  exact pe_make M F hr hg hm b .nil passL ha hdb he hpl
theorem w_make {C : Addr} {sp : Sp} {dvs : List V} {E : XK} {t : TA} {σ : St} {H : Hp} {Q : VK} (h : t σ H fun vs H1 => ∀ x dx, H1 x = none → H1 dx = none → dx ≠ x → sp (.ref x :: (vs ++ dvs)) (upd (upd H1 dx (.own x)) x (.ins C dx [])) (fun v H2 => v = .non ∧ Q (.ref x) H2) E) : tMake C sp dvs E t σ H Q := h
end
end L2
namespace K3
theorem w_sEq {a b : Str} {H : Hp} {Q : VK} (k : Bool) (hk : decide (V.str a = V.str b) = k) (h : Q (.bl k) H) : rEq (.str a) (.str b) H Q := ⟨rfl, by rw [hk]; exact h⟩
theorem mkI {K : PySem.W.Frag} {x : Str} {fs : List Str} {vs : List V} {H1 : Hp} {Q : VK} {E : XK} (hl : vs.length = fs.length) (q : ∀ a H', H1 a = none → Same H1 H' → Ins K H' a x (fs.zip vs) → Q (.ref a) H') :
    ∀ a dx, H1 a = none → H1 dx = none → dx ≠ a → spI K x fs (.ref a :: (vs ++ [])) (upd (upd H1 dx (.own a)) a (.ins (He.ga K x) dx [])) (fun v H2 => v = .non ∧ Q (.ref a) H2) E := by
  intro a dx ha hd hne
  rw [List.append_nil]
  refine ⟨a, dx, vs, rfl, hl, upd_same, fun H' h1 h2 => ⟨rfl, q a H' ha (fun b o hb => ?_) ⟨dx, h1⟩⟩⟩
  have nb : b ≠ a := ne_of_none hb ha
  exact h2 b o nb (by rw [upd_ne nb, upd_ne (ne_of_none hb hd)]; exact hb)
def spLForm (K : PySem.W.Frag) : Sp := fun vs H Q _ => ∃ (M : List Addr) (s : Addr), vs = [.ref s, .int 7] ∧ In M H ∧ s ∈ M ∧ Src H s ∧ ∀ p H' rs xs, H p = none → BM [s] H H' → Src H' s → H' p = some (.lst xs) → DRs (less H' M) xs rs → RBs 6 rs → Rws.cnt rs ≤ 154 → Rws.dep rs ≤ 3 → Q (.ref p) H'
def spMadeC (K : PySem.W.Frag) (n : Nat) : Sp := fun vs H Q _ => ∃ (v : V) (c : Option Cd), vs = [v] ∧ DW H v c ∧ odep c < n ∧ ∀ v' H', Same H H' → WO K H' v' c → Q v' H'
section
variable {P : Program} {w : World} {K : PySem.W.Frag} {mg : Str → Option Value} {base : Heap}
theorem sc_form : FnScope ["_law_source_here", "_law_many", "_law_names_here"] ["_law_source_here", "_law_many"] (defScope s__law_form) := ⟨rfl, rfl, rfl, by decide +kernel, rfl, by decide +kernel, by decide +kernel⟩
theorem ok_form (T : Tx K mg) : Ok P w K mg base 13 (He.ga K "_law_form") ["_law_source_here", "_law_many"] (spLForm K) := by
  obtain ⟨fd, F⟩ := T.f__law_form
  have O := ok_take (P := P) (w := w) (base := base) T
  have On := ok_names (P := P) (w := w) (base := base) T
  have Orw := ok_rows (P := P) (w := w) (base := base) T 4
  refine ⟨fd, F.ok (k := 12) sc_form (fun vs H Q E h => ?_) (fun cdv A outer s' H vs Q E hr h => ?_), F.bindsN fun _ _ _ _ _ _ us hl => match us, hl with | [_, _], _ => rfl, F.kp⟩
  · obtain ⟨M, s, rfl, _⟩ := h
    rfl
  obtain ⟨M, s, rfl, hM, sM, hs, q⟩ := h
  have hr1 := hr.mono (show 1 ≤ 12 by decide)
  have hr2 := hr.mono (show 2 ≤ 12 by decide)
  have hr12 := hr
  refine ⟨_, pss_cons (ps_set (i := 2) sc_form.nd rfl (Or.inl rfl) (pe_f On hr2 T.g__law_names (pa_cons (pv 0) (pa_cons pe_int pa_nil))))
      (pss_one (ps_ret (pe_f Orw hr12 T.g__law_rows (pa_cons (pv 0) (pa_cons (pv 2) (pa_cons (pe_lst pa_nil) (pa_cons (pe_op op_add pe_int (pe_f O hr1 T.g__law_take (pa_cons (pv 0) (pa_cons (pv 1) pa_nil)))) (pa_cons (pe_tup (pa_cons pe_bl (pa_cons pe_int pa_nil))) pa_nil)))))))), ?_⟩
  walk_at "go"
  refine ⟨s, 12, rfl, hs, by decide, fun l H1 ns hln e1 s1 hl hlen hns => ?_⟩
  walk_at "go"
  refine ⟨Nat.zero_le _, fun kn hkn => ?_⟩
  have lM : l ∉ M := hM.new hln
  have hM1 := hM.bm e1
  have kM : kn ∉ M := hM1.new hkn
  have kl : kn ≠ l := fun z => by rw [z, hl] at hkn; cases hkn
  have ls : l ≠ s := fun z => lM (by rw [z]; exact sM)
  have ks : kn ≠ s := fun z => kM (by rw [z]; exact sM)
  have f1 := Same.new hkn (.lst [])
  have bg : Bg (kn :: l :: M) (upd H1 kn (.lst [])) s l kn 12 := ⟨fun m hm => by
      rcases List.mem_cons.mp hm with z | hm
      · exact ⟨_, by rw [z]; exact upd_same⟩
      rcases List.mem_cons.mp hm with z | hm
      · exact ⟨_, by rw [z]; exact f1 _ _ hl⟩
      · obtain ⟨o, ho⟩ := hM1 m hm
        exact ⟨o, f1 _ _ ho⟩, .tail _ (.tail _ sM), .tail _ (.head _), .head _, ls, Ne.symm kl, ks, s1.same f1, [], ns, ⟨[], upd_same, .nil⟩, f1 _ _ hl, hns, by show 0 + _ ≤ _; omega, by omega⟩
  walk_at "go"
  refine ⟨s, 7, rfl, bg.src, by decide, by decide, fun r H2 h0 h1 e2 s2 => ?_⟩
  have bg2 := bg.bm e2 s2
  walk_at "go"
  refine ⟨(by show 2 ≤ sizeLine; decide), fun pl hpl => ?_⟩
  have bg3 := bg2.same (Same.new hpl (.tup [.bl false, .int 2]))
  walk_at "go"
  refine ⟨kn :: l :: M, s, l, kn, pl, 12, (1 + r).toNat, false, 2, by rw [show (((1 + r).toNat : Nat) : Int) = 1 + r by omega]; rfl, upd_same, by decide, by omega, by decide, bg3, fun p H3 rs xs hp e3 b3 hp3 hx hB hc hd => ?_⟩
  have c3 : BM [s, l, kn] H1 H3 := ((BM.of f1).trans ((e2.mono fun b hb => by rw [List.mem_singleton.mp hb]; exact .head _).same (Same.new hpl _))).trans e3
  have c4 : BM [s] H H3 := fun b o hb => by
    obtain ⟨o1, h1, k1⟩ := e1 b o hb
    obtain ⟨o2, h2, k2⟩ := c3 b o1 h1
    refine ⟨o2, h2, fun z => (k2 fun y => ?_).trans (k1 z)⟩
    rcases List.mem_cons.mp y with y | y
    · exact z (by rw [y]; exact .head _)
    rcases List.mem_cons.mp y with y | y
    · rw [y, hln] at hb; cases hb
    · rw [List.mem_singleton.mp y, hkn] at h1; cases h1
  have pn : H p = none := by
    have : upd H2 pl (.tup [.bl false, .int 2]) p = none := hp
    have cc : BM [s, l, kn] H1 (upd H2 pl (.tup [.bl false, .int 2])) := (BM.of f1).trans ((e2.mono fun b hb => by rw [List.mem_singleton.mp hb]; exact .head _).same (Same.new hpl _))
    exact e1.free (cc.free this)
  refine q p H3 rs xs pn c4 b3.src hp3 (hx.same (less_sub fun b hb => .tail _ (.tail _ hb))) hB ?_ hd
  have h3 : (1 + r).toNat * cbt false 2 ≤ 7 * cbt false 2 := Nat.mul_le_mul_right _ (by omega)
  have h4 : cbt false 2 = 22 := by decide
  omega
theorem sc_made_condition : FnScope ["_law_cond", "_law_word"] ["_law_cond"] (defScope s__law_made_condition) := ⟨rfl, rfl, rfl, by decide +kernel, rfl, by decide +kernel, by decide +kernel⟩
theorem ok_made_condition (T : Tx K mg) (n : Nat) : Ok P w K mg base (n + 3) (He.ga K "_law_made_condition") ["_law_cond"] (spMadeC K n) := by
  induction n with
  | zero =>
    obtain ⟨fd, F⟩ := T.f__law_made_condition
    exact ⟨fd, ok_none' fun vs H Q E ⟨_, _, _, _, h, _⟩ => absurd h (Nat.not_lt_zero _), F.bindsN fun _ _ _ _ _ _ us hl => match us, hl with | [_], _ => rfl, F.kp⟩
  | succ n Oc =>
  obtain ⟨fd, F⟩ := T.f__law_made_condition
  refine ⟨fd, F.ok (k := n + 3) sc_made_condition (fun vs H Q E h => ?_) (fun cdv A outer s' H vs Q E hr h => ?_), F.bindsN fun _ _ _ _ _ _ us hl => match us, hl with | [_], _ => rfl, F.kp⟩
  · obtain ⟨v, c, rfl, _⟩ := h
    rfl
  obtain ⟨v, c, rfl, hv, hn, q⟩ := h
  refine ⟨_, pss_cons (ps_if (pt_cmp (pc_isN (pv 0))) (pss_one (ps_ret pe_non)) pss_nil)
      (pss_cons (ps_set (i := 1) sc_made_condition.nd rfl (Or.inl rfl) (pe_ix ix_tup (pv 0) pe_int (fun _ _ => rfl)))
      (pss_cons (ps_if (pt_cmpR op_eq (pv 1) pe_str (nomark _)) (pss_one (ps_ret (pe_cls T.mk_Is (ok_Is T) (hr.mono (by omega)) T.g_Is (pa_cons (pe_ix ix_tup (pv 0) pe_int (fun _ _ => rfl)) (pa_cons (pe_ix ix_tup (pv 0) pe_int (fun _ _ => rfl)) pa_nil))))) pss_nil)
      (pss_cons (ps_if (pt_cmpR op_eq (pv 1) pe_str (nomark _)) (pss_one (ps_ret (pe_cls T.mk_Has (ok_Has T) (hr.mono (by omega)) T.g_Has (pa_cons (pe_ix ix_tup (pv 0) pe_int (fun _ _ => rfl)) (pa_cons (pe_ix ix_tup (pv 0) pe_int (fun _ _ => rfl)) pa_nil))))) pss_nil)
      (pss_cons (ps_if (pt_cmpR op_eq (pv 1) pe_str (nomark _)) (pss_one (ps_ret (pe_cls T.mk_Above (ok_Above T) (hr.mono (by omega)) T.g_Above (pa_cons (pe_ix ix_tup (pv 0) pe_int (fun _ _ => rfl)) (pa_cons (pe_ix ix_tup (pv 0) pe_int (fun _ _ => rfl)) pa_nil))))) pss_nil)
      (pss_cons (ps_if (pt_cmpR op_eq (pv 1) pe_str (nomark _)) (pss_one (ps_ret (pe_cls T.mk_Below (ok_Below T) (hr.mono (by omega)) T.g_Below (pa_cons (pe_ix ix_tup (pv 0) pe_int (fun _ _ => rfl)) (pa_cons (pe_ix ix_tup (pv 0) pe_int (fun _ _ => rfl)) pa_nil))))) pss_nil)
      (pss_cons (ps_if (pt_cmpR op_eq (pv 1) pe_str (nomark _)) (pss_one (ps_ret (pe_cls T.mk_Not (ok_Not T) (hr.mono (by omega)) T.g_Not (pa_cons (pe_f Oc hr T.g__law_made_condition (pa_cons (pe_ix ix_tup (pv 0) pe_int (fun _ _ => rfl)) pa_nil)) pa_nil)))) pss_nil)
      (pss_cons (ps_if (pt_cmpR op_eq (pv 1) pe_str (nomark _)) (pss_one (ps_ret (pe_cls T.mk_Both (ok_Both T) (hr.mono (by omega)) T.g_Both (pa_cons (pe_f Oc hr T.g__law_made_condition (pa_cons (pe_ix ix_tup (pv 0) pe_int (fun _ _ => rfl)) pa_nil)) (pa_cons (pe_f Oc hr T.g__law_made_condition (pa_cons (pe_ix ix_tup (pv 0) pe_int (fun _ _ => rfl)) pa_nil)) pa_nil))))) pss_nil)
      (pss_one (ps_ret (pe_cls T.mk_Either (ok_Either T) (hr.mono (by omega)) T.g_Either (pa_cons (pe_f Oc hr T.g__law_made_condition (pa_cons (pe_ix ix_tup (pv 0) pe_int (fun _ _ => rfl)) pa_nil)) (pa_cons (pe_f Oc hr T.g__law_made_condition (pa_cons (pe_ix ix_tup (pv 0) pe_int (fun _ _ => rfl)) pa_nil)) pa_nil)))))))))))), ?_⟩
  have F1 : ∀ (t : Addr) (w' : Str) (xs : List V), H t = some (.tup (.str w' :: xs)) → SqT K H t (.str w' :: xs) := fun t w' xs h => SqT.of h
  cases hv with
  | none =>
    walk_at "go"
    refine w_iteT ?_
    walk_at "go"
    exact q _ _ (Same.refl _) .none
  | some hd =>
    have one : ∀ (u : V) (c1 : Cd) (H1 : Hp) (Q2 : VK) (E2 : XK), DC H1 u c1 → c1.dep < n → (∀ v' H', Same H1 H' → CO K H' v' c1 → Q2 v' H') → spMadeC K n ([u] ++ []) H1 Q2 E2 := fun u c1 H1 Q2 E2 h1 h2 k =>
      ⟨u, some c1, rfl, .some h1, h2, fun v' H' e hw => by
        cases hw with
        | some hc => exact k v' H' e hc⟩
    cases hd with
    | is h =>
      walk_at "go"
      refine w_iteF ?_
      walk_at "go"
      refine w_ixT (SqT.of h) rfl ?_
      walk_at "go"
      refine w_sEq true (by decide +kernel) ?_
      walk_at "go"
      refine w_make ?_
      walk_at "go"
      refine w_ixT (SqT.of h) rfl ?_
      walk_at "go"
      refine w_ixT (SqT.of h) rfl ?_
      walk_at "go"
      exact mkI rfl fun a H' ha e hi => q _ _ e (.some (.is hi))
    | has h =>
      walk_at "go"
      refine w_iteF ?_
      walk_at "go"
      refine w_ixT (SqT.of h) rfl ?_
      walk_at "go"
      refine w_sEq false (by decide +kernel) ?_
      walk_at "go"
      refine w_sEq true (by decide +kernel) ?_
      walk_at "go"
      refine w_make ?_
      walk_at "go"
      refine w_ixT (SqT.of h) rfl ?_
      walk_at "go"
      refine w_ixT (SqT.of h) rfl ?_
      walk_at "go"
      exact mkI rfl fun a H' ha e hi => q _ _ e (.some (.has hi))
    | over h =>
      walk_at "go"
      refine w_iteF ?_
      walk_at "go"
      refine w_ixT (SqT.of h) rfl ?_
      walk_at "go"
      refine w_sEq false (by decide +kernel) ?_
      walk_at "go"
      refine w_sEq false (by decide +kernel) ?_
      walk_at "go"
      refine w_sEq true (by decide +kernel) ?_
      walk_at "go"
      refine w_make ?_
      walk_at "go"
      refine w_ixT (SqT.of h) rfl ?_
      walk_at "go"
      refine w_ixT (SqT.of h) rfl ?_
      walk_at "go"
      exact mkI rfl fun a H' ha e hi => q _ _ e (.some (.over hi))
    | under h =>
      walk_at "go"
      refine w_iteF ?_
      walk_at "go"
      refine w_ixT (SqT.of h) rfl ?_
      walk_at "go"
      refine w_sEq false (by decide +kernel) ?_
      walk_at "go"
      refine w_sEq false (by decide +kernel) ?_
      walk_at "go"
      refine w_sEq false (by decide +kernel) ?_
      walk_at "go"
      refine w_sEq true (by decide +kernel) ?_
      walk_at "go"
      refine w_make ?_
      walk_at "go"
      refine w_ixT (SqT.of h) rfl ?_
      walk_at "go"
      refine w_ixT (SqT.of h) rfl ?_
      walk_at "go"
      exact mkI rfl fun a H' ha e hi => q _ _ e (.some (.under hi))
    | @no t u c1 h h1 =>
      have hn1 : c1.dep + 1 < n + 1 := hn
      walk_at "go"
      refine w_iteF ?_
      walk_at "go"
      refine w_ixT (SqT.of h) rfl ?_
      walk_at "go"
      refine w_sEq false (by decide +kernel) ?_
      walk_at "go"
      refine w_sEq false (by decide +kernel) ?_
      walk_at "go"
      refine w_sEq false (by decide +kernel) ?_
      walk_at "go"
      refine w_sEq false (by decide +kernel) ?_
      walk_at "go"
      refine w_sEq true (by decide +kernel) ?_
      walk_at "go"
      refine w_make ?_
      walk_at "go"
      refine w_ixT (SqT.of h) rfl ?_
      walk_at "go"
      refine one _ c1 _ _ _ h1 (by omega) fun v' H' e hc => ?_
      walk_at "go"
      exact mkI rfl fun a H2 ha e2 hi => q _ _ (e.trans e2) (.some (.no hi (hc.same e2)))
    | @both t u1 u2 c1 c2 h h1 h2 =>
      have hn1 : max c1.dep c2.dep + 1 < n + 1 := hn
      walk_at "go"
      refine w_iteF ?_
      walk_at "go"
      refine w_ixT (SqT.of h) rfl ?_
      walk_at "go"
      refine w_sEq false (by decide +kernel) ?_
      walk_at "go"
      refine w_sEq false (by decide +kernel) ?_
      walk_at "go"
      refine w_sEq false (by decide +kernel) ?_
      walk_at "go"
      refine w_sEq false (by decide +kernel) ?_
      walk_at "go"
      refine w_sEq false (by decide +kernel) ?_
      walk_at "go"
      refine w_sEq true (by decide +kernel) ?_
      walk_at "go"
      refine w_make ?_
      walk_at "go"
      refine w_ixT (SqT.of h) rfl ?_
      walk_at "go"
      refine one _ c1 _ _ _ h1 (by omega) fun v' H' e hc => ?_
      walk_at "go"
      refine w_ixT (SqT.of (e _ _ h)) rfl ?_
      walk_at "go"
      refine one _ c2 _ _ _ (h2.same e) (by omega) fun v2 H2 e2 hc2 => ?_
      walk_at "go"
      exact mkI rfl fun a H3 ha e3 hi => q _ _ ((e.trans e2).trans e3) (.some (.both hi ((hc.same e2).same e3) (hc2.same e3)))
    | @either t u1 u2 c1 c2 h h1 h2 =>
      have hn1 : max c1.dep c2.dep + 1 < n + 1 := hn
      walk_at "go"
      refine w_iteF ?_
      walk_at "go"
      refine w_ixT (SqT.of h) rfl ?_
      walk_at "go"
      refine w_sEq false (by decide +kernel) ?_
      walk_at "go"
      refine w_sEq false (by decide +kernel) ?_
      walk_at "go"
      refine w_sEq false (by decide +kernel) ?_
      walk_at "go"
      refine w_sEq false (by decide +kernel) ?_
      walk_at "go"
      refine w_sEq false (by decide +kernel) ?_
      walk_at "go"
      refine w_sEq false (by decide +kernel) ?_
      walk_at "go"
      refine w_make ?_
      walk_at "go"
      refine w_ixT (SqT.of h) rfl ?_
      walk_at "go"
      refine one _ c1 _ _ _ h1 (by omega) fun v' H' e hc => ?_
      walk_at "go"
      refine w_ixT (SqT.of (e _ _ h)) rfl ?_
      walk_at "go"
      refine one _ c2 _ _ _ (h2.same e) (by omega) fun v2 H2 e2 hc2 => ?_
      walk_at "go"
      exact mkI rfl fun a H3 ha e3 hi => q _ _ ((e.trans e2).trans e3) (.some (.either hi ((hc.same e2).same e3) (hc2.same e3)))
end
end K3
end L9_part
section L10_part
set_option Elab.async false
set_option linter.all false
set_option maxRecDepth 100000
set_option maxHeartbeats 1000000
set_option pp.deepTerms.threshold 5
open PySem PySem.Spec PyProof.Rows L2
/-- go on as far as nothing is open -/
local macro_rules | `(tactic| walk_at "go") => `(tactic| repeat (first
  | with_reducible refine w_seq ?_ | with_reducible refine w_next ?_ | with_reducible refine w_set ?_ | with_reducible refine w_drop ?_ | with_reducible refine w_ret ?_ | with_reducible refine w_retN ?_
  | with_reducible refine w_if ?_ | ((with_reducible refine' w_var ?hv ?_); (case hv => exact rfl)) | with_reducible refine w_c ?_ | with_reducible refine w_nil ?_ | with_reducible refine w_cons ?_ | with_reducible refine w_op ?_ | with_reducible refine w_un ?_
  | with_reducible refine w_test ?_ | with_reducible refine w_tB ?_ | with_reducible refine w_not ?_ | with_reducible refine w_and ?_ | with_reducible refine w_or ?_ | with_reducible refine w_bl ?_
  | with_reducible refine w_andV ?_ | with_reducible refine w_orV ?_ | with_reducible refine w_notV ?_ | with_reducible refine w_ifE ?_ | with_reducible refine w_chain ?_ | with_reducible refine w_i0 ?_
  | with_reducible refine w_call ?_ | with_reducible refine w_callS ?_ | with_reducible refine w_cB ?_ | with_reducible refine w_tup ?_ | with_reducible refine w_lst ?_ | with_reducible refine w_fldV ?_
  | with_reducible refine w_neF ?_ | with_reducible refine w_neT ?_ | with_reducible refine w_notN ?_ | with_reducible refine w_isN ?_ | with_reducible refine w_gname ?_ | with_reducible refine w_gsub ?_ | with_reducible refine w_asg ?_ | with_reducible refine w_sl ?_ | with_reducible refine w_noP ?_ | with_reducible refine w_int1 ?_ | with_reducible refine w_part ?_ | with_reducible refine w_yes ?_ | with_reducible refine w_nT ?_ | with_reducible refine w_nF ?_ | with_reducible refine w_iteT ?_ | with_reducible refine w_iteF ?_))
namespace K3
theorem w_makeK {C : Addr} {n m : Nat} {sp : Sp} {gV : List V → List V → List V} {E : XK} {t tk : TA} {σ : L2.St} {H : Hp} {Q : VK} (h : t σ H fun vs H1 => tk σ H1 fun zs H2 => vs.length = n ∧ zs.length = m ∧ ∀ x dx, H2 x = none → H2 dx = none → dx ≠ x → sp (gV (.ref x :: vs) zs) (upd (upd H2 dx (.own x)) x (.ins C dx [])) (fun v H3 => v = .non ∧ Q (.ref x) H3) E) : tMakeK C n m sp gV E t tk σ H Q := h
theorem w_lcL {K : PySem.W.Frag} {ti : TE} {g : TG} {tt : TT} {te : TE} {vs : List Nat} {σ : L2.St} {H : Hp} {Q : VK} (h : ti σ H fun x H1 => ∃ a, x = .ref a ∧ (∃ xs, SqL K H1 a xs) ∧ ∀ D, H1 D = none → ∃ W : Nat → Nat → Hp → Prop, (∃ m, W 0 m (upd H1 D (.lst []))) ∧ ∀ i m H, W i m H →
  ((Itl K a).stop i H ∧ Q (.ref D) H) ∨ ((Itl K a).go i H ∧ ∃ Nx : Hp → Prop, (∀ H', Nx H' → ∃ m', m' < m ∧ W (i + 1) m' H') ∧ ∀ x H', (Itl K a).yld i H x H' → g x (wipe σ vs) H' fun σ2 H2 => wipe σ2 vs = wipe σ vs ∧ tt σ2 H2 fun b H3 =>
    if b = true then te σ2 H3 fun y H4 => ∃ acc, H4 D = some (.lst acc) ∧ acc.length < sizeLine ∧ Nx (upd H4 D (.lst (acc ++ [y]))) else Nx H3)) : tLc (iList K ti) g tt te vs σ H Q := h
theorem mkIT {K : PySem.W.Frag} {x f1 f2 f3 : Str} {v1 v3 : V} {l : Addr} {xs : List V} {H1 : Hp} {Q : VK} {E : XK} (hl : H1 l = some (.lst xs)) (q : ∀ a t H', H1 a = none → Same H1 H' → Ins K H' a x [(f1, v1), (f2, .ref t), (f3, v3)] → SqT K H' t xs → Q (.ref a) H') :
    ∀ a dx, H1 a = none → H1 dx = none → dx ≠ a → spIT K x f1 f2 f3 [.ref a, v1, .ref l, v3] (upd (upd H1 dx (.own a)) a (.ins (He.ga K x) dx [])) (fun v H2 => v = .non ∧ Q (.ref a) H2) E := by
  intro a dx ha hd hne
  have st : ∀ b o, H1 b = some o → upd (upd H1 dx (.own a)) a (.ins (He.ga K x) dx []) b = some o := fun b o hb => by rw [upd_ne (ne_of_none hb ha), upd_ne (ne_of_none hb hd)]; exact hb
  exact ⟨a, dx, l, v1, v3, xs, rfl, .inl (SqL.of (st _ _ hl)), upd_same, fun t H' h1 h2 h3 => ⟨rfl, q a t H' ha (fun b o hb => h3 b o (ne_of_none hb ha) (st b o hb)) ⟨dx, h1⟩ h2⟩⟩
theorem mkIS {K : PySem.W.Frag} {v3 : V} {l : Addr} {xs : List V} {H1 : Hp} {Q : VK} {E : XK} (hl : H1 l = some (.lst xs)) (q : ∀ a t H', H1 a = none → Same H1 H' → Ins K H' a "Section" [("rows", .ref t), ("where", v3)] → SqT K H' t xs → Q (.ref a) H') :
    ∀ a dx, H1 a = none → H1 dx = none → dx ≠ a → spIS K [.ref a, .ref l, v3] (upd (upd H1 dx (.own a)) a (.ins (He.ga K "Section") dx [])) (fun v H2 => v = .non ∧ Q (.ref a) H2) E := by
  intro a dx ha hd hne
  have st : ∀ b o, H1 b = some o → upd (upd H1 dx (.own a)) a (.ins (He.ga K "Section") dx []) b = some o := fun b o hb => by rw [upd_ne (ne_of_none hb ha), upd_ne (ne_of_none hb hd)]; exact hb
  exact ⟨a, dx, l, v3, xs, rfl, .inl (SqL.of (st _ _ hl)), upd_same, fun t H' h1 h2 h3 => ⟨rfl, q a t H' ha (fun b o hb => h3 b o (ne_of_none hb ha) (st b o hb)) ⟨dx, h1⟩ h2⟩⟩
theorem mkIK {K : PySem.W.Frag} {x : Str} {fs : List Str} {ws : List V} {H1 : Hp} {Q : VK} {E : XK} (hl : ws.length = fs.length) (q : ∀ a H', H1 a = none → Same H1 H' → Ins K H' a x (fs.zip ws) → Q (.ref a) H') :
    ∀ a dx, H1 a = none → H1 dx = none → dx ≠ a → spI K x fs (.ref a :: ws) (upd (upd H1 dx (.own a)) a (.ins (He.ga K x) dx [])) (fun v H2 => v = .non ∧ Q (.ref a) H2) E := by
  intro a dx ha hd hne
  refine ⟨a, dx, ws, rfl, hl, upd_same, fun H' h1 h2 => ⟨rfl, q a H' ha (fun b o hb => ?_) ⟨dx, h1⟩⟩⟩
  have nb : b ≠ a := ne_of_none hb ha
  exact h2 b o nb (by rw [upd_ne nb, upd_ne (ne_of_none hb hd)]; exact hb)
theorem DRs.get {B : Hp} : ∀ {xs : List V} {rs : List Rw} {i : Nat} {x : V}, DRs B xs rs → xs[i]? = some x → ∃ r, rs[i]? = some r ∧ DR B x r
  | _, _, 0, _, .cons h t, e => ⟨_, rfl, by cases e; exact h⟩
  | _, _, i + 1, x, .cons h t, e => DRs.get (i := i) t e
theorem ROs.app {K : PySem.W.Frag} {B : Hp} : ∀ {xs ys : List V} {rs ss : List Rw}, ROs K B xs rs → ROs K B ys ss → ROs K B (xs ++ ys) (rs ++ ss)
  | _, _, _, _, .nil, h => h
  | _, _, _, _, .cons a t, h => .cons a (ROs.app t h)
theorem dep_mem {r : Rw} : ∀ {rs : List Rw}, r ∈ rs → r.dep ≤ Rws.dep rs
  | q :: rs, h => by
    rw [Rws.dep]
    rcases List.mem_cons.mp h with z | z
    · rw [z]; omega
    · have := dep_mem z
      omega
theorem cnt_mem {r : Rw} : ∀ {rs : List Rw}, r ∈ rs → r.cnt ≤ Rws.cnt rs
  | q :: rs, h => by
    rw [Rws.cnt]
    rcases List.mem_cons.mp h with z | z
    · rw [z]; omega
    · have := cnt_mem z
      omega
def spMadeR (K : PySem.W.Frag) (n : Nat) : Sp := fun vs H Q _ => ∃ (v : V) (r : Rw), vs = [v] ∧ DR H v r ∧ RB 100 r ∧ r.dep < n ∧ r.cnt ≤ 1000 ∧ ∀ v' H', Same H H' → RO K H' v' r → Q v' H'
section
variable {P : Program} {w : World} {K : PySem.W.Frag} {mg : Str → Option Value} {base : Heap}
theorem sc_made_row : FnScope ["_law_row", "_law_cond", "_law_one"] ["_law_row"] (defScope s__law_made_row) := ⟨rfl, rfl, rfl, by decide +kernel, rfl, by decide +kernel, by decide +kernel⟩
theorem ok_made_row (T : Tx K mg) (n : Nat) : Ok P w K mg base (n + 8) (He.ga K "_law_made_row") ["_law_row"] (spMadeR K n) := by
  induction n with
  | zero =>
    obtain ⟨fd, F⟩ := T.f__law_made_row
    exact ⟨fd, ok_none' fun vs H Q E ⟨_, _, _, _, _, h, _⟩ => absurd h (Nat.not_lt_zero _), F.bindsN fun _ _ _ _ _ _ us hl => match us, hl with | [_], _ => rfl, F.kp⟩
  | succ n Orr =>
  obtain ⟨fd, F⟩ := T.f__law_made_row
  have Oc := ok_made_condition (P := P) (w := w) (base := base) T 4
  obtain ⟨fOne, FOne⟩ := T.f_One_init
  obtain ⟨fSome, FSome⟩ := T.f_Some_init
  obtain ⟨fNumber, FNumber⟩ := T.f_Number_init
  obtain ⟨fCheck, FCheck⟩ := T.f_Check_init
  obtain ⟨fSection, FSection⟩ := T.f_Section_init
  obtain ⟨fRounds, FRounds⟩ := T.f_Rounds_init
  obtain ⟨_, kbOne⟩ := FOne.kbinds0 (ps := ["self", "name", "options", "where"]) 3 ["where"] [] (fun us _ ws => us ++ ws) (by simp) (by simp) (fun a _ c => a.append c) (fun _ _ _ _ _ _ us mv ws h1 h2 h3 => match us, mv, ws, h1, h2, h3 with | [_, _, _], [], [_], _, _, _ => rfl)
  obtain ⟨_, kbSome⟩ := FSome.kbinds0 (ps := ["self", "name", "options", "where"]) 3 ["where"] [] (fun us _ ws => us ++ ws) (by simp) (by simp) (fun a _ c => a.append c) (fun _ _ _ _ _ _ us mv ws h1 h2 h3 => match us, mv, ws, h1, h2, h3 with | [_, _, _], [], [_], _, _, _ => rfl)
  obtain ⟨_, kbNumber⟩ := FNumber.kbinds0 (ps := ["self", "name", "low", "high", "where"]) 4 ["where"] [] (fun us _ ws => us ++ ws) (by simp) (by simp) (fun a _ c => a.append c) (fun _ _ _ _ _ _ us mv ws h1 h2 h3 => match us, mv, ws, h1, h2, h3 with | [_, _, _, _], [], [_], _, _, _ => rfl)
  obtain ⟨_, kbCheck⟩ := FCheck.kbinds0 (ps := ["self", "name", "must", "where"]) 3 ["where"] [] (fun us _ ws => us ++ ws) (by simp) (by simp) (fun a _ c => a.append c) (fun _ _ _ _ _ _ us mv ws h1 h2 h3 => match us, mv, ws, h1, h2, h3 with | [_, _, _], [], [_], _, _, _ => rfl)
  obtain ⟨_, kbSection⟩ := FSection.kbinds0 (ps := ["self", "rows", "where"]) 2 ["where"] [] (fun us _ ws => us ++ ws) (by simp) (by simp) (fun a _ c => a.append c) (fun _ _ _ _ _ _ us mv ws h1 h2 h3 => match us, mv, ws, h1, h2, h3 with | [_, _], [], [_], _, _, _ => rfl)
  obtain ⟨_, kbRounds⟩ := FRounds.kbinds0 (ps := ["self", "count", "rows", "where"]) 3 ["where"] [] (fun us _ ws => us ++ ws) (by simp) (by simp) (fun a _ c => a.append c) (fun _ _ _ _ _ _ us mv ws h1 h2 h3 => match us, mv, ws, h1, h2, h3 with | [_, _, _], [], [_], _, _, _ => rfl)
  refine ⟨fd, F.ok (k := n + 8) sc_made_row (fun vs H Q E h => ?_) (fun cdv A outer s' H vs Q E hr h => ?_), F.bindsN fun _ _ _ _ _ _ us hl => match us, hl with | [_], _ => rfl, F.kp⟩
  · obtain ⟨v, r, rfl, _⟩ := h
    rfl
  obtain ⟨v, r, rfl, hv, hB, hn, hcn, q⟩ := h
  have hrc := hr.mono (show 7 ≤ n + 8 by omega)
  refine ⟨_, pss_cons (ps_set (i := 1) sc_made_row.nd rfl (Or.inl rfl) (pe_f Oc hrc T.g__law_made_condition (pa_cons (pe_ix ix_tup (pv 0) (pe_un un_neg pe_int) (fun _ _ => rfl)) pa_nil)))
      (pss_cons (ps_if (pt_cmpR op_eq (pe_ix ix_tup (pv 0) pe_int (fun _ _ => rfl)) pe_str (nomark _)) (pss_one (ps_ret (pe_makeK T.mk_One (ok_One T FOne) (hr.mono (by omega)) (by rfl) T.g_One kbOne passL (pa_cons (pe_ix ix_tup (pv 0) pe_int (fun _ _ => rfl)) (pa_cons (pe_callTy call_list_of (by rfl) T.z_list (by decide +kernel) (pa_cons (pe_ix ix_tup (pv 0) pe_int (fun _ _ => rfl)) pa_nil)) pa_nil)) (pk_cons (pv 1) pk_nil)))) pss_nil)
      (pss_cons (ps_if (pt_cmpR op_eq (pe_ix ix_tup (pv 0) pe_int (fun _ _ => rfl)) pe_str (nomark _)) (pss_one (ps_ret (pe_makeK T.mk_Some (ok_Some T FSome) (hr.mono (by omega)) (by rfl) T.g_Some kbSome passL (pa_cons (pe_ix ix_tup (pv 0) pe_int (fun _ _ => rfl)) (pa_cons (pe_callTy call_list_of (by rfl) T.z_list (by decide +kernel) (pa_cons (pe_ix ix_tup (pv 0) pe_int (fun _ _ => rfl)) pa_nil)) pa_nil)) (pk_cons (pv 1) pk_nil)))) pss_nil)
      (pss_cons (ps_if (pt_cmpR op_eq (pe_ix ix_tup (pv 0) pe_int (fun _ _ => rfl)) pe_str (nomark _)) (pss_one (ps_ret (pe_makeK T.mk_Number (ok_Number T FNumber) (hr.mono (by omega)) (by rfl) T.g_Number kbNumber passL (pa_cons (pe_ix ix_tup (pv 0) pe_int (fun _ _ => rfl)) (pa_cons (pe_ix ix_tup (pv 0) pe_int (fun _ _ => rfl)) (pa_cons (pe_ix ix_tup (pv 0) pe_int (fun _ _ => rfl)) pa_nil))) (pk_cons (pv 1) pk_nil)))) pss_nil)
      (pss_cons (ps_if (pt_cmpR op_eq (pe_ix ix_tup (pv 0) pe_int (fun _ _ => rfl)) pe_str (nomark _)) (pss_one (ps_ret (pe_makeK T.mk_Check (ok_Check T FCheck) (hr.mono (by omega)) (by rfl) T.g_Check kbCheck passL (pa_cons (pe_ix ix_tup (pv 0) pe_int (fun _ _ => rfl)) (pa_cons (pe_f Oc hrc T.g__law_made_condition (pa_cons (pe_ix ix_tup (pv 0) pe_int (fun _ _ => rfl)) pa_nil)) pa_nil)) (pk_cons (pv 1) pk_nil)))) pss_nil)
      (pss_cons (ps_if (pt_cmpR op_eq (pe_ix ix_tup (pv 0) pe_int (fun _ _ => rfl)) pe_str (nomark _)) (pss_one (ps_ret (pe_makeK T.mk_Section (ok_Section T FSection) (hr.mono (by omega)) (by rfl) T.g_Section kbSection passL (pa_cons (by exact pe_lc (own := [("_law_one", 2)]) (g := gName 2) (tt := tYes) (te := (tCall (spMadeR K n) [] E0 (tCons (tVar 2) tNil))) (by rfl) sc_made_row.nd (pi_list (pe_ix ix_tup (pv 0) pe_int (fun _ _ => rfl))) (blkOk_by (own := [("_law_one", 2)]) (N := ["_law_row", "_law_cond", "_law_one"]) (sc := defScope s__law_made_row) (by decide +kernel)) (fun _ _ _ _ _ => pg_name (i := 2) sc_made_row.nd rfl (Or.inl rfl)) (fun _ _ _ _ _ => pts_nil) (fun _ _ _ _ _ => (pe_f Orr hr T.g__law_made_row (pa_cons (pv 2) pa_nil)))) pa_nil) (pk_cons (pv 1) pk_nil)))) pss_nil)
      (pss_one (ps_ret (pe_makeK T.mk_Rounds (ok_Rounds T FRounds) (hr.mono (by omega)) (by rfl) T.g_Rounds kbRounds passL (pa_cons (pe_ix ix_tup (pv 0) pe_int (fun _ _ => rfl)) (pa_cons (by exact pe_lc (own := [("_law_one", 2)]) (g := gName 2) (tt := tYes) (te := (tCall (spMadeR K n) [] E0 (tCons (tVar 2) tNil))) (by rfl) sc_made_row.nd (pi_list (pe_ix ix_tup (pv 0) pe_int (fun _ _ => rfl))) (blkOk_by (own := [("_law_one", 2)]) (N := ["_law_row", "_law_cond", "_law_one"]) (sc := defScope s__law_made_row) (by decide +kernel)) (fun _ _ _ _ _ => pg_name (i := 2) sc_made_row.nd rfl (Or.inl rfl)) (fun _ _ _ _ _ => pts_nil) (fun _ _ _ _ _ => (pe_f Orr hr T.g__law_made_row (pa_cons (pv 2) pa_nil)))) pa_nil)) (pk_cons (pv 1) pk_nil))))))))), ?_⟩
  have wh : ∀ (t : Addr) (xs : List V) (wv : V) (w' : Option Cd), H t = some (.tup (xs ++ [wv])) → DW H wv w' → odep w' < 4 → ∀ (Q2 : VK) (E2 : XK), (∀ cv H1, Same H H1 → WO K H1 cv w' → Q2 cv H1) → spMadeC K 4 ([wv] ++ []) H Q2 E2 := fun t xs wv w' h1 h2 h3 Q2 E2 k => ⟨wv, w', rfl, h2, h3, k⟩
  -- the rows inside, made one by one
  have inner : ∀ (l : Addr) (xs : List V) (rs : List Rw) (H1 : Hp) (cvo : Option V) (Q2 : Addr → Hp → Prop), H1 l = some (.lst xs) → DRs H1 xs rs → (∀ r ∈ rs, RB 100 r ∧ r.dep < n ∧ r.cnt ≤ 1000) → xs.length ≤ 1000 →
      (∀ D H2 acc, Same H1 H2 → H2 D = some (.lst acc) → ROs K H2 acc rs → Q2 D H2) → ∀ D, H1 D = none → ∃ W : Nat → Nat → Hp → Prop, (∃ m, W 0 m (upd H1 D (.lst []))) ∧ ∀ i m H, W i m H →
        ((Itl K l).stop i H ∧ Q2 D H) ∨ ((Itl K l).go i H ∧ ∃ Nx : Hp → Prop, (∀ H', Nx H' → ∃ m', m' < m ∧ W (i + 1) m' H') ∧ ∀ x H', (Itl K l).yld i H x H' → gName 2 x (wipe [some v, cvo, none] [2]) H' fun σ2 H2 => wipe σ2 [2] = wipe [some v, cvo, none] [2] ∧ tYes σ2 H2 fun b H3 =>
          if b = true then (tCall (spMadeR K n) [] E0 (tCons (tVar 2) tNil)) σ2 H3 fun y H4 => ∃ acc, H4 D = some (.lst acc) ∧ acc.length < sizeLine ∧ Nx (upd H4 D (.lst (acc ++ [y]))) else Nx H3) := by
    intro l xs rs H1 cvo Q2 hl hd hb hlen k D hD
    have ll := hd.len
    refine lc_list (K := K) (a := l) (xs := xs) (σ := [some v, cvo, none]) (vs := [2]) (H1 := H1) (fun (i : Nat) H' => ∃ acc : List V, Same H1 H' ∧ H' D = some (.lst acc) ∧ acc.length = i ∧ ROs K H' acc (rs.take i)) ⟨[], Same.new hD _, upd_same, rfl, .nil⟩ (fun i H' _ ⟨acc, e, _⟩ => SqL.of (e _ _ hl)) ?_ ?_
    · rintro i' x H3 hxi ⟨acc, e3, hD3, hl3, hr3⟩
      obtain ⟨r1, hr1, hdr⟩ := hd.get hxi
      have hi' : i' < rs.length := (List.getElem?_eq_some_iff.mp hr1).1
      obtain ⟨b1, b2, b3⟩ := hb r1 (one_of hr1)
      walk_at "go"
      refine ⟨rfl, ?_⟩
      walk_at "go"
      refine ⟨x, r1, rfl, hdr.same e3, b1, b2, b3, fun y H4 e4 hy => ?_⟩
      have hD4 := e4 _ _ hD3
      refine ⟨acc, hD4, Nat.lt_of_le_of_lt (show acc.length ≤ 1000 by omega) (by decide), acc ++ [y], (e3.trans e4).mut hD, upd_same, by rw [List.length_append, hl3]; rfl, ?_⟩
      have si : SI H4 (upd H4 D (.lst (acc ++ [y]))) := SI.upd hD4 rfl _
      rw [List.take_add_one, hr1]
      exact ROs.app ((hr3.si e4.si).si si) (.cons (hy.si si) .nil)
    · rintro H3 ⟨acc, e3, hD3, hl3, hr3⟩
      rw [ll, List.take_length] at hr3
      exact k D H3 acc e3 hD3 hr3
  cases hv with
  | @one t l n' os w' wv h hl hw =>
    have hB' : WB w' := by unfold RB at hB; exact hB.2.2.2
    walk_at "go"
    refine ⟨1, rfl, ?_⟩
    refine w_ixT (SqT.of h) rfl ?_
    walk_at "go"
    refine wh t [_, _, _] wv w' h hw (by have := hB'.1; omega) _ _ fun cv H1 e1 hc => ?_
    have h1 := e1 _ _ h
    walk_at "go"
    refine w_ixT (SqT.of h1) rfl ?_
    walk_at "go"
    refine w_sEq true (by decide +kernel) ?_
    walk_at "go"
    refine w_makeK ?_
    walk_at "go"
    refine w_ixT (SqT.of h1) rfl ?_
    walk_at "go"
    refine w_ixT (SqT.of h1) rfl ?_
    refine ⟨l, _, rfl, .inl (SqL.of (e1 _ _ hl)), fun l2 hl2 => ?_⟩
    have e2 := Same.new hl2 (.lst (os.map V.str))
    walk_at "go"
    refine ⟨rfl, rfl, ?_⟩
    exact mkIT (xs := os.map V.str) upd_same fun a t H' ha e hi ht => q _ _ ((e1.trans e2).trans e) (.one hi ht (hc.si (e2.trans e).si))
  | @some t l n' os w' wv h hl hw =>
    have hB' : WB w' := by unfold RB at hB; exact hB.2.2.2
    walk_at "go"
    refine ⟨1, rfl, ?_⟩
    refine w_ixT (SqT.of h) rfl ?_
    walk_at "go"
    refine wh t [_, _, _] wv w' h hw (by have := hB'.1; omega) _ _ fun cv H1 e1 hc => ?_
    have h1 := e1 _ _ h
    walk_at "go"
    refine w_ixT (SqT.of h1) rfl ?_
    walk_at "go"
    refine w_sEq false (by decide +kernel) ?_
    walk_at "go"
    refine w_ixT (SqT.of h1) rfl ?_
    walk_at "go"
    refine w_sEq true (by decide +kernel) ?_
    walk_at "go"
    refine w_makeK ?_
    walk_at "go"
    refine w_ixT (SqT.of h1) rfl ?_
    walk_at "go"
    refine w_ixT (SqT.of h1) rfl ?_
    refine ⟨l, _, rfl, .inl (SqL.of (e1 _ _ hl)), fun l2 hl2 => ?_⟩
    have e2 := Same.new hl2 (.lst (os.map V.str))
    walk_at "go"
    refine ⟨rfl, rfl, ?_⟩
    exact mkIT (xs := os.map V.str) upd_same fun a t H' ha e hi ht => q _ _ ((e1.trans e2).trans e) (.some hi ht (hc.si (e2.trans e).si))
  | @number t n' lo hi w' wv h hw =>
    have hB' : WB w' := by unfold RB at hB; exact hB.2
    walk_at "go"
    refine ⟨1, rfl, ?_⟩
    refine w_ixT (SqT.of h) rfl ?_
    walk_at "go"
    refine wh t [_, _, _, _] wv w' h hw (by have := hB'.1; omega) _ _ fun cv H1 e1 hc => ?_
    have h1 := e1 _ _ h
    walk_at "go"
    refine w_ixT (SqT.of h1) rfl ?_
    walk_at "go"
    refine w_sEq false (by decide +kernel) ?_
    walk_at "go"
    refine w_ixT (SqT.of h1) rfl ?_
    walk_at "go"
    refine w_sEq false (by decide +kernel) ?_
    walk_at "go"
    refine w_ixT (SqT.of h1) rfl ?_
    walk_at "go"
    refine w_sEq true (by decide +kernel) ?_
    walk_at "go"
    refine w_makeK ?_
    walk_at "go"
    refine w_ixT (SqT.of h1) rfl ?_
    walk_at "go"
    refine w_ixT (SqT.of h1) rfl ?_
    walk_at "go"
    refine w_ixT (SqT.of h1) rfl ?_
    walk_at "go"
    refine ⟨rfl, rfl, ?_⟩
    exact mkIK rfl fun a H' ha e hi => q _ _ (e1.trans e) (.number hi (hc.si e.si))
  | @check t n' mv m w' wv h hm hw =>
    have hB' : m.dep ≤ 3 ∧ WB w' := by unfold RB at hB; exact ⟨hB.2.1, hB.2.2.2⟩
    walk_at "go"
    refine ⟨1, rfl, ?_⟩
    refine w_ixT (SqT.of h) rfl ?_
    walk_at "go"
    refine wh t [_, _, _] wv w' h hw (by have := hB'.2.1; omega) _ _ fun cv H1 e1 hc => ?_
    have h1 := e1 _ _ h
    walk_at "go"
    refine w_ixT (SqT.of h1) rfl ?_
    walk_at "go"
    refine w_sEq false (by decide +kernel) ?_
    walk_at "go"
    refine w_ixT (SqT.of h1) rfl ?_
    walk_at "go"
    refine w_sEq false (by decide +kernel) ?_
    walk_at "go"
    refine w_ixT (SqT.of h1) rfl ?_
    walk_at "go"
    refine w_sEq false (by decide +kernel) ?_
    walk_at "go"
    refine w_ixT (SqT.of h1) rfl ?_
    walk_at "go"
    refine w_sEq true (by decide +kernel) ?_
    walk_at "go"
    refine w_makeK ?_
    walk_at "go"
    refine w_ixT (SqT.of h1) rfl ?_
    walk_at "go"
    refine w_ixT (SqT.of h1) rfl ?_
    walk_at "go"
    refine ⟨mv, some m, rfl, .some (hm.same e1), by show m.dep < 4; omega, fun v2 H2 e2 hc2 => ?_⟩
    cases hc2 with
    | some hc2 =>
      walk_at "go"
      refine ⟨rfl, rfl, ?_⟩
      exact mkIK rfl fun a H' ha e hi => q _ _ ((e1.trans e2).trans e) (.check hi (hc2.si e.si) (hc.si (e2.trans e).si))
  | @sect t l xs rs w' wv h hl hrs hw =>
    have hB' : RBs 100 rs ∧ WB w' := by unfold RB at hB; exact hB
    have hd' : 1 + Rws.dep rs < n + 1 := by unfold Rw.dep at hn; exact hn
    have hc' : 1 + Rws.cnt rs ≤ 1000 := by unfold Rw.cnt at hcn; exact hcn
    walk_at "go"
    refine ⟨1, rfl, ?_⟩
    refine w_ixT (SqT.of h) rfl ?_
    walk_at "go"
    refine wh t [_, _] wv w' h hw (by have := hB'.2.1; omega) _ _ fun cv H1 e1 hc => ?_
    have h1 := e1 _ _ h
    walk_at "go"
    refine w_ixT (SqT.of h1) rfl ?_
    walk_at "go"
    refine w_sEq false (by decide +kernel) ?_
    walk_at "go"
    refine w_ixT (SqT.of h1) rfl ?_
    walk_at "go"
    refine w_sEq false (by decide +kernel) ?_
    walk_at "go"
    refine w_ixT (SqT.of h1) rfl ?_
    walk_at "go"
    refine w_sEq false (by decide +kernel) ?_
    walk_at "go"
    refine w_ixT (SqT.of h1) rfl ?_
    walk_at "go"
    refine w_sEq false (by decide +kernel) ?_
    walk_at "go"
    refine w_ixT (SqT.of h1) rfl ?_
    walk_at "go"
    refine w_sEq true (by decide +kernel) ?_
    walk_at "go"
    refine w_makeK ?_
    refine w_lcL ?_
    walk_at "go"
    refine w_ixT (SqT.of h1) rfl ?_
    have hl1 := e1 _ _ hl
    have hrs1 := hrs.same e1
    refine ⟨l, rfl, ⟨_, SqL.of hl1⟩, ?_⟩
    refine inner l xs rs H1 (some cv) _ hl1 hrs1 (fun r hr => ⟨(RBs.iff _).mp hB'.1 r hr, by have := dep_mem hr; omega, by have := cnt_mem hr; omega⟩) (by have := hrs.len; have := Rws.len_cnt rs; omega) fun D H2 acc e2 hD hr2 => ?_
    walk_at "go"
    refine ⟨rfl, rfl, ?_⟩
    exact mkIS hD fun a t H' ha e hi ht => q _ _ ((e1.trans e2).trans e) (.sect hi ht (hr2.si e.si) (hc.si (e2.trans e).si))
  | @rounds t l n' xs rs w' wv h hl hrs hw =>
    have hB' : RBs 100 rs ∧ WB w' := by unfold RB at hB; exact hB.2
    have hd' : 1 + Rws.dep rs < n + 1 := by unfold Rw.dep at hn; exact hn
    have hc' : 1 + Rws.cnt rs ≤ 1000 := by unfold Rw.cnt at hcn; exact hcn
    walk_at "go"
    refine ⟨1, rfl, ?_⟩
    refine w_ixT (SqT.of h) rfl ?_
    walk_at "go"
    refine wh t [_, _, _] wv w' h hw (by have := hB'.2.1; omega) _ _ fun cv H1 e1 hc => ?_
    have h1 := e1 _ _ h
    walk_at "go"
    refine w_ixT (SqT.of h1) rfl ?_
    walk_at "go"
    refine w_sEq false (by decide +kernel) ?_
    walk_at "go"
    refine w_ixT (SqT.of h1) rfl ?_
    walk_at "go"
    refine w_sEq false (by decide +kernel) ?_
    walk_at "go"
    refine w_ixT (SqT.of h1) rfl ?_
    walk_at "go"
    refine w_sEq false (by decide +kernel) ?_
    walk_at "go"
    refine w_ixT (SqT.of h1) rfl ?_
    walk_at "go"
    refine w_sEq false (by decide +kernel) ?_
    walk_at "go"
    refine w_ixT (SqT.of h1) rfl ?_
    walk_at "go"
    refine w_sEq false (by decide +kernel) ?_
    walk_at "go"
    refine w_makeK ?_
    walk_at "go"
    refine w_ixT (SqT.of h1) rfl ?_
    walk_at "go"
    refine w_lcL ?_
    walk_at "go"
    refine w_ixT (SqT.of h1) rfl ?_
    have hl1 := e1 _ _ hl
    have hrs1 := hrs.same e1
    refine ⟨l, rfl, ⟨_, SqL.of hl1⟩, ?_⟩
    refine inner l xs rs H1 (some cv) _ hl1 hrs1 (fun r hr => ⟨(RBs.iff _).mp hB'.1 r hr, by have := dep_mem hr; omega, by have := cnt_mem hr; omega⟩) (by have := hrs.len; have := Rws.len_cnt rs; omega) fun D H2 acc e2 hD hr2 => ?_
    walk_at "go"
    refine ⟨rfl, rfl, ?_⟩
    exact mkIT hD fun a t H' ha e hi ht => q _ _ ((e1.trans e2).trans e) (.rounds hi ht (hr2.si e.si) (hc.si (e2.trans e).si))
end
end K3
end L10_part
section L11_part
set_option Elab.async false
set_option linter.all false
set_option maxRecDepth 100000
set_option maxHeartbeats 1000000
set_option pp.deepTerms.threshold 5
open PySem PySem.Spec PyProof.Rows L2
/-- go on as far as nothing is open -/
local macro_rules | `(tactic| walk_at "go") => `(tactic| repeat (first
  | with_reducible refine w_seq ?_ | with_reducible refine w_next ?_ | with_reducible refine w_set ?_ | with_reducible refine w_drop ?_ | with_reducible refine w_ret ?_ | with_reducible refine w_retN ?_
  | with_reducible refine w_if ?_ | ((with_reducible refine' w_var ?hv ?_); (case hv => exact rfl)) | with_reducible refine w_c ?_ | with_reducible refine w_nil ?_ | with_reducible refine w_cons ?_ | with_reducible refine w_op ?_ | with_reducible refine w_un ?_
  | with_reducible refine w_test ?_ | with_reducible refine w_tB ?_ | with_reducible refine w_not ?_ | with_reducible refine w_and ?_ | with_reducible refine w_or ?_ | with_reducible refine w_bl ?_
  | with_reducible refine w_andV ?_ | with_reducible refine w_orV ?_ | with_reducible refine w_notV ?_ | with_reducible refine w_ifE ?_ | with_reducible refine w_chain ?_ | with_reducible refine w_i0 ?_
  | with_reducible refine w_call ?_ | with_reducible refine w_callS ?_ | with_reducible refine w_cB ?_ | with_reducible refine w_tup ?_ | with_reducible refine w_lst ?_ | with_reducible refine w_fldV ?_
  | with_reducible refine w_neF ?_ | with_reducible refine w_neT ?_ | with_reducible refine w_notN ?_ | with_reducible refine w_isN ?_ | with_reducible refine w_gname ?_ | with_reducible refine w_gsub ?_ | with_reducible refine w_asg ?_ | with_reducible refine w_sl ?_ | with_reducible refine w_noP ?_ | with_reducible refine w_int1 ?_ | with_reducible refine w_part ?_ | with_reducible refine w_yes ?_ | with_reducible refine w_nT ?_ | with_reducible refine w_nF ?_ | with_reducible refine w_iteT ?_ | with_reducible refine w_iteF ?_))
namespace K3
mutual
def Rw.all : Rw → List Rw
  | .sect rs w => .sect rs w :: Rws.all rs
  | .rounds n rs w => .rounds n rs w :: Rws.all rs
  | .one n os w => [.one n os w]
  | .some n os w => [.some n os w]
  | .number n lo hi w => [.number n lo hi w]
  | .check n m w => [.check n m w]
def Rws.all : List Rw → List Rw
  | [] => []
  | r :: rs => r.all ++ Rws.all rs
end
theorem Rws.all_app : ∀ rs ss : List Rw, Rws.all (rs ++ ss) = Rws.all rs ++ Rws.all ss
  | [], ss => by rw [Rws.all]; rfl
  | r :: rs, ss => by rw [List.cons_append, Rws.all, Rws.all, Rws.all_app rs ss, List.append_assoc]
mutual
theorem Rw.all_len : ∀ r : Rw, r.all.length = r.cnt
  | .sect rs w => by rw [Rw.all, Rw.cnt, List.length_cons, Rws.all_len rs]; omega
  | .rounds n rs w => by rw [Rw.all, Rw.cnt, List.length_cons, Rws.all_len rs]; omega
  | .one n os w => by unfold Rw.all Rw.cnt; rfl
  | .some n os w => by unfold Rw.all Rw.cnt; rfl
  | .number n lo hi w => by unfold Rw.all Rw.cnt; rfl
  | .check n m w => by unfold Rw.all Rw.cnt; rfl
theorem Rws.all_len : ∀ rs : List Rw, (Rws.all rs).length = Rws.cnt rs
  | [] => by unfold Rws.all Rws.cnt; rfl
  | r :: rs => by rw [Rws.all, Rws.cnt, List.length_append, Rw.all_len r, Rws.all_len rs]
end
theorem Rws.cnt_mono : ∀ (rs : List Rw) (i : Nat), Rws.cnt (rs.take i) ≤ Rws.cnt rs := Rws.cnt_take
def spAll (K : PySem.W.Frag) (n : Nat) : Sp := fun vs H Q _ => ∃ (l : Addr) (xs : List V) (rs : List Rw) (B : Hp), vs = [.ref l] ∧ Same B H ∧ B l = some (.lst xs) ∧ DRs B xs rs ∧ Rws.dep rs < n ∧ Rws.cnt rs ≤ 1000 ∧ ∀ p H' ys, H p = none → Same H H' → H' p = some (.lst ys) → DRs B ys (Rws.all rs) → Q (.ref p) H'
/-- the shape of a row: its kind and what stands last but one -/
theorem dr_parts {B : Hp} {v : V} {r : Rw} (h : DR B v r) : ∃ (t : Addr) (kd : Str) (ws : List V), v = V.ref t ∧ B t = some (.tup (.str kd :: ws)) ∧
    ((inV (.str kd) [.str "section", .str "rounds"] = false ∧ r.all = [r]) ∨ (inV (.str kd) [.str "section", .str "rounds"] = true ∧ ∃ (l : Addr) (xs : List V) (rs : List Rw), atI (.str kd :: ws) (-2) = some (V.ref l) ∧ B l = some (.lst xs) ∧ DRs B xs rs ∧ r.all = r :: Rws.all rs ∧ r.dep = 1 + Rws.dep rs ∧ r.cnt = 1 + Rws.cnt rs)) := by
  cases h with
  | one h _ _ => exact ⟨_, _, _, rfl, h, Or.inl ⟨by decide +kernel, by unfold Rw.all; rfl⟩⟩
  | some h _ _ => exact ⟨_, _, _, rfl, h, Or.inl ⟨by decide +kernel, by unfold Rw.all; rfl⟩⟩
  | number h _ => exact ⟨_, _, _, rfl, h, Or.inl ⟨by decide +kernel, by unfold Rw.all; rfl⟩⟩
  | check h _ _ => exact ⟨_, _, _, rfl, h, Or.inl ⟨by decide +kernel, by unfold Rw.all; rfl⟩⟩
  | sect h hl hr _ => exact ⟨_, _, _, rfl, h, Or.inr ⟨by decide +kernel, _, _, _, rfl, hl, hr, by rw [Rw.all], by rw [Rw.dep], by rw [Rw.cnt]⟩⟩
  | rounds h hl hr _ => exact ⟨_, _, _, rfl, h, Or.inr ⟨by decide +kernel, _, _, _, rfl, hl, hr, by rw [Rw.all], by rw [Rw.dep], by rw [Rw.cnt]⟩⟩
section
variable {P : Program} {w : World} {K : PySem.W.Frag} {mg : Str → Option Value} {base : Heap}
theorem sc_all : FnScope ["_law_rows_here", "_law_found", "_law_row"] ["_law_rows_here"] (defScope s__law_all) := ⟨rfl, rfl, rfl, by decide +kernel, rfl, by decide +kernel, by decide +kernel⟩
theorem ok_all (T : Tx K mg) (n : Nat) : Ok P w K mg base (n + 1) (He.ga K "_law_all") ["_law_rows_here"] (spAll K n) := by
  induction n with
  | zero =>
    obtain ⟨fd, F⟩ := T.f__law_all
    exact ⟨fd, ok_none' fun vs H Q E ⟨_, _, _, _, _, _, _, _, h, _⟩ => absurd h (Nat.not_lt_zero _), F.bindsN fun _ _ _ _ _ _ us hl => match us, hl with | [_], _ => rfl, F.kp⟩
  | succ n Oa =>
  obtain ⟨fd, F⟩ := T.f__law_all
  refine ⟨fd, F.ok (k := n + 1) sc_all (fun vs H Q E h => ?_) (fun cdv A outer s' H vs Q E hr h => ?_), F.bindsN fun _ _ _ _ _ _ us hl => match us, hl with | [_], _ => rfl, F.kp⟩
  · obtain ⟨l, xs, rs, B, rfl, _⟩ := h
    rfl
  obtain ⟨l, xs, rs, B, rfl, e0, hl, hrs, hd, hc, q⟩ := h
  refine ⟨_, pss_cons (ps_set (i := 1) sc_all.nd rfl (Or.inl rfl) (pe_lst pa_nil))
      (pss_cons (ps_for (passes_of rfl) rfl (pi_list (pv 0)) (pg_name (i := 2) sc_all.nd rfl (Or.inl rfl)) (pss_cons (ps_expr (pe_bm PySem.F.plainAttrs_list PySem.F.slot_list_append PySem.F.type_list_append mt_append (pv 1) (pa_cons (pv 2) pa_nil)))
      (pss_one (ps_if (pt_cmpR op_in_seq (pe_ix ix_tup (pv 2) pe_int (fun _ _ => rfl)) (pe_lst (pa_cons pe_str (pa_cons pe_str pa_nil))) (by rfl)) (pss_one (ps_set (i := 1) sc_all.nd rfl (Or.inl rfl) (pe_op op_cat (pv 1) (pe_f Oa hr T.g__law_all (pa_cons (pe_ix ix_tup (pv 2) (pe_un un_neg pe_int) (fun _ _ => rfl)) pa_nil))))) pss_nil))))
      (pss_one (ps_ret (pv 1)))), ?_⟩
  have len := hrs.len
  walk_at "go"
  refine ⟨Nat.zero_le _, fun p0 hp0 => ?_⟩
  walk_at "go"
  refine ⟨_, rfl, l, rfl, ⟨_, SqL.of (Same.new hp0 (.lst []) _ _ (e0 _ _ hl))⟩, ?_⟩
  refine for_list (K := K) (a := l) (xs := xs) (fun (i : Nat) σ H' => ∃ (p : Addr) (ys : List V) (o2 : Option V), σ = [some (.ref l), some (.ref p), o2] ∧ Same H H' ∧ H p = none ∧ H' p = some (.lst ys) ∧ DRs B ys (Rws.all (rs.take i)))
    ⟨p0, [], none, rfl, Same.new hp0 _, hp0, upd_same, by rw [List.take_zero, Rws.all]; exact .nil⟩ (fun i σ H' _ ⟨_, _, _, _, e, _⟩ => SqL.of ((e0.trans e) _ _ hl)) ?_ ?_
  · rintro i x σ H1 hxi ⟨p, ys, o2, rfl, e1, hp, hp1, hy⟩
    obtain ⟨r, hri, hdr⟩ := hrs.get hxi
    have rm := one_of hri
    have hcl : ys.length ≤ 1000 := by
      have h1 := hy.len
      rw [Rws.all_len] at h1
      have := Rws.cnt_take rs i
      omega
    have htk : Rws.all (rs.take (i + 1)) = Rws.all (rs.take i) ++ r.all := by
      rw [List.take_add_one, hri, Rws.all_app]
      show _ ++ Rws.all [r] = _
      rw [Rws.all, Rws.all, List.append_nil]
    obtain ⟨t, kd, ws, rfl, ht, hk⟩ := dr_parts hdr
    walk_at "go"
    refine ⟨_, rfl, .inl ⟨rfl, _, SqL.of hp1⟩, ?_⟩
    walk_at "go"
    refine ⟨p, ys, _, rfl, rfl, hp1, Nat.lt_of_le_of_lt hcl (by decide), ?_⟩
    have e2 : Same H (upd H1 p (.lst (ys ++ [.ref t]))) := e1.mut hp
    have hp2 : (upd H1 p (.lst (ys ++ [.ref t]))) p = some (.lst (ys ++ [.ref t])) := upd_same
    generalize upd H1 p _ = H2 at e2 hp2 ⊢
    walk_at "go"
    refine w_ixT (SqT.of ((e0.trans e2) _ _ ht)) (atI_nat (j := 0) rfl) ?_
    walk_at "go"
    refine ⟨(by show 2 ≤ sizeLine; decide), fun p3 hp3 => ?_⟩
    refine ⟨p3, _, rfl, .inl (SqL.of upd_same), rfl, rfl, ?_⟩
    have e3 := e2.trans (Same.new hp3 (.lst [.str "section", .str "rounds"]))
    have hp3' := Same.new hp3 (.lst [.str "section", .str "rounds"]) _ _ hp2
    walk_at "go"
    generalize upd H2 p3 _ = H3 at e3 hp3' ⊢
    rcases hk with ⟨hk, ha⟩ | ⟨hk, l5, xs5, rs5, ha5, hl5, hr5, ha, hd5, hc5⟩
    · rw [show inV (.str kd) [.str "section", .str "rounds"] = false from hk]
      walk_at "go"
      exact ⟨p, _, _, rfl, e3, hp, hp3', by rw [htk, ha]; exact DRs.app hy (.cons hdr .nil)⟩
    · rw [show inV (.str kd) [.str "section", .str "rounds"] = true from hk]
      walk_at "go"
      refine ⟨2, rfl, ?_⟩
      refine w_ixT (SqT.of ((e0.trans e3) _ _ ht)) ha5 ?_
      walk_at "go"
      have b1 := dep_mem rm
      have b2 := cnt_mem rm
      refine ⟨l5, xs5, rs5, B, rfl, e0.trans e3, hl5, hr5, by omega, by omega, fun p6 H4 ys6 hp6 e4 hp64 hy6 => ?_⟩
      have l6 := hy6.len
      rw [Rws.all_len] at l6
      refine ⟨p, p6, _, _, rfl, rfl, e4 _ _ hp3', hp64, Nat.lt_of_le_of_lt (show (ys ++ [V.ref t]).length + ys6.length ≤ 3000 by rw [List.length_append]; show ys.length + 1 + _ ≤ _; omega) (show 3000 < sizeLine by decide) |> Nat.le_of_lt, fun p7 hp7 => ?_⟩
      walk_at "go"
      refine ⟨p7, _, _, rfl, (e3.trans e4).trans (Same.new hp7 _), ?_, upd_same, ?_⟩
      · cases hh : H p7 with
        | none => rfl
        | some o =>
          have hp7' : H4 p7 = none := hp7
          rw [(e3.trans e4) _ _ hh] at hp7'
          cases hp7'
      · rw [htk, ha, List.append_assoc]
        exact DRs.app hy (.cons hdr hy6)
  · rintro σ H1 ⟨p, ys, o2, rfl, e1, hp, hp1, hy⟩
    walk_at "go"
    exact q p H1 ys hp e1 hp1 (by rw [← List.take_length (l := rs), ← len]; exact hy)
end
end K3
end L11_part
section L12_part
set_option Elab.async false
set_option linter.all false
set_option maxRecDepth 100000
set_option maxHeartbeats 1000000
set_option pp.deepTerms.threshold 5
open PySem PySem.Spec PyProof.Rows L2
/-- go on as far as nothing is open -/
local macro_rules | `(tactic| walk_at "go") => `(tactic| repeat (first
  | with_reducible refine w_seq ?_ | with_reducible refine w_next ?_ | with_reducible refine w_set ?_ | with_reducible refine w_drop ?_ | with_reducible refine w_ret ?_ | with_reducible refine w_retN ?_
  | with_reducible refine w_if ?_ | ((with_reducible refine' w_var ?hv ?_); (case hv => exact rfl)) | with_reducible refine w_c ?_ | with_reducible refine w_nil ?_ | with_reducible refine w_cons ?_ | with_reducible refine w_op ?_ | with_reducible refine w_un ?_
  | with_reducible refine w_test ?_ | with_reducible refine w_tB ?_ | with_reducible refine w_not ?_ | with_reducible refine w_and ?_ | with_reducible refine w_or ?_ | with_reducible refine w_bl ?_
  | with_reducible refine w_andV ?_ | with_reducible refine w_orV ?_ | with_reducible refine w_notV ?_ | with_reducible refine w_ifE ?_ | with_reducible refine w_chain ?_ | with_reducible refine w_i0 ?_
  | with_reducible refine w_call ?_ | with_reducible refine w_callS ?_ | with_reducible refine w_cB ?_ | with_reducible refine w_tup ?_ | with_reducible refine w_lst ?_ | with_reducible refine w_fldV ?_
  | with_reducible refine w_neF ?_ | with_reducible refine w_neT ?_ | with_reducible refine w_notN ?_ | with_reducible refine w_isN ?_ | with_reducible refine w_gname ?_ | with_reducible refine w_gsub ?_ | with_reducible refine w_asg ?_ | with_reducible refine w_sl ?_ | with_reducible refine w_noP ?_ | with_reducible refine w_int1 ?_ | with_reducible refine w_part ?_ | with_reducible refine w_yes ?_ | with_reducible refine w_nT ?_ | with_reducible refine w_nF ?_ | with_reducible refine w_iteT ?_ | with_reducible refine w_iteF ?_))
namespace K3
/-- the names that are there, for draws -/
structure Ev (H : Hp) (ev s : Addr) (es : List Str) : Prop where
  at_ : H ev = some (.lst (es.map V.str))
  ne : ev ≠ s
  pos : 0 < es.length
  le : es.length ≤ 1000
  sz : ∀ e ∈ es, e.length ≤ 100
theorem Ev.bm {H H' : Hp} {ev s : Addr} {es : List Str} (h : Ev H ev s es) (e : BM [s] H H') : Ev H' ev s es := ⟨e.at h.at_ (by simpa using h.ne), h.ne, h.pos, h.le, h.sz⟩
theorem four_of {r : Int} (h0 : 0 ≤ r) (h : r < 4) : r = 0 ∨ r = 1 ∨ r = 2 ∨ r = 3 := by omega
def spAny (K : PySem.W.Frag) : Sp := fun vs H Q _ => ∃ (M : List Addr) (s ev : Addr) (es : List Str), vs = [.ref s, .ref ev] ∧ In M H ∧ s ∈ M ∧ Src H s ∧ Ev H ev s es ∧ ∀ v H' c, BM [s] H H' → Src H' s → DC (less H' M) v c → c.dep ≤ 1 → c.simp.length ≤ 2 → Q v H'
section
variable {P : Program} {w : World} {K : PySem.W.Frag} {mg : Str → Option Value} {base : Heap}
theorem sc_any : FnScope ["_law_source_here", "_law_every", "_law_name", "_law_one", "_law_other"] ["_law_source_here", "_law_every"] (defScope s__law_any_condition) := ⟨rfl, rfl, rfl, by decide +kernel, rfl, by decide +kernel, by decide +kernel⟩
theorem ok_any (T : Tx K mg) : Ok P w K mg base 2 (He.ga K "_law_any_condition") ["_law_source_here", "_law_every"] (spAny K) := by
  obtain ⟨fd, F⟩ := T.f__law_any_condition
  have O := ok_take (P := P) (w := w) (base := base) T
  refine ⟨fd, F.ok (k := 1) sc_any (fun vs H Q E h => ?_) (fun cdv A outer s' H vs Q E hr h => ?_), F.bindsN fun _ _ _ _ _ _ us hl => match us, hl with | [_, _], _ => rfl, F.kp⟩
  · obtain ⟨M, s, ev, es, rfl, _⟩ := h
    rfl
  obtain ⟨M, s, ev, es, rfl, hM, sM, hs, hE, q⟩ := h
  refine ⟨_, pss_cons (ps_set (i := 2) sc_any.nd rfl (Or.inl rfl) (pe_ix ix_list (pe_op op_cat (pv 1) (pe_lst (pa_cons pe_str pa_nil))) (pe_f O hr T.g__law_take (pa_cons (pv 0) (pa_cons (pe_op op_add (pe_callB call_len_seq (by rfl) T.z_len PySem.boot_len (pa_cons (pv 1) pa_nil)) pe_int) pa_nil))) (fun _ _ => rfl)))
      (pss_cons (ps_set (i := 3) sc_any.nd rfl (Or.inl rfl) (pe_ix ix_list (pe_lst (pa_cons (pe_tup (pa_cons pe_str (pa_cons (pv 2) (pa_cons pe_str pa_nil)))) (pa_cons (pe_tup (pa_cons pe_str (pa_cons (pv 2) (pa_cons pe_str pa_nil)))) (pa_cons (pe_tup (pa_cons pe_str (pa_cons (pv 2) (pa_cons pe_int pa_nil)))) (pa_cons (pe_tup (pa_cons pe_str (pa_cons (pv 2) (pa_cons pe_int pa_nil)))) pa_nil))))) (pe_f O hr T.g__law_take (pa_cons (pv 0) (pa_cons pe_int pa_nil))) (fun _ _ => rfl)))
      (pss_cons (ps_set (i := 4) sc_any.nd rfl (Or.inl rfl) (pe_tup (pa_cons pe_str (pa_cons (pe_ix ix_list (pv 1) (pe_f O hr T.g__law_take (pa_cons (pv 0) (pa_cons (pe_callB call_len_seq (by rfl) T.z_len PySem.boot_len (pa_cons (pv 1) pa_nil)) pa_nil))) (fun _ _ => rfl)) (pa_cons pe_int pa_nil)))))
      (pss_one (ps_ret (pe_ix ix_list (pe_lst (pa_cons (pv 3) (pa_cons (pe_tup (pa_cons pe_str (pa_cons (pv 3) pa_nil))) (pa_cons (pe_tup (pa_cons pe_str (pa_cons (pv 4) (pa_cons (pv 3) pa_nil)))) (pa_cons (pe_tup (pa_cons pe_str (pa_cons (pv 3) (pa_cons (pv 4) pa_nil)))) pa_nil))))) (pe_f O hr T.g__law_take (pa_cons (pv 0) (pa_cons pe_int pa_nil))) (fun _ _ => rfl)))))), ?_⟩
  have s5M : ∀ b ∈ [s], b ∈ M := fun b hb => by rw [List.mem_singleton.mp hb]; exact sM
  have hle := hE.le
  have hpo := hE.pos
  walk_at "go"
  refine ⟨(by show 1 ≤ sizeLine; decide), fun p1 hp1 => ?_⟩
  have f1 := Same.new hp1 (.lst [.str "nobody"])
  refine ⟨ev, p1, _, _, rfl, rfl, f1 _ _ hE.at_, upd_same, Nat.le_of_lt (Nat.lt_of_le_of_lt (show (es.map V.str).length + [V.str "nobody"].length ≤ 1001 by rw [List.length_map]; show es.length + 1 ≤ 1001; omega) (show 1001 < sizeLine by decide)), fun p2 hp2 => ?_⟩
  have f2 := f1.trans (Same.new hp2 (.lst (es.map V.str ++ [.str "nobody"])))
  have hp2' : (upd (upd H p1 (.lst [.str "nobody"])) p2 (.lst (es.map V.str ++ [.str "nobody"]))) p2 = some (.lst (es.map V.str ++ [.str "nobody"])) := upd_same
  generalize upd (upd H p1 _) p2 _ = H1 at f2 hp2' ⊢
  have E1 := hE.bm (BM.of f2)
  walk_at "go"
  refine ⟨ev, _, rfl, .inl (SqL.of E1.at_), ?_⟩
  walk_at "go"
  have lm : (es.map V.str).length = es.length := List.length_map ..
  refine ⟨s, _, rfl, hs.same f2, by omega, by omega, fun r1 H2 h0 h1 e2 s2 => ?_⟩
  have p2s : p2 ≠ s := fun z => by
    obtain ⟨a, b, c, hs'⟩ := hs.same f2
    rw [← z, hp2'] at hs'
    have := congrArg (fun o : Option HO => match o with | some (.lst (v :: _)) => some v | _ => none) hs'
    cases hes : es with
    | nil => rw [hes] at hpo; cases hpo
    | cons a b => rw [hes] at this; cases this
  obtain ⟨u, hu, hu2⟩ := at_in (l := es.map V.str ++ [.str "nobody"]) h0 (by rw [List.length_append]; show r1 < (((es.map V.str).length + 1 : Nat) : Int); omega)
  obtain ⟨nm, rfl, hnm⟩ : ∃ nm : Str, u = .str nm ∧ nm.length ≤ 100 := by
    rcases List.mem_append.mp hu2 with z | z
    · obtain ⟨e, he, rfl⟩ := List.mem_map.mp z
      exact ⟨e, rfl, hE.sz e he⟩
    · exact ⟨"nobody", List.mem_singleton.mp z, by decide +kernel⟩
  refine w_ixL (e2.at hp2' (by simpa using p2s)) hu ?_
  have g2 : BM [s] H H2 := (BM.of f2).trans e2
  walk_at "go"
  refine ⟨(by show 3 ≤ sizeLine; decide), fun t1 ht1 => ?_⟩
  walk_at "go"
  refine ⟨(by show 3 ≤ sizeLine; decide), fun t2 ht2 => ?_⟩
  walk_at "go"
  refine ⟨(by show 3 ≤ sizeLine; decide), fun t3 ht3 => ?_⟩
  walk_at "go"
  refine ⟨(by show 3 ≤ sizeLine; decide), fun t4 ht4 => ?_⟩
  walk_at "go"
  refine ⟨(by show 4 ≤ sizeLine; decide), fun t5 ht5 => ?_⟩
  walk_at "go"
  have k5 := Same.new ht5 (.lst [.ref t1, .ref t2, .ref t3, .ref t4])
  have k4 := (Same.new ht4 (.tup [.str "below", .str nm, .int 3])).trans k5
  have k3 := (Same.new ht3 (.tup [.str "above", .str nm, .int 0])).trans k4
  have k2 := (Same.new ht2 (.tup [.str "has", .str nm, .str "a"])).trans k3
  have k1 := (Same.new ht1 (.tup [.str "is", .str nm, .str "a"])).trans k2
  have m1 : t1 ∉ M := (hM.bm g2).new ht1
  have m2 : t2 ∉ M := ((hM.bm g2).bm (BM.of (M := []) (Same.new ht1 _))).new ht2
  have m3 : t3 ∉ M := (((hM.bm g2).bm (BM.of (M := []) (Same.new ht1 _))).bm (BM.of (M := []) (Same.new ht2 _))).new ht3
  have m4 : t4 ∉ M := ((((hM.bm g2).bm (BM.of (M := []) (Same.new ht1 _))).bm (BM.of (M := []) (Same.new ht2 _))).bm (BM.of (M := []) (Same.new ht3 _))).new ht4
  have c1 := less_of (k2 _ _ upd_same) m1
  have c2 := less_of (k3 _ _ upd_same) m2
  have c3 := less_of (k4 _ _ upd_same) m3
  have c4 := less_of (k5 _ _ upd_same) m4
  have c5 : (upd (upd (upd (upd (upd H2 t1 (.tup [.str "is", .str nm, .str "a"])) t2 (.tup [.str "has", .str nm, .str "a"])) t3 (.tup [.str "above", .str nm, .int 0])) t4 (.tup [.str "below", .str nm, .int 3])) t5 (.lst [.ref t1, .ref t2, .ref t3, .ref t4])) t5 = some (.lst [.ref t1, .ref t2, .ref t3, .ref t4]) := upd_same
  generalize upd (upd (upd (upd (upd H2 t1 _) t2 _) t3 _) t4 _) t5 _ = H3 at k1 c1 c2 c3 c4 c5 ⊢
  clear k2 k3 k4 k5
  have g3 := g2.same k1
  have s3 := s2.same k1
  have hM3 := hM.bm g3
  walk_at "go"
  refine ⟨s, _, rfl, s3, by decide, by decide, fun r2 H4 h2 h3 e4 s4 => ?_⟩
  have ts5 : t5 ≠ s := fun z => by
    obtain ⟨a, b, c, hs'⟩ := s3
    rw [← z, c5] at hs'
    cases hs'
  have g4 := g3.trans e4
  have l4 := (e4.mono s5M).less
  obtain ⟨o, c0, ho, hc0, hd0, hs0⟩ : ∃ (o : V) (c0 : Cd), atI [V.ref t1, .ref t2, .ref t3, .ref t4] r2 = some o ∧ DC (less H4 M) o c0 ∧ c0.dep = 0 ∧ c0.simp.length = 1 := by
    rcases four_of h2 h3 with rfl | rfl | rfl | rfl
    · exact ⟨_, _, rfl, .is (l4 _ _ c1), rfl, rfl⟩
    · exact ⟨_, _, rfl, .has (l4 _ _ c2), rfl, rfl⟩
    · exact ⟨_, _, rfl, .over (l4 _ _ c3), rfl, rfl⟩
    · exact ⟨_, _, rfl, .under (l4 _ _ c4), rfl, rfl⟩
  refine w_ixL (e4.at c5 (by simpa using ts5)) ho ?_
  have E4 := hE.bm g4
  have hM4 := hM.bm g4
  walk_at "go"
  refine ⟨ev, _, rfl, .inl (SqL.of E4.at_), ?_⟩
  walk_at "go"
  refine ⟨s, _, rfl, s4, by omega, by omega, fun r3 H5 h4 h5 e5 s5 => ?_⟩
  have g5 := g4.trans e5
  have E5 := hE.bm g5
  obtain ⟨u2, hu3, hu4⟩ := at_in h4 h5
  obtain ⟨en, hen, rfl⟩ := List.mem_map.mp hu4
  refine w_ixL E5.at_ hu3 ?_
  walk_at "go"
  refine ⟨(by show 3 ≤ sizeLine; decide), fun w1 hw1 => ?_⟩
  have k6 := Same.new hw1 (.tup [.str "above", .str en, .int 1])
  have g6 := g5.same k6
  have n1 : w1 ∉ M := (hM.bm g5).new hw1
  have d1 : DC (less (upd H5 w1 (.tup [.str "above", .str en, .int 1])) M) (.ref w1) (.over en 1) := .over (less_of upd_same n1)
  have hc6 := (hc0.same (e5.mono s5M).less).same (BM.of (M := M) k6).less
  have s6 := s5.same k6
  generalize upd H5 w1 _ = H6 at k6 g6 d1 hc6 s6 ⊢
  walk_at "go"
  refine ⟨(by show 2 ≤ sizeLine; decide), fun w2 hw2 => ?_⟩
  walk_at "go"
  refine ⟨(by show 3 ≤ sizeLine; decide), fun w3 hw3 => ?_⟩
  walk_at "go"
  refine ⟨(by show 3 ≤ sizeLine; decide), fun w4 hw4 => ?_⟩
  walk_at "go"
  refine ⟨(by show 4 ≤ sizeLine; decide), fun w5 hw5 => ?_⟩
  have j5 := Same.new hw5 (.lst [o, .ref w2, .ref w3, .ref w4])
  have j4 := (Same.new hw4 (.tup [.str "either", o, .ref w1])).trans j5
  have j3 := (Same.new hw3 (.tup [.str "both", .ref w1, o])).trans j4
  have j2 := (Same.new hw2 (.tup [.str "not", o])).trans j3
  have m2' : w2 ∉ M := (hM.bm g6).new hw2
  have m3' : w3 ∉ M := ((hM.bm g6).bm (BM.of (M := []) (Same.new hw2 _))).new hw3
  have m4' : w4 ∉ M := (((hM.bm g6).bm (BM.of (M := []) (Same.new hw2 _))).bm (BM.of (M := []) (Same.new hw3 _))).new hw4
  have c2' := less_of (j3 _ _ upd_same) m2'
  have c3' := less_of (j4 _ _ upd_same) m3'
  have c4' := less_of (j5 _ _ upd_same) m4'
  have c5' : (upd (upd (upd (upd H6 w2 (.tup [.str "not", o])) w3 (.tup [.str "both", .ref w1, o])) w4 (.tup [.str "either", o, .ref w1])) w5 (.lst [o, .ref w2, .ref w3, .ref w4])) w5 = some (.lst [o, .ref w2, .ref w3, .ref w4]) := upd_same
  generalize upd (upd (upd (upd H6 w2 _) w3 _) w4 _) w5 _ = H7 at j2 c2' c3' c4' c5' ⊢
  clear j3 j4 j5
  have g7 := g6.same j2
  have s7 := s6.same j2
  walk_at "go"
  refine ⟨s, _, rfl, s7, by decide, by decide, fun r4 H8 h6 h7 e8 s8 => ?_⟩
  have ws5 : w5 ≠ s := fun z => by
    obtain ⟨a, b, c, hs'⟩ := s7
    rw [← z, c5'] at hs'
    cases hs'
  have g8 := g7.trans e8
  have l8 := (e8.mono s5M).less
  have hc8 := (hc6.same (BM.of (M := M) j2).less).same l8
  have d8 := (d1.same (BM.of (M := M) j2).less).same l8
  have at8 := e8.at c5' (by simpa using ws5)
  rcases four_of h6 h7 with rfl | rfl | rfl | rfl
  · refine w_ixL at8 rfl ?_
    exact q _ _ c0 g8 s8 hc8 (by omega) (by omega)
  · refine w_ixL at8 rfl ?_
    exact q _ _ (.no c0) g8 s8 (.no (l8 _ _ c2') hc8) (by show c0.dep + 1 ≤ 1; omega) (by show c0.simp.length ≤ 2; omega)
  · refine w_ixL at8 rfl ?_
    exact q _ _ (.both (.over en 1) c0) g8 s8 (.both (l8 _ _ c3') d8 hc8) (by show max 0 c0.dep + 1 ≤ 1; omega) (by show ([Cd.over en 1] ++ c0.simp).length ≤ 2; rw [List.length_append, hs0]; exact Nat.le_refl 2)
  · refine w_ixL at8 rfl ?_
    exact q _ _ (.either c0 (.over en 1)) g8 s8 (.either (l8 _ _ c4') hc8 d8) (by show max c0.dep 0 + 1 ≤ 1; omega) (by show (c0.simp ++ [Cd.over en 1]).length ≤ 2; rw [List.length_append, hs0]; exact Nat.le_refl 2)
end
end K3
end L12_part
section L13_part
set_option Elab.async false
set_option linter.all false
set_option maxRecDepth 100000
set_option maxHeartbeats 1000000
set_option pp.deepTerms.threshold 5
open PySem PySem.Spec PyProof.Rows L2
/-- go on as far as nothing is open -/
local macro_rules | `(tactic| walk_at "go") => `(tactic| repeat (first
  | with_reducible refine w_seq ?_ | with_reducible refine w_next ?_ | with_reducible refine w_set ?_ | with_reducible refine w_drop ?_ | with_reducible refine w_ret ?_ | with_reducible refine w_retN ?_
  | with_reducible refine w_if ?_ | ((with_reducible refine' w_var ?hv ?_); (case hv => exact rfl)) | with_reducible refine w_c ?_ | with_reducible refine w_nil ?_ | with_reducible refine w_cons ?_ | with_reducible refine w_op ?_ | with_reducible refine w_un ?_
  | with_reducible refine w_test ?_ | with_reducible refine w_tB ?_ | with_reducible refine w_not ?_ | with_reducible refine w_and ?_ | with_reducible refine w_or ?_ | with_reducible refine w_bl ?_
  | with_reducible refine w_andV ?_ | with_reducible refine w_orV ?_ | with_reducible refine w_notV ?_ | with_reducible refine w_ifE ?_ | with_reducible refine w_chain ?_ | with_reducible refine w_i0 ?_
  | with_reducible refine w_call ?_ | with_reducible refine w_callS ?_ | with_reducible refine w_cB ?_ | with_reducible refine w_tup ?_ | with_reducible refine w_lst ?_ | with_reducible refine w_fldV ?_
  | with_reducible refine w_neF ?_ | with_reducible refine w_neT ?_ | with_reducible refine w_notN ?_ | with_reducible refine w_isN ?_ | with_reducible refine w_gname ?_ | with_reducible refine w_gsub ?_ | with_reducible refine w_asg ?_ | with_reducible refine w_sl ?_ | with_reducible refine w_noP ?_ | with_reducible refine w_int1 ?_ | with_reducible refine w_part ?_ | with_reducible refine w_yes ?_ | with_reducible refine w_nT ?_ | with_reducible refine w_nF ?_ | with_reducible refine w_iteT ?_ | with_reducible refine w_iteF ?_))
namespace K3
theorem cut_one (os : List Str) : ∃ ys : List Str, cutV (os.map V.str) none (some 1) = ys.map V.str ∧ ys.length ≤ 1 ∧ ∀ y ∈ ys, y ∈ os := by
  cases os with
  | nil => exact ⟨[], rfl, Nat.zero_le _, fun y h => h⟩
  | cons o r =>
    refine ⟨[o], ?_, Nat.le_refl _, fun y h => by rw [List.mem_singleton.mp h]; exact .head _⟩
    unfold cutV HT.sIx
    simp
theorem last_in {α : Type} {l : List α} (h : 0 < l.length) : ∃ c, atI l (-1) = some c ∧ c ∈ l := by
  have ne : l ≠ [] := List.length_pos_iff.mp h
  have e := List.dropLast_concat_getLast ne
  refine ⟨l.getLast ne, ?_, List.getLast_mem ne⟩
  have h := atI_last l.dropLast (l.getLast ne)
  rw [e] at h
  exact h
theorem w_slT {K : PySem.W.Frag} {t : Addr} {xs ys : List V} {lo hi : Option Int} {H : Hp} {Q : VK} (m : Nat) (h : H t = some (.tup xs)) (hl : xs.length = m) (hn : ¬ (HT.sIx m 0 lo = 0 ∧ HT.sIx m m hi = m)) (hc : cutV xs lo hi = ys) (q : ∀ p, H p = none → Q (.ref p) (upd H p (.tup ys))) : rSlT K (.ref t) lo hi H Q :=
  ⟨t, xs, rfl, SqT.of h, by rw [hl]; exact hn, by rw [hc]; exact q⟩
theorem w_catT {K : PySem.W.Frag} {a b : Addr} {xs ys : List V} {H : Hp} {Q : VK} (hx : H a = some (.tup xs)) (hy : H b = some (.tup ys)) (x0 : xs ≠ []) (y0 : ys ≠ []) (hz : xs.length + ys.length ≤ 1000) (q : ∀ p, H p = none → Q (.ref p) (upd H p (.tup (xs ++ ys)))) : rCatT K (.ref a) (.ref b) H Q :=
  ⟨a, b, xs, ys, rfl, rfl, SqT.of hx, SqT.of hy, x0, Nat.le_trans hz (by decide), fun z => absurd z y0, fun _ => q⟩
theorem str_of {v : V} {l : List V} (h : v ∈ l) (hl : ∀ u ∈ l, ∃ z : Str, u = .str z ∧ z.length ≤ 100) : ∃ z : Str, v = .str z ∧ z.length ≤ 100 := hl v h
theorem RB.mono {b c : Nat} (h : b ≤ c) {r : Rw} (k : r.isN = true) (hr : RB b r) : RB c r := by
  cases r with
  | one n os w => unfold RB at hr ⊢; exact ⟨hr.1, Nat.le_trans hr.2.1 h, hr.2.2⟩
  | some n os w => unfold RB at hr ⊢; exact ⟨hr.1, Nat.le_trans hr.2.1 h, hr.2.2⟩
  | number n lo hi w => unfold RB at hr ⊢; exact hr
  | check n m w => unfold RB at hr ⊢; exact hr
  | sect rs w => cases k
  | rounds n rs w => cases k
def spSpF (K : PySem.W.Frag) : Sp := fun vs H Q _ => ∃ (M : List Addr) (s ev : Addr) (es : List Str) (v : V) (r : Rw) (b : Nat), vs = [.ref s, v, .ref ev] ∧ In M H ∧ s ∈ M ∧ Src H s ∧ Ev H ev s es ∧ DR (less H M) v r ∧ RB b r ∧ b ≤ 50 ∧ r.isN = true ∧
  ∀ v' H' r', BM [s] H H' → Src H' s → DR (less H' M) v' r' → RB (b + 6) r' → r'.cnt = 1 → r'.dep = 0 → Q v' H'
section
variable {P : Program} {w : World} {K : PySem.W.Frag} {mg : Str → Option Value} {base : Heap}
theorem sc_spf : FnScope ["_law_source_here", "_law_row", "_law_every", "_law_way", "_law_odd", "_law_low", "_law_some"] ["_law_source_here", "_law_row", "_law_every"] (defScope s__law_spoilt_fields) := ⟨rfl, rfl, rfl, by decide +kernel, rfl, by decide +kernel, by decide +kernel⟩
theorem ok_spf (T : Tx K mg) : Ok P w K mg base 3 (He.ga K "_law_spoilt_fields") ["_law_source_here", "_law_row", "_law_every"] (spSpF K) := by
  obtain ⟨fd, F⟩ := T.f__law_spoilt_fields
  have O := ok_take (P := P) (w := w) (base := base) T
  have Oa := ok_any (P := P) (w := w) (base := base) T
  refine ⟨fd, F.ok (k := 2) sc_spf (fun vs H Q E h => ?_) (fun cdv A outer s' H vs Q E hr h => ?_), F.bindsN fun _ _ _ _ _ _ us hl => match us, hl with | [_, _, _], _ => rfl, F.kp⟩
  · obtain ⟨M, s, ev, es, v, r, b, rfl, _⟩ := h
    rfl
  obtain ⟨M, s, ev, es, v, r, b, rfl, hM, sM, hs, hE, hv, hB, hb, hN, q⟩ := h
  have hr1 := hr.mono (show 1 ≤ 2 by decide)
  refine ⟨_, pss_cons (ps_set (i := 3) sc_spf.nd rfl (Or.inl rfl) (pe_f O hr1 T.g__law_take (pa_cons (pv 0) (pa_cons pe_int pa_nil))))
      (pss_cons (ps_if (pt_cmpR op_eq (pv 3) pe_int (nomark _)) (pss_cons (ps_set (i := 4) sc_spf.nd rfl (Or.inl rfl) (pe_lst (pa_cons pe_str (pa_cons pe_str (pa_cons pe_str (pa_cons pe_str (pa_cons pe_str (pa_cons pe_str (pa_cons (pe_ix ix_list (pv 2) pe_int (fun _ _ => rfl)) (pa_cons (pe_ix ix_list (pv 2) (pe_un un_neg pe_int) (fun _ _ => rfl)) pa_nil))))))))))
      (pss_one (ps_ret (pe_op op_catT (pe_op op_catT (pe_slice sl_tup (pv 1) po_none (po_some pe_int)) (pe_tup (pa_cons (pe_ix ix_list (pv 4) (pe_f O hr1 T.g__law_take (pa_cons (pv 0) (pa_cons pe_int pa_nil))) (fun _ _ => rfl)) pa_nil))) (pe_slice sl_tup (pv 1) (po_some pe_int) po_none))))) pss_nil)
      (pss_cons (ps_if (pt_cmpR op_eq (pe_ix ix_tup (pv 1) pe_int (fun _ _ => rfl)) pe_str (nomark _)) (pss_cons (ps_set (i := 5) sc_spf.nd rfl (Or.inl rfl) (pe_ix ix_list (pe_lst (pa_cons (pe_op op_add (pe_ix ix_tup (pv 1) pe_int (fun _ _ => rfl)) pe_int) (pa_cons (pe_un un_neg pe_int) (pa_cons pe_int (pa_cons (pe_ix ix_tup (pv 1) pe_int (fun _ _ => rfl)) pa_nil))))) (pe_f O hr1 T.g__law_take (pa_cons (pv 0) (pa_cons pe_int pa_nil))) (fun _ _ => rfl)))
      (pss_one (ps_ret (pe_op op_catT (pe_slice sl_tup (pv 1) po_none (po_some pe_int)) (pe_tup (pa_cons (pv 5) (pa_cons (pe_ix ix_list (pe_lst (pa_cons (pe_ix ix_tup (pv 1) pe_int (fun _ _ => rfl)) (pa_cons pe_int (pa_cons (pe_op op_sub (pv 5) pe_int) pa_nil)))) (pe_f O hr1 T.g__law_take (pa_cons (pv 0) (pa_cons pe_int pa_nil))) (fun _ _ => rfl)) (pa_cons (pe_ix ix_tup (pv 1) pe_int (fun _ _ => rfl)) pa_nil)))))))) pss_nil)
      (pss_cons (ps_if (pt_cmpR op_eq (pe_ix ix_tup (pv 1) pe_int (fun _ _ => rfl)) pe_str (nomark _)) (pss_one (ps_ret (pe_op op_catT (pe_slice sl_tup (pv 1) po_none (po_some pe_int)) (pe_tup (pa_cons (pe_f Oa hr T.g__law_any_condition (pa_cons (pv 0) (pa_cons (pv 2) pa_nil))) (pa_cons (pe_ix ix_tup (pv 1) pe_int (fun _ _ => rfl)) pa_nil)))))) pss_nil)
      (pss_cons (ps_set (i := 6) sc_spf.nd rfl (Or.inl rfl) (pe_ix ix_tup (pv 1) pe_int (fun _ _ => rfl)))
      (pss_cons (ps_set (i := 4) sc_spf.nd rfl (Or.inl rfl) (pe_lst (pa_cons (pe_lst pa_nil) (pa_cons (pe_op op_cat (pv 6) (pe_lst (pa_cons pe_str (pa_cons pe_str (pa_cons pe_str (pa_cons pe_str (pa_cons pe_str (pa_cons pe_str pa_nil)))))))) (pa_cons (pe_op op_cat (pv 6) (pe_slice sl_list (pv 6) po_none (po_some pe_int))) (pa_cons (pe_op op_cat (pv 6) (pe_lst (pa_cons pe_str pa_nil))) (pa_cons (pe_op op_cat (pe_lst (pa_cons pe_str pa_nil)) (pv 6)) (pa_cons (pe_op op_rep (pe_slice sl_list (pv 6) po_none (po_some pe_int)) pe_int) pa_nil))))))))
      (pss_one (ps_ret (pe_op op_catT (pe_slice sl_tup (pv 1) po_none (po_some pe_int)) (pe_tup (pa_cons (pe_ix ix_list (pv 4) (pe_f O hr1 T.g__law_take (pa_cons (pv 0) (pa_cons pe_int pa_nil))) (fun _ _ => rfl)) (pa_cons (pe_ix ix_tup (pv 1) pe_int (fun _ _ => rfl)) pa_nil))))))))))), ?_⟩
  have s5M : ∀ b ∈ [s], b ∈ M := fun b hb => by rw [List.mem_singleton.mp hb]; exact sM
  have hle := hE.le
  have hpo := hE.pos
  walk_at "go"
  refine ⟨s, _, rfl, hs, by decide, by decide, fun r1 H1 h0 h1 e1 s1 => ?_⟩
  walk_at "go"
  refine ⟨rfl, ?_⟩
  walk_at "go"
  rw [dec_int]
  by_cases q1 : r1 = 0
  · rw [decide_eq_true q1]
    walk_at "go"
    have lm : (es.map V.str).length = es.length := List.length_map ..
    obtain ⟨u0, hu0, hm0⟩ := at_in (l := es.map V.str) (i := 0) (Int.le_refl 0) (by omega)
    obtain ⟨z0, hz0, rfl⟩ := List.mem_map.mp hm0
    obtain ⟨u1, hu1, hm1⟩ := last_in (l := es.map V.str) (by omega)
    obtain ⟨z1, hz1, rfl⟩ := List.mem_map.mp hm1
    refine w_ixL ((hE.bm e1).at_) hu0 ?_
    walk_at "go"
    refine ⟨1, rfl, ?_⟩
    refine w_ixL ((hE.bm e1).at_) hu1 ?_
    walk_at "go"
    refine ⟨(by show 8 ≤ sizeLine; decide), fun p0 hp0 => ?_⟩
    have f0 := Same.new hp0 (.lst [.str "", .str "Ab", .str "a b", .str "1a", .str "abcdefghi", .str "a-b", .str z0, .str z1])
    have hp0' : (upd H1 p0 (.lst [.str "", .str "Ab", .str "a b", .str "1a", .str "abcdefghi", .str "a-b", .str z0, .str z1])) p0 = some (.lst [.str "", .str "Ab", .str "a b", .str "1a", .str "abcdefghi", .str "a-b", .str z0, .str z1]) := upd_same
    have all8 : ∀ u ∈ [V.str "", .str "Ab", .str "a b", .str "1a", .str "abcdefghi", .str "a-b", .str z0, .str z1], ∃ z : Str, u = .str z ∧ z.length ≤ 100 := by
      intro u hu
      rcases List.mem_cons.mp hu with rfl | hu
      · exact ⟨_, rfl, by decide +kernel⟩
      rcases List.mem_cons.mp hu with rfl | hu
      · exact ⟨_, rfl, by decide +kernel⟩
      rcases List.mem_cons.mp hu with rfl | hu
      · exact ⟨_, rfl, by decide +kernel⟩
      rcases List.mem_cons.mp hu with rfl | hu
      · exact ⟨_, rfl, by decide +kernel⟩
      rcases List.mem_cons.mp hu with rfl | hu
      · exact ⟨_, rfl, by decide +kernel⟩
      rcases List.mem_cons.mp hu with rfl | hu
      · exact ⟨_, rfl, by decide +kernel⟩
      rcases List.mem_cons.mp hu with rfl | hu
      · exact ⟨_, rfl, hE.sz _ hz0⟩
      · rw [List.mem_singleton.mp hu]
        exact ⟨_, rfl, hE.sz _ hz1⟩
    generalize upd H1 p0 _ = H2 at f0 hp0' ⊢
    have g2 := e1.same f0
    have s2 := s1.same f0
    have p0s : p0 ≠ s := fun z => by
      obtain ⟨a, b, c, hs'⟩ := s2
      rw [← z, hp0'] at hs'
      cases hs'
    obtain ⟨t, k, nm, rest, rfl, ht, hlen, hren⟩ : ∃ (t : Addr) (k nm : Str) (rest : List V), v = V.ref t ∧ less H M t = some (.tup (.str k :: .str nm :: rest)) ∧ (rest.length = 2 ∨ rest.length = 3) ∧
        ∀ (H' : Hp) (t' : Addr) (z : Str), BM [s] H H' → z.length ≤ 100 → less H' M t' = some (.tup (.str k :: .str z :: rest)) → ∃ r', DR (less H' M) (.ref t') r' ∧ RB (b + 6) r' ∧ r'.cnt = 1 ∧ r'.dep = 0 := by
      cases hv with
      | one h hl hw => exact ⟨_, _, _, _, rfl, h, Or.inl rfl, fun H' t' z e hz h' => ⟨.one z _ _, .one h' ((e.mono s5M).less _ _ hl) (hw.same (e.mono s5M).less), by unfold RB at hB ⊢; exact ⟨hz, by omega, hB.2.2⟩, by unfold Rw.cnt; rfl, by unfold Rw.dep; rfl⟩⟩
      | some h hl hw => exact ⟨_, _, _, _, rfl, h, Or.inl rfl, fun H' t' z e hz h' => ⟨.some z _ _, .some h' ((e.mono s5M).less _ _ hl) (hw.same (e.mono s5M).less), by unfold RB at hB ⊢; exact ⟨hz, by omega, hB.2.2⟩, by unfold Rw.cnt; rfl, by unfold Rw.dep; rfl⟩⟩
      | number h hw => exact ⟨_, _, _, _, rfl, h, Or.inr rfl, fun H' t' z e hz h' => ⟨.number z _ _ _, .number h' (hw.same (e.mono s5M).less), by unfold RB at hB ⊢; exact ⟨hz, hB.2⟩, by unfold Rw.cnt; rfl, by unfold Rw.dep; rfl⟩⟩
      | check h hm hw => exact ⟨_, _, _, _, rfl, h, Or.inl rfl, fun H' t' z e hz h' => ⟨.check z _ _, .check h' (hm.same (e.mono s5M).less) (hw.same (e.mono s5M).less), by unfold RB at hB ⊢; exact ⟨hz, hB.2⟩, by unfold Rw.cnt; rfl, by unfold Rw.dep; rfl⟩⟩
      | sect _ _ _ _ => cases hN
      | rounds _ _ _ _ => cases hN
    have tM := (less_at ht).2
    have ts : t ≠ s := fun z => tM (by rw [z]; exact sM)
    have cut : ∃ m, (V.str k :: V.str nm :: rest).length = m ∧ ¬ (HT.sIx m 0 none = 0 ∧ HT.sIx m m (some 1) = m) ∧ ¬ (HT.sIx m 0 (some 2) = 0 ∧ HT.sIx m m none = m) ∧ cutV (V.str k :: V.str nm :: rest) none (some 1) = [V.str k] ∧ cutV (V.str k :: V.str nm :: rest) (some 2) none = rest ∧ rest ≠ [] := by
      match rest, hlen with
      | [_, _], _ => exact ⟨4, rfl, by decide, by decide, rfl, rfl, by simp⟩
      | [_, _, _], _ => exact ⟨5, rfl, by decide, by decide, rfl, rfl, by simp⟩
    obtain ⟨m, hm, hn1, hn2, hc1, hc2, hne⟩ := cut
    have h2r : ([V.str k] ++ [V.str nm]).length + rest.length ≤ 1000 := by show 2 + rest.length ≤ 1000; omega
    have ht2 := g2.at (less_at ht).1 (by simpa using ts)
    walk_at "go"
    refine w_slT m ht2 hm hn1 hc1 fun p1 hp1 => ?_
    have f1 := Same.new hp1 (.tup [.str k])
    walk_at "go"
    refine ⟨s, _, rfl, s2.same f1, by decide, by decide, fun r2 H3 h2 h3 e3 s3 => ?_⟩
    have p1s : p1 ≠ s := fun z => by obtain ⟨_, _, _, z2⟩ := s2; rw [← z, hp1] at z2; cases z2
    have hp13 := e3.at (b := p1) (upd_same) (by simpa using p1s)
    obtain ⟨u, hu, hu2⟩ := at_in h2 (show r2 < (([V.str "", .str "Ab", .str "a b", .str "1a", .str "abcdefghi", .str "a-b", .str z0, .str z1].length : Nat) : Int) from h3)
    obtain ⟨z, rfl, hz⟩ := all8 u hu2
    refine w_ixL (e3.at (f1 _ _ hp0') (by simpa using p0s)) hu ?_
    have g3 := (g2.same f1).trans e3
    walk_at "go"
    refine ⟨(by show 1 ≤ sizeLine; decide), fun p2 hp2 => ?_⟩
    have f2 := Same.new hp2 (.tup [.str z])
    refine w_catT (f2 _ _ hp13) upd_same (by simp) (by simp) (by show 2 ≤ 1000; decide) fun p3 hp3 => ?_
    have f3 := f2.trans (Same.new hp3 (.tup ([.str k] ++ [.str z])))
    walk_at "go"
    have ht3 := f3 _ _ (g3.at (less_at ht).1 (by simpa using ts))
    refine w_slT m ht3 hm hn2 hc2 fun p4 hp4 => ?_
    have f4 := Same.new hp4 (.tup rest)
    refine w_catT (f4 _ _ upd_same) upd_same (by simp) hne (h2r) fun p5 hp5 => ?_
    have f5 := (f3.trans f4).trans (Same.new hp5 (.tup ([.str k] ++ [.str z] ++ rest)))
    have g5 := g3.same f5
    have p5M : p5 ∉ M := (hM.bm (g3.same (f3.trans f4))).new hp5
    obtain ⟨r', d1, d2, d3, d4⟩ := hren _ p5 z g5 hz (less_of upd_same p5M)
    exact q _ _ r' g5 (s3.same f5) d1 d2 d3 d4
  rw [decide_eq_false q1]
  have g1 := e1
  have tail : ∀ (t : Addr), t ∉ M → t ≠ s := fun t h z => h (by rw [z]; exact sM)
  cases hv with
  | @number t n lo hi w' wv h hw =>
    have ht := less_at h
    have ts := tail t ht.2
    have ht1 := e1.at ht.1 (by simpa using ts)
    walk_at "go"
    refine w_ixT (SqT.of ht1) rfl ?_
    walk_at "go"
    refine w_sEq true (by decide +kernel) ?_
    walk_at "go"
    refine w_ixT (SqT.of ht1) rfl ?_
    walk_at "go"
    refine ⟨1, rfl, ?_⟩
    walk_at "go"
    refine w_ixT (SqT.of ht1) rfl ?_
    walk_at "go"
    refine ⟨(by show 4 ≤ sizeLine; decide), fun p1 hp1 => ?_⟩
    have f1 := Same.new hp1 (.lst [.int (hi + 1), .int (-1), .int 0, .int lo])
    walk_at "go"
    refine ⟨s, _, rfl, s1.same f1, by decide, by decide, fun r2 H3 h2 h3 e3 s3 => ?_⟩
    have p1s : p1 ≠ s := fun z => by obtain ⟨_, _, _, z2⟩ := s1; rw [← z, hp1] at z2; cases z2
    obtain ⟨lo2, hlo⟩ : ∃ x : Int, atI [V.int (hi + 1), .int (-1), .int 0, .int lo] r2 = some (.int x) := by
      rcases four_of h2 h3 with rfl | rfl | rfl | rfl <;> exact ⟨_, rfl⟩
    refine w_ixL (e3.at upd_same (by simpa using p1s)) hlo ?_
    have g3 := (e1.same f1).trans e3
    have ht3 := g3.at ht.1 (by simpa using ts)
    walk_at "go"
    refine w_slT 5 ht3 rfl (by decide) rfl fun p2 hp2 => ?_
    have f2 := Same.new hp2 (.tup [.str "number", .str n])
    walk_at "go"
    refine w_ixT (SqT.of (f2 _ _ ht3)) rfl ?_
    walk_at "go"
    refine ⟨(by show 3 ≤ sizeLine; decide), fun p3 hp3 => ?_⟩
    have f3 := f2.trans (Same.new hp3 (.lst [.int hi, .int 5, .int (lo2 - 1)]))
    walk_at "go"
    refine ⟨s, _, rfl, s3.same f3, by decide, by decide, fun r3 H4 h4 h5 e4 s4 => ?_⟩
    have p3s : p3 ≠ s := fun z => by
      obtain ⟨_, _, _, z2⟩ := s3
      have h1 := f2 _ _ z2
      rw [← z] at h1
      have h2 := hp3.symm.trans h1
      cases h2
    obtain ⟨hi2, hhi⟩ : ∃ x : Int, atI [V.int hi, .int 5, .int (lo2 - 1)] r3 = some (.int x) := by
      have : r3 = 0 ∨ r3 = 1 ∨ r3 = 2 := by omega
      rcases this with rfl | rfl | rfl <;> exact ⟨_, rfl⟩
    refine w_ixL (e4.at upd_same (by simpa using p3s)) hhi ?_
    have g4 := (g3.same f3).trans e4
    have p2s : p2 ≠ s := fun z => by
      obtain ⟨_, _, _, z2⟩ := s3
      rw [← z, hp2] at z2; cases z2
    have hp24 := e4.at ((Same.new hp3 (.lst [.int hi, .int 5, .int (lo2 - 1)])) _ _ upd_same : _ = some (.tup [.str "number", .str n])) (by simpa using p2s)
    walk_at "go"
    refine w_ixT (SqT.of (g4.at ht.1 (by simpa using ts))) rfl ?_
    walk_at "go"
    refine ⟨(by show 3 ≤ sizeLine; decide), fun p4 hp4 => ?_⟩
    have f4 := Same.new hp4 (.tup [.int lo2, .int hi2, wv])
    refine w_catT (f4 _ _ hp24) upd_same (by simp) (by simp) (by show 5 ≤ 1000; decide) fun p5 hp5 => ?_
    have f5 := f4.trans (Same.new hp5 (.tup ([.str "number", .str n] ++ [.int lo2, .int hi2, wv])))
    have g5 := g4.same f5
    exact q _ _ (.number n lo2 hi2 w') g5 (s4.same f5) (.number (less_of upd_same ((hM.bm (g4.same f4)).new hp5)) (hw.same (g5.mono s5M).less)) (by unfold RB at hB ⊢; exact hB) (by unfold Rw.cnt; rfl) (by unfold Rw.dep; rfl)
  | @check t n mv m w' wv h hm hw =>
    have ht := less_at h
    have ts := tail t ht.2
    have ht1 := e1.at ht.1 (by simpa using ts)
    walk_at "go"
    refine w_ixT (SqT.of ht1) rfl ?_
    walk_at "go"
    refine w_sEq false (by decide +kernel) ?_
    walk_at "go"
    refine w_ixT (SqT.of ht1) rfl ?_
    walk_at "go"
    refine w_sEq true (by decide +kernel) ?_
    walk_at "go"
    refine w_slT 4 ht1 rfl (by decide) rfl fun p2 hp2 => ?_
    have f2 := Same.new hp2 (.tup [.str "check", .str n])
    walk_at "go"
    have g2 := e1.same f2
    refine ⟨M, s, ev, es, rfl, hM.bm g2, sM, s1.same f2, hE.bm g2, fun v2 H4 c2 e4 s4 hc2 d1 d2 => ?_⟩
    have g4 := g2.trans e4
    have p2s : p2 ≠ s := fun z => by
      obtain ⟨_, _, _, z2⟩ := s1
      rw [← z, hp2] at z2; cases z2
    have hp24 : H4 p2 = some (.tup [.str "check", .str n]) := e4.at (b := p2) upd_same (by simpa using p2s)
    walk_at "go"
    refine w_ixT (SqT.of (g4.at ht.1 (by simpa using ts))) rfl ?_
    walk_at "go"
    refine ⟨(by show 2 ≤ sizeLine; decide), fun p4 hp4 => ?_⟩
    have f4 := Same.new hp4 (.tup [v2, wv])
    refine w_catT (f4 _ _ hp24) upd_same (by simp) (by simp) (by show 4 ≤ 1000; decide) fun p5 hp5 => ?_
    have f5 := f4.trans (Same.new hp5 (.tup ([.str "check", .str n] ++ [v2, wv])))
    have g5 := g4.same f5
    exact q _ _ (.check n c2 w') g5 (s4.same f5) (.check (less_of upd_same ((hM.bm (g4.same f4)).new hp5)) (hc2.same (BM.of (M := M) f5).less) (hw.same (g5.mono s5M).less)) (by unfold RB at hB ⊢; exact ⟨hB.1, by omega, by omega, hB.2.2.2⟩) (by unfold Rw.cnt; rfl) (by unfold Rw.dep; rfl)
  | @one t l n os w' wv h hl hw =>
    unfold RB at hB
    have ht := less_at h
    have hll := less_at hl
    have ts := tail t ht.2
    have lss := tail l hll.2
    have ht1 := e1.at ht.1 (by simpa using ts)
    have hl1 := e1.at hll.1 (by simpa using lss)
    walk_at "go"
    refine w_ixT (SqT.of ht1) rfl ?_
    walk_at "go"
    refine w_sEq false (by decide +kernel) ?_
    walk_at "go"
    refine w_ixT (SqT.of ht1) rfl ?_
    walk_at "go"
    refine w_sEq false (by decide +kernel) ?_
    walk_at "go"
    refine w_ixT (SqT.of ht1) rfl ?_
    walk_at "go"
    have lo : (os.map V.str).length ≤ 50 := by rw [List.length_map]; omega
    refine ⟨Nat.zero_le _, fun a1 ha1 => ?_⟩
    walk_at "go"
    refine ⟨(by show 6 ≤ sizeLine; decide), fun a2 ha2 => ?_⟩
    have k2 := (Same.new ha1 (.lst [])).trans (Same.new ha2 (.lst [.str "x1", .str "x2", .str "x3", .str "x4", .str "x5", .str "x6"]))
    refine ⟨l, a2, _, _, rfl, rfl, k2 _ _ hl1, upd_same, Nat.le_trans (show (os.map V.str).length + 6 ≤ 56 by omega) (by decide), fun a3 ha3 => ?_⟩
    have k3 := k2.trans (Same.new ha3 (.lst (os.map V.str ++ [.str "x1", .str "x2", .str "x3", .str "x4", .str "x5", .str "x6"])))
    walk_at "go"
    refine ⟨l, _, rfl, SqL.of (k3 _ _ hl1), fun a4 ha4 => ?_⟩
    have k4 := k3.trans (Same.new ha4 (.lst (cutV (os.map V.str) none (some 1))))
    have lc := cutV_length (os.map V.str) none (some 1)
    refine ⟨l, a4, _, _, rfl, rfl, k4 _ _ hl1, upd_same, Nat.le_trans (show (os.map V.str).length + (cutV (os.map V.str) none (some 1)).length ≤ 100 by omega) (by decide), fun a5 ha5 => ?_⟩
    have k5 := k4.trans (Same.new ha5 (.lst (os.map V.str ++ cutV (os.map V.str) none (some 1))))
    walk_at "go"
    refine ⟨(by show 1 ≤ sizeLine; decide), fun a6 ha6 => ?_⟩
    have k6 := k5.trans (Same.new ha6 (.lst [.str "A"]))
    refine ⟨l, a6, _, _, rfl, rfl, k6 _ _ hl1, upd_same, Nat.le_trans (show (os.map V.str).length + 1 ≤ 100 by omega) (by decide), fun a7 ha7 => ?_⟩
    have k7 := k6.trans (Same.new ha7 (.lst (os.map V.str ++ [.str "A"])))
    walk_at "go"
    refine ⟨(by show 1 ≤ sizeLine; decide), fun a8 ha8 => ?_⟩
    have k8 := k7.trans (Same.new ha8 (.lst [.str "a b"]))
    walk_at "go"
    refine ⟨a8, l, _, _, rfl, rfl, upd_same, k8 _ _ hl1, Nat.le_trans (show 1 + (os.map V.str).length ≤ 100 by omega) (by decide), fun a9 ha9 => ?_⟩
    have k9 := k8.trans (Same.new ha9 (.lst ([.str "a b"] ++ os.map V.str)))
    walk_at "go"
    refine ⟨l, _, rfl, SqL.of (k9 _ _ hl1), fun b1 hb1 => ?_⟩
    have k10 := k9.trans (Same.new hb1 (.lst (cutV (os.map V.str) none (some 1))))
    walk_at "go"
    refine ⟨b1, 2, _, rfl, rfl, upd_same, by decide, by decide, Nat.le_trans (show (cutV (os.map V.str) none (some 1)).length * 2 ≤ 100 by omega) (by decide), fun b2 hb2 => ?_⟩
    walk_at "go"
    refine ⟨(by show 6 ≤ sizeLine; decide), fun b3 hb3 => ?_⟩
    obtain ⟨cs, hcs, hcl, hcm⟩ := cut_one os
    have kb := k10.trans (Same.new hb2 (.lst (List.replicate (2 : Int).toNat (cutV (os.map V.str) none (some 1))).flatten))
    have kF := kb.trans (Same.new hb3 (.lst [.ref a1, .ref a3, .ref a5, .ref a7, .ref a9, .ref b2]))
    have j12 := Same.new hb3 (.lst [.ref a1, .ref a3, .ref a5, .ref a7, .ref a9, .ref b2])
    have j11 := (Same.new hb2 (.lst (List.replicate (2 : Int).toNat (cutV (os.map V.str) none (some 1))).flatten)).trans j12
    have j10 := (Same.new hb1 (.lst (cutV (os.map V.str) none (some 1)))).trans j11
    have j9 := (Same.new ha9 (.lst ([.str "a b"] ++ os.map V.str))).trans j10
    have j8 := (Same.new ha8 (.lst [.str "a b"])).trans j9
    have j7 := (Same.new ha7 (.lst (os.map V.str ++ [.str "A"]))).trans j8
    have j6 := (Same.new ha6 (.lst [.str "A"])).trans j7
    have j5 := (Same.new ha5 (.lst (os.map V.str ++ cutV (os.map V.str) none (some 1)))).trans j6
    have j4 := (Same.new ha4 (.lst (cutV (os.map V.str) none (some 1)))).trans j5
    have j3 := (Same.new ha3 (.lst (os.map V.str ++ [.str "x1", .str "x2", .str "x3", .str "x4", .str "x5", .str "x6"]))).trans j4
    have j2 := (Same.new ha2 (.lst [.str "x1", .str "x2", .str "x3", .str "x4", .str "x5", .str "x6"])).trans j3
    have d1 := j2 _ _ upd_same
    have d3 := j4 _ _ upd_same
    have d5 := j6 _ _ upd_same
    have d7 := j8 _ _ upd_same
    have d9 := j10 _ _ upd_same
    have db := j12 _ _ upd_same
    have sne : ∀ (a : Addr) (H' : Hp), Same H1 H' → H' a = none → a ≠ s := fun a H' e h z => by
      obtain ⟨_, _, _, z2⟩ := s1
      rw [z, e _ _ z2] at h
      cases h
    have n1 := sne _ _ (Same.refl _) ha1
    have n3 := sne _ _ k2 ha3
    have n5 := sne _ _ k4 ha5
    have n7 := sne _ _ k6 ha7
    have n9 := sne _ _ k8 ha9
    have nb := sne _ _ k10 hb2
    have nl := sne _ _ kb hb3
    have m1 := (hM.bm e1).new ha1
    have m3 := (hM.bm (e1.same k2)).new ha3
    have m5 := (hM.bm (e1.same k4)).new ha5
    have m7 := (hM.bm (e1.same k6)).new ha7
    have m9 := (hM.bm (e1.same k8)).new ha9
    have mb := (hM.bm (e1.same k10)).new hb2
    have g3 := e1.same kF
    have ht3 := g3.at ht.1 (by simpa using ts)
    walk_at "go"
    refine w_slT 4 ht3 rfl (by decide) rfl fun p2 hp2 => ?_
    have f2 := Same.new hp2 (.tup [.str "one", .str n])
    walk_at "go"
    refine ⟨s, _, rfl, (s1.same kF).same f2, by decide, by decide, fun r2 H4 h2 h3 e4 s4 => ?_⟩
    have g4 := (g3.same f2).trans e4
    have up : ∀ (a : Addr) (o : HO), _ = some o → a ≠ s → H4 a = some o := fun a o h hn => e4.at (f2 a o h) (by simpa using hn)
    obtain ⟨a, ys, ha, hya, hyl, hyn, haM⟩ : ∃ (a : Addr) (ys : List Str), atI [V.ref a1, .ref a3, .ref a5, .ref a7, .ref a9, .ref b2] r2 = some (.ref a) ∧ H4 a = some (.lst (ys.map V.str)) ∧ ys.length ≤ b + 6 ∧ (∀ y ∈ ys, y.length ≤ 100) ∧ a ∉ M := by
      have : r2 = 0 ∨ r2 = 1 ∨ r2 = 2 ∨ r2 = 3 ∨ r2 = 4 ∨ r2 = 5 := by omega
      have hos := hB.2.2.1
      have hol := hB.2.1
      rcases this with rfl | rfl | rfl | rfl | rfl | rfl
      · exact ⟨a1, [], rfl, up _ _ d1 n1, Nat.zero_le _, fun y h => (by cases h), m1⟩
      · refine ⟨a3, os ++ (["x1", "x2", "x3", "x4", "x5", "x6"] : List Str), rfl, by rw [up _ _ d3 n3, List.map_append]; rfl, by rw [List.length_append]; show os.length + 6 ≤ _; omega, fun y h => ?_, m3⟩
        rcases List.mem_append.mp h with z | z
        · exact hos y z
        · have : ∀ y ∈ (["x1", "x2", "x3", "x4", "x5", "x6"] : List Str), y.length ≤ 100 := by decide +kernel
          exact this y z
      · refine ⟨a5, os ++ cs, rfl, by rw [up _ _ d5 n5, hcs, List.map_append], by rw [List.length_append]; omega, fun y h => ?_, m5⟩
        rcases List.mem_append.mp h with z | z
        · exact hos y z
        · exact hos y (hcm y z)
      · refine ⟨a7, os ++ (["A"] : List Str), rfl, by rw [up _ _ d7 n7, List.map_append]; rfl, by rw [List.length_append]; show os.length + 1 ≤ _; omega, fun y h => ?_, m7⟩
        rcases List.mem_append.mp h with z | z
        · exact hos y z
        · rw [List.mem_singleton.mp z]; decide +kernel
      · refine ⟨a9, (["a b"] : List Str) ++ os, rfl, by rw [up _ _ d9 n9, List.map_append]; rfl, by rw [List.length_append]; show 1 + os.length ≤ _; omega, fun y h => ?_, m9⟩
        rcases List.mem_append.mp h with z | z
        · rw [List.mem_singleton.mp z]; decide +kernel
        · exact hos y z
      · refine ⟨b2, cs ++ cs, rfl, by rw [up _ _ db nb, hcs, List.map_append]; show some (HO.lst (cs.map V.str ++ (cs.map V.str ++ []))) = _; rw [List.append_nil], by rw [List.length_append]; omega, fun y h => ?_, mb⟩
        rcases List.mem_append.mp h with z | z
        · exact hos y (hcm y z)
        · exact hos y (hcm y z)
    refine w_ixL (e4.at (f2 _ _ upd_same) (by simpa using nl)) ha ?_
    have p2s : p2 ≠ s := fun z => by
      obtain ⟨_, _, _, z2⟩ := s1.same kF
      rw [← z, hp2] at z2
      cases z2
    have hp24 : H4 p2 = some (.tup [.str "one", .str n]) := e4.at (b := p2) upd_same (by simpa using p2s)
    walk_at "go"
    refine w_ixT (SqT.of (g4.at ht.1 (by simpa using ts))) rfl ?_
    walk_at "go"
    refine ⟨(by show 2 ≤ sizeLine; decide), fun p4 hp4 => ?_⟩
    have f4 := Same.new hp4 (.tup [.ref a, wv])
    refine w_catT (f4 _ _ hp24) upd_same (by simp) (by simp) (by show 4 ≤ 1000; decide) fun p5 hp5 => ?_
    have f5 := f4.trans (Same.new hp5 (.tup ([.str "one", .str n] ++ [.ref a, wv])))
    have g5 := g4.same f5
    exact q _ _ (.one n ys w') g5 (s4.same f5) (.one (less_of upd_same ((hM.bm (g4.same f4)).new hp5)) (less_of (f5 _ _ hya) haM) (hw.same (g5.mono s5M).less)) (by unfold RB; exact ⟨hB.1, hyl, hyn, hB.2.2.2⟩) (by unfold Rw.cnt; rfl) (by unfold Rw.dep; rfl)
  | @some t l n os w' wv h hl hw =>
    unfold RB at hB
    have ht := less_at h
    have hll := less_at hl
    have ts := tail t ht.2
    have lss := tail l hll.2
    have ht1 := e1.at ht.1 (by simpa using ts)
    have hl1 := e1.at hll.1 (by simpa using lss)
    walk_at "go"
    refine w_ixT (SqT.of ht1) rfl ?_
    walk_at "go"
    refine w_sEq false (by decide +kernel) ?_
    walk_at "go"
    refine w_ixT (SqT.of ht1) rfl ?_
    walk_at "go"
    refine w_sEq false (by decide +kernel) ?_
    walk_at "go"
    refine w_ixT (SqT.of ht1) rfl ?_
    walk_at "go"
    have lo : (os.map V.str).length ≤ 50 := by rw [List.length_map]; omega
    refine ⟨Nat.zero_le _, fun a1 ha1 => ?_⟩
    walk_at "go"
    refine ⟨(by show 6 ≤ sizeLine; decide), fun a2 ha2 => ?_⟩
    have k2 := (Same.new ha1 (.lst [])).trans (Same.new ha2 (.lst [.str "x1", .str "x2", .str "x3", .str "x4", .str "x5", .str "x6"]))
    refine ⟨l, a2, _, _, rfl, rfl, k2 _ _ hl1, upd_same, Nat.le_trans (show (os.map V.str).length + 6 ≤ 56 by omega) (by decide), fun a3 ha3 => ?_⟩
    have k3 := k2.trans (Same.new ha3 (.lst (os.map V.str ++ [.str "x1", .str "x2", .str "x3", .str "x4", .str "x5", .str "x6"])))
    walk_at "go"
    refine ⟨l, _, rfl, SqL.of (k3 _ _ hl1), fun a4 ha4 => ?_⟩
    have k4 := k3.trans (Same.new ha4 (.lst (cutV (os.map V.str) none (some 1))))
    have lc := cutV_length (os.map V.str) none (some 1)
    refine ⟨l, a4, _, _, rfl, rfl, k4 _ _ hl1, upd_same, Nat.le_trans (show (os.map V.str).length + (cutV (os.map V.str) none (some 1)).length ≤ 100 by omega) (by decide), fun a5 ha5 => ?_⟩
    have k5 := k4.trans (Same.new ha5 (.lst (os.map V.str ++ cutV (os.map V.str) none (some 1))))
    walk_at "go"
    refine ⟨(by show 1 ≤ sizeLine; decide), fun a6 ha6 => ?_⟩
    have k6 := k5.trans (Same.new ha6 (.lst [.str "A"]))
    refine ⟨l, a6, _, _, rfl, rfl, k6 _ _ hl1, upd_same, Nat.le_trans (show (os.map V.str).length + 1 ≤ 100 by omega) (by decide), fun a7 ha7 => ?_⟩
    have k7 := k6.trans (Same.new ha7 (.lst (os.map V.str ++ [.str "A"])))
    walk_at "go"
    refine ⟨(by show 1 ≤ sizeLine; decide), fun a8 ha8 => ?_⟩
    have k8 := k7.trans (Same.new ha8 (.lst [.str "a b"]))
    walk_at "go"
    refine ⟨a8, l, _, _, rfl, rfl, upd_same, k8 _ _ hl1, Nat.le_trans (show 1 + (os.map V.str).length ≤ 100 by omega) (by decide), fun a9 ha9 => ?_⟩
    have k9 := k8.trans (Same.new ha9 (.lst ([.str "a b"] ++ os.map V.str)))
    walk_at "go"
    refine ⟨l, _, rfl, SqL.of (k9 _ _ hl1), fun b1 hb1 => ?_⟩
    have k10 := k9.trans (Same.new hb1 (.lst (cutV (os.map V.str) none (some 1))))
    walk_at "go"
    refine ⟨b1, 2, _, rfl, rfl, upd_same, by decide, by decide, Nat.le_trans (show (cutV (os.map V.str) none (some 1)).length * 2 ≤ 100 by omega) (by decide), fun b2 hb2 => ?_⟩
    walk_at "go"
    refine ⟨(by show 6 ≤ sizeLine; decide), fun b3 hb3 => ?_⟩
    obtain ⟨cs, hcs, hcl, hcm⟩ := cut_one os
    have kb := k10.trans (Same.new hb2 (.lst (List.replicate (2 : Int).toNat (cutV (os.map V.str) none (some 1))).flatten))
    have kF := kb.trans (Same.new hb3 (.lst [.ref a1, .ref a3, .ref a5, .ref a7, .ref a9, .ref b2]))
    have j12 := Same.new hb3 (.lst [.ref a1, .ref a3, .ref a5, .ref a7, .ref a9, .ref b2])
    have j11 := (Same.new hb2 (.lst (List.replicate (2 : Int).toNat (cutV (os.map V.str) none (some 1))).flatten)).trans j12
    have j10 := (Same.new hb1 (.lst (cutV (os.map V.str) none (some 1)))).trans j11
    have j9 := (Same.new ha9 (.lst ([.str "a b"] ++ os.map V.str))).trans j10
    have j8 := (Same.new ha8 (.lst [.str "a b"])).trans j9
    have j7 := (Same.new ha7 (.lst (os.map V.str ++ [.str "A"]))).trans j8
    have j6 := (Same.new ha6 (.lst [.str "A"])).trans j7
    have j5 := (Same.new ha5 (.lst (os.map V.str ++ cutV (os.map V.str) none (some 1)))).trans j6
    have j4 := (Same.new ha4 (.lst (cutV (os.map V.str) none (some 1)))).trans j5
    have j3 := (Same.new ha3 (.lst (os.map V.str ++ [.str "x1", .str "x2", .str "x3", .str "x4", .str "x5", .str "x6"]))).trans j4
    have j2 := (Same.new ha2 (.lst [.str "x1", .str "x2", .str "x3", .str "x4", .str "x5", .str "x6"])).trans j3
    have d1 := j2 _ _ upd_same
    have d3 := j4 _ _ upd_same
    have d5 := j6 _ _ upd_same
    have d7 := j8 _ _ upd_same
    have d9 := j10 _ _ upd_same
    have db := j12 _ _ upd_same
    have sne : ∀ (a : Addr) (H' : Hp), Same H1 H' → H' a = none → a ≠ s := fun a H' e h z => by
      obtain ⟨_, _, _, z2⟩ := s1
      rw [z, e _ _ z2] at h
      cases h
    have n1 := sne _ _ (Same.refl _) ha1
    have n3 := sne _ _ k2 ha3
    have n5 := sne _ _ k4 ha5
    have n7 := sne _ _ k6 ha7
    have n9 := sne _ _ k8 ha9
    have nb := sne _ _ k10 hb2
    have nl := sne _ _ kb hb3
    have m1 := (hM.bm e1).new ha1
    have m3 := (hM.bm (e1.same k2)).new ha3
    have m5 := (hM.bm (e1.same k4)).new ha5
    have m7 := (hM.bm (e1.same k6)).new ha7
    have m9 := (hM.bm (e1.same k8)).new ha9
    have mb := (hM.bm (e1.same k10)).new hb2
    have g3 := e1.same kF
    have ht3 := g3.at ht.1 (by simpa using ts)
    walk_at "go"
    refine w_slT 4 ht3 rfl (by decide) rfl fun p2 hp2 => ?_
    have f2 := Same.new hp2 (.tup [.str "some", .str n])
    walk_at "go"
    refine ⟨s, _, rfl, (s1.same kF).same f2, by decide, by decide, fun r2 H4 h2 h3 e4 s4 => ?_⟩
    have g4 := (g3.same f2).trans e4
    have up : ∀ (a : Addr) (o : HO), _ = some o → a ≠ s → H4 a = some o := fun a o h hn => e4.at (f2 a o h) (by simpa using hn)
    obtain ⟨a, ys, ha, hya, hyl, hyn, haM⟩ : ∃ (a : Addr) (ys : List Str), atI [V.ref a1, .ref a3, .ref a5, .ref a7, .ref a9, .ref b2] r2 = some (.ref a) ∧ H4 a = some (.lst (ys.map V.str)) ∧ ys.length ≤ b + 6 ∧ (∀ y ∈ ys, y.length ≤ 100) ∧ a ∉ M := by
      have : r2 = 0 ∨ r2 = 1 ∨ r2 = 2 ∨ r2 = 3 ∨ r2 = 4 ∨ r2 = 5 := by omega
      have hos := hB.2.2.1
      have hol := hB.2.1
      rcases this with rfl | rfl | rfl | rfl | rfl | rfl
      · exact ⟨a1, [], rfl, up _ _ d1 n1, Nat.zero_le _, fun y h => (by cases h), m1⟩
      · refine ⟨a3, os ++ (["x1", "x2", "x3", "x4", "x5", "x6"] : List Str), rfl, by rw [up _ _ d3 n3, List.map_append]; rfl, by rw [List.length_append]; show os.length + 6 ≤ _; omega, fun y h => ?_, m3⟩
        rcases List.mem_append.mp h with z | z
        · exact hos y z
        · have : ∀ y ∈ (["x1", "x2", "x3", "x4", "x5", "x6"] : List Str), y.length ≤ 100 := by decide +kernel
          exact this y z
      · refine ⟨a5, os ++ cs, rfl, by rw [up _ _ d5 n5, hcs, List.map_append], by rw [List.length_append]; omega, fun y h => ?_, m5⟩
        rcases List.mem_append.mp h with z | z
        · exact hos y z
        · exact hos y (hcm y z)
      · refine ⟨a7, os ++ (["A"] : List Str), rfl, by rw [up _ _ d7 n7, List.map_append]; rfl, by rw [List.length_append]; show os.length + 1 ≤ _; omega, fun y h => ?_, m7⟩
        rcases List.mem_append.mp h with z | z
        · exact hos y z
        · rw [List.mem_singleton.mp z]; decide +kernel
      · refine ⟨a9, (["a b"] : List Str) ++ os, rfl, by rw [up _ _ d9 n9, List.map_append]; rfl, by rw [List.length_append]; show 1 + os.length ≤ _; omega, fun y h => ?_, m9⟩
        rcases List.mem_append.mp h with z | z
        · rw [List.mem_singleton.mp z]; decide +kernel
        · exact hos y z
      · refine ⟨b2, cs ++ cs, rfl, by rw [up _ _ db nb, hcs, List.map_append]; show some (HO.lst (cs.map V.str ++ (cs.map V.str ++ []))) = _; rw [List.append_nil], by rw [List.length_append]; omega, fun y h => ?_, mb⟩
        rcases List.mem_append.mp h with z | z
        · exact hos y (hcm y z)
        · exact hos y (hcm y z)
    refine w_ixL (e4.at (f2 _ _ upd_same) (by simpa using nl)) ha ?_
    have p2s : p2 ≠ s := fun z => by
      obtain ⟨_, _, _, z2⟩ := s1.same kF
      rw [← z, hp2] at z2
      cases z2
    have hp24 : H4 p2 = some (.tup [.str "some", .str n]) := e4.at (b := p2) upd_same (by simpa using p2s)
    walk_at "go"
    refine w_ixT (SqT.of (g4.at ht.1 (by simpa using ts))) rfl ?_
    walk_at "go"
    refine ⟨(by show 2 ≤ sizeLine; decide), fun p4 hp4 => ?_⟩
    have f4 := Same.new hp4 (.tup [.ref a, wv])
    refine w_catT (f4 _ _ hp24) upd_same (by simp) (by simp) (by show 4 ≤ 1000; decide) fun p5 hp5 => ?_
    have f5 := f4.trans (Same.new hp5 (.tup ([.str "some", .str n] ++ [.ref a, wv])))
    have g5 := g4.same f5
    exact q _ _ (.some n ys w') g5 (s4.same f5) (.some (less_of upd_same ((hM.bm (g4.same f4)).new hp5)) (less_of (f5 _ _ hya) haM) (hw.same (g5.mono s5M).less)) (by unfold RB; exact ⟨hB.1, hyl, hyn, hB.2.2.2⟩) (by unfold Rw.cnt; rfl) (by unfold Rw.dep; rfl)
  | sect _ _ _ _ => cases hN
  | rounds _ _ _ _ => cases hN
end
end K3
end L13_part
section L14_part
set_option Elab.async false
set_option linter.all false
set_option maxRecDepth 100000
set_option maxHeartbeats 1000000
set_option pp.deepTerms.threshold 5
open PySem PySem.Spec PyProof.Rows L2
/-- go on as far as nothing is open -/
local macro_rules | `(tactic| walk_at "go") => `(tactic| repeat (first
  | with_reducible refine w_seq ?_ | with_reducible refine w_next ?_ | with_reducible refine w_set ?_ | with_reducible refine w_drop ?_ | with_reducible refine w_ret ?_ | with_reducible refine w_retN ?_
  | with_reducible refine w_if ?_ | ((with_reducible refine' w_var ?hv ?_); (case hv => exact rfl)) | with_reducible refine w_c ?_ | with_reducible refine w_nil ?_ | with_reducible refine w_cons ?_ | with_reducible refine w_op ?_ | with_reducible refine w_un ?_
  | with_reducible refine w_test ?_ | with_reducible refine w_tB ?_ | with_reducible refine w_not ?_ | with_reducible refine w_and ?_ | with_reducible refine w_or ?_ | with_reducible refine w_bl ?_
  | with_reducible refine w_andV ?_ | with_reducible refine w_orV ?_ | with_reducible refine w_notV ?_ | with_reducible refine w_ifE ?_ | with_reducible refine w_chain ?_ | with_reducible refine w_i0 ?_
  | with_reducible refine w_call ?_ | with_reducible refine w_callS ?_ | with_reducible refine w_cB ?_ | with_reducible refine w_tup ?_ | with_reducible refine w_lst ?_ | with_reducible refine w_fldV ?_
  | with_reducible refine w_neF ?_ | with_reducible refine w_neT ?_ | with_reducible refine w_notN ?_ | with_reducible refine w_isN ?_ | with_reducible refine w_gname ?_ | with_reducible refine w_gsub ?_ | with_reducible refine w_asg ?_ | with_reducible refine w_sl ?_ | with_reducible refine w_noP ?_ | with_reducible refine w_int1 ?_ | with_reducible refine w_part ?_ | with_reducible refine w_yes ?_ | with_reducible refine w_nT ?_ | with_reducible refine w_nF ?_ | with_reducible refine w_iteT ?_ | with_reducible refine w_iteF ?_))
namespace K3
theorem cut_to (xs : List V) (i : Nat) : cutV xs none (some (i : Int)) = xs.take i := by
  unfold cutV
  rw [HT.sIx_none, HT.sIx_nat, List.drop_zero, Nat.sub_zero]
  by_cases h : i ≤ xs.length
  · rw [Nat.min_eq_left h]
  · rw [Nat.min_eq_right (by omega), List.take_length, List.take_of_length_le (by omega)]
theorem cut_from (xs : List V) (i : Nat) : cutV xs (some (i : Int)) none = xs.drop i := by
  unfold cutV
  rw [HT.sIx_none, HT.sIx_nat]
  by_cases h : i ≤ xs.length
  · rw [Nat.min_eq_left h, List.take_of_length_le (by rw [List.length_drop]; omega)]
  · rw [Nat.min_eq_right (by omega), List.drop_length, List.take_nil, List.drop_of_length_le (by omega)]
theorem DRs.take {B : Hp} : ∀ {xs : List V} {rs : List Rw} (i : Nat), DRs B xs rs → DRs B (xs.take i) (rs.take i)
  | _, _, 0, _ => .nil
  | _, _, i + 1, .nil => .nil
  | _, _, i + 1, .cons a t => .cons a (DRs.take i t)
theorem DRs.drop {B : Hp} : ∀ {xs : List V} {rs : List Rw} (i : Nat), DRs B xs rs → DRs B (xs.drop i) (rs.drop i)
  | _, _, 0, h => h
  | _, _, i + 1, .nil => .nil
  | _, _, i + 1, .cons a t => DRs.drop i t
theorem Rws.cnt_app2 : ∀ rs ss : List Rw, Rws.cnt (rs ++ ss) = Rws.cnt rs + Rws.cnt ss
  | [], ss => by rw [Rws.cnt]; show Rws.cnt ss = _; omega
  | r :: rs, ss => by rw [List.cons_append, Rws.cnt, Rws.cnt, Rws.cnt_app2 rs ss]; omega
theorem Rws.dep_app2 : ∀ rs ss : List Rw, Rws.dep (rs ++ ss) = max (Rws.dep rs) (Rws.dep ss)
  | [], ss => by rw [Rws.dep]; show Rws.dep ss = _; omega
  | r :: rs, ss => by rw [List.cons_append, Rws.dep, Rws.dep, Rws.dep_app2 rs ss]; omega
theorem Rws.dep_take (rs : List Rw) (i : Nat) : Rws.dep (rs.take i) ≤ Rws.dep rs := by
  have a := congrArg Rws.dep (List.take_append_drop i rs)
  rw [Rws.dep_app2] at a
  omega
mutual
theorem RB.monoR {b c : Nat} (h : b ≤ c) : ∀ {r : Rw}, RB b r → RB c r
  | .one n os w, hr => by unfold RB at hr ⊢; exact ⟨hr.1, Nat.le_trans hr.2.1 h, hr.2.2⟩
  | .some n os w, hr => by unfold RB at hr ⊢; exact ⟨hr.1, Nat.le_trans hr.2.1 h, hr.2.2⟩
  | .number n lo hi w, hr => by unfold RB at hr ⊢; exact hr
  | .check n m w, hr => by unfold RB at hr ⊢; exact hr
  | .sect rs w, hr => by unfold RB at hr ⊢; exact ⟨RBs.monoR h hr.1, hr.2⟩
  | .rounds n rs w, hr => by unfold RB at hr ⊢; exact ⟨hr.1, RBs.monoR h hr.2.1, hr.2.2⟩
theorem RBs.monoR {b c : Nat} (h : b ≤ c) : ∀ {rs : List Rw}, RBs b rs → RBs c rs
  | [], _ => by unfold RBs; trivial
  | r :: rs, hr => by unfold RBs at hr ⊢; exact ⟨RB.monoR h hr.1, RBs.monoR h hr.2⟩
end
def spSp (K : PySem.W.Frag) (n : Nat) : Sp := fun vs H Q _ => ∃ (M : List Addr) (s ev l : Addr) (es : List Str) (xs : List V) (rs : List Rw) (b : Nat), vs = [.ref s, .ref l, .ref ev] ∧ In M H ∧ s ∈ M ∧ Src H s ∧ Ev H ev s es ∧ less H M l = some (.lst xs) ∧ DRs (less H M) xs rs ∧ RBs b rs ∧ b ≤ 50 ∧ rs ≠ [] ∧ Rws.dep rs < n ∧ Rws.cnt rs ≤ 500 ∧
  ∀ p H' rs' xs', BM [s] H H' → Src H' s → less H' M p = some (.lst xs') → DRs (less H' M) xs' rs' → RBs (b + 6) rs' → Rws.cnt rs' ≤ 2 * Rws.cnt rs + 1 → Rws.dep rs' ≤ Rws.dep rs + 1 → Q (.ref p) H'
section
variable {P : Program} {w : World} {K : PySem.W.Frag} {mg : Str → Option Value} {base : Heap}
theorem sc_sp : FnScope ["_law_source_here", "_law_rows_here", "_law_every", "_law_at", "_law_row", "_law_way"] ["_law_source_here", "_law_rows_here", "_law_every"] (defScope s__law_spoilt) := ⟨rfl, rfl, rfl, by decide +kernel, rfl, by decide +kernel, by decide +kernel⟩
theorem ok_sp (T : Tx K mg) (n : Nat) : Ok P w K mg base (n + 4) (He.ga K "_law_spoilt") ["_law_source_here", "_law_rows_here", "_law_every"] (spSp K n) := by
  induction n with
  | zero =>
    obtain ⟨fd, F⟩ := T.f__law_spoilt
    exact ⟨fd, ok_none' fun vs H Q E ⟨_, _, _, _, _, _, _, _, _, _, _, _, _, _, _, _, _, _, h, _⟩ => absurd h (Nat.not_lt_zero _), F.bindsN fun _ _ _ _ _ _ us hl => match us, hl with | [_, _, _], _ => rfl, F.kp⟩
  | succ n Os =>
  obtain ⟨fd, F⟩ := T.f__law_spoilt
  have O := ok_take (P := P) (w := w) (base := base) T
  have Oa := ok_any (P := P) (w := w) (base := base) T
  have Of := ok_spf (P := P) (w := w) (base := base) T
  refine ⟨fd, F.ok (k := n + 4) sc_sp (fun vs H Q E h => ?_) (fun cdv A outer s' H vs Q E hr h => ?_), F.bindsN fun _ _ _ _ _ _ us hl => match us, hl with | [_, _, _], _ => rfl, F.kp⟩
  · obtain ⟨M, s, ev, l, es, xs, rs, b, rfl, _⟩ := h
    rfl
  obtain ⟨M, s, ev, l, es, xs, rs, b, rfl, hM, sM, hs, hE, hl, hrs, hB, hb, hne, hd, hc, q⟩ := h
  have hr1 := hr.mono (show 1 ≤ n + 4 by omega)
  have hr2 := hr.mono (show 2 ≤ n + 4 by omega)
  have hr3 := hr.mono (show 3 ≤ n + 4 by omega)
  refine ⟨_, pss_cons (ps_set (i := 3) sc_sp.nd rfl (Or.inl rfl) (pe_f O hr1 T.g__law_take (pa_cons (pv 0) (pa_cons (pe_callB call_len_seq (by rfl) T.z_len PySem.boot_len (pa_cons (pv 1) pa_nil)) pa_nil))))
      (pss_cons (ps_set (i := 4) sc_sp.nd rfl (Or.inl rfl) (pe_ix ix_list (pv 1) (pv 3) (fun _ _ => rfl)))
      (pss_cons (ps_set (i := 5) sc_sp.nd rfl (Or.inl rfl) (pe_f O hr1 T.g__law_take (pa_cons (pv 0) (pa_cons pe_int pa_nil))))
      (pss_cons (ps_if (pw_and (pt_cmpR op_in_seq (pe_ix ix_tup (pv 4) pe_int (fun _ _ => rfl)) (pe_lst (pa_cons pe_str (pa_cons pe_str pa_nil))) (by rfl)) (pw_and (pt_cmpR (op_neE hr.units0) (pe_ix ix_tup (pv 4) (pe_un un_neg pe_int) (fun _ _ => rfl)) (pe_lst pa_nil) (nomark _)) (pw_and1 (pt_cmpR op_lt (pv 5) pe_int (nomark _))))).pt (pss_one (ps_set (i := 4) sc_sp.nd rfl (Or.inl rfl) (pe_op op_catT (pe_slice sl_tup (pv 4) po_none (po_some (pe_un un_neg pe_int))) (pe_tup (pa_cons (pe_f Os hr T.g__law_spoilt (pa_cons (pv 0) (pa_cons (pe_ix ix_tup (pv 4) (pe_un un_neg pe_int) (fun _ _ => rfl)) (pa_cons (pv 2) pa_nil)))) (pa_cons (pe_ix ix_tup (pv 4) (pe_un un_neg pe_int) (fun _ _ => rfl)) pa_nil)))))) (pss_one (ps_if (pt_cmpR op_eq (pv 5) pe_int (nomark _)) (pss_one (ps_set (i := 4) sc_sp.nd rfl (Or.inl rfl) (pe_op op_catT (pe_slice sl_tup (pv 4) po_none (po_some (pe_un un_neg pe_int))) (pe_tup (pa_cons (pe_f Oa hr2 T.g__law_any_condition (pa_cons (pv 0) (pa_cons (pv 2) pa_nil))) pa_nil))))) (pss_one (ps_if (pt_cmpR op_eq (pv 5) pe_int (nomark _)) (pss_one (ps_set (i := 4) sc_sp.nd rfl (Or.inl rfl) (pe_ix ix_list (pe_lst (pa_cons (pe_tup (pa_cons pe_str (pa_cons (pe_ix ix_list (pv 2) (pe_f O hr1 T.g__law_take (pa_cons (pv 0) (pa_cons (pe_callB call_len_seq (by rfl) T.z_len PySem.boot_len (pa_cons (pv 2) pa_nil)) pa_nil))) (fun _ _ => rfl)) (pa_cons (pe_lst (pa_cons (pv 4) pa_nil)) (pa_cons pe_non pa_nil))))) (pa_cons (pe_tup (pa_cons pe_str (pa_cons (pe_lst (pa_cons (pv 4) pa_nil)) (pa_cons pe_non pa_nil)))) pa_nil))) (pe_op op_mod (pv 3) pe_int) (fun _ _ => rfl)))) (pss_one (ps_if (pt_cmpR op_eq (pv 5) pe_int (nomark _)) (pss_one (ps_ret (pe_op op_cat (pe_op op_cat (pe_slice sl_list (pv 1) po_none (po_some (pv 3))) (pe_lst (pa_cons (pv 4) pa_nil))) (pe_slice sl_list (pv 1) (po_some (pv 3)) po_none)))) (pss_one (ps_if (pt_cmpR op_eq (pe_ix ix_tup (pv 4) pe_int (fun _ _ => rfl)) pe_str (nomark _)) (pss_one (ps_set (i := 4) sc_sp.nd rfl (Or.inl rfl) (pe_tup (pa_cons pe_str (pa_cons (pe_lst pa_nil) (pa_cons (pe_ix ix_tup (pv 4) pe_int (fun _ _ => rfl)) pa_nil)))))) (pss_one (ps_if (pt_cmpR op_eq (pe_ix ix_tup (pv 4) pe_int (fun _ _ => rfl)) pe_str (nomark _)) (pss_one (ps_set (i := 4) sc_sp.nd rfl (Or.inl rfl) (pe_tup (pa_cons pe_str (pa_cons (pe_ix ix_list (pv 2) (pe_f O hr1 T.g__law_take (pa_cons (pv 0) (pa_cons (pe_callB call_len_seq (by rfl) T.z_len PySem.boot_len (pa_cons (pv 2) pa_nil)) pa_nil))) (fun _ _ => rfl)) (pa_cons (pe_slice sl_list (pe_ix ix_tup (pv 4) pe_int (fun _ _ => rfl)) po_none (po_some (pe_f O hr1 T.g__law_take (pa_cons (pv 0) (pa_cons pe_int pa_nil))))) (pa_cons (pe_ix ix_tup (pv 4) pe_int (fun _ _ => rfl)) pa_nil))))))) (pss_one (ps_set (i := 4) sc_sp.nd rfl (Or.inl rfl) (pe_f Of hr3 T.g__law_spoilt_fields (pa_cons (pv 0) (pa_cons (pv 4) (pa_cons (pv 2) pa_nil)))))))))))))))))
      (pss_one (ps_ret (pe_op op_cat (pe_op op_cat (pe_slice sl_list (pv 1) po_none (po_some (pv 3))) (pe_lst (pa_cons (pv 4) pa_nil))) (pe_slice sl_list (pv 1) (po_some (pe_op op_add (pv 3) pe_int)) po_none))))))), ?_⟩
  have s5M : ∀ b ∈ [s], b ∈ M := fun b hb => by rw [List.mem_singleton.mp hb]; exact sM
  have hle := hE.le
  have hpo := hE.pos
  have len := hrs.len
  have lc := Rws.len_cnt rs
  have rpos : 0 < rs.length := List.length_pos_iff.mpr hne
  have tail : ∀ (t : Addr), t ∉ M → t ≠ s := fun t h z => h (by rw [z]; exact sM)
  have hl0 := less_at hl
  have ls := tail l hl0.2
  walk_at "go"
  refine ⟨l, _, rfl, .inl (SqL.of hl0.1), ?_⟩
  walk_at "go"
  refine ⟨s, _, rfl, hs, by omega, by omega, fun r0 H1 h0 h1 e1 s1 => ?_⟩
  obtain ⟨i, rfl⟩ : ∃ i : Nat, r0 = (i : Int) := ⟨r0.toNat, by omega⟩
  have hi : i < xs.length := by omega
  have hxi : xs[i]? = some xs[i] := List.getElem?_eq_getElem hi
  obtain ⟨r, hri, hdr⟩ := hrs.get hxi
  walk_at "go"
  refine w_ixL (e1.at hl0.1 (by simpa using ls)) (atI_nat hxi) ?_
  generalize xs[i] = v at hxi hdr ⊢
  walk_at "go"
  refine ⟨s, _, rfl, s1, by decide, by decide, fun r1 H2 h2 h3 e2 s2 => ?_⟩
  have g2 := e1.trans e2
  have rm := one_of hri
  have hBr := (RBs.iff _).mp hB r rm
  have spl : rs = rs.take i ++ r :: rs.drop (i + 1) := by
    obtain ⟨a1, a2⟩ := List.getElem?_eq_some_iff.mp hri
    rw [← a2, List.getElem_cons_drop, List.take_append_drop]
  have fin : ∀ (Hc : Hp) (v' : V) (r' : Rw), BM [s] H Hc → Src Hc s → DR (less Hc M) v' r' → RB (b + 6) r' → r'.cnt ≤ 2 * r.cnt + 1 → r'.dep ≤ r.dep + 1 →
      tRet (tOp rCat (tOp rCat (tSl (rSlL K) (tVar 1) tNoPart (tPart (tVar 3))) (tLst (tCons (tVar 4) tNil))) (tSl (rSlL K) (tVar 1) (tPart (tOp (rI0 fun i j => .int (i + j)) (tVar 3) (tC (.int 1)))) tNoPart)) { nx := fun _ H' => Q .non H', rt := Q } [some (.ref s), some (.ref l), some (.ref ev), some (.int (i : Int)), some v', some (.int r1)] Hc := by
    intro Hc v' r' gc sc hv' hB' hc' hd'
    have hlc := gc.at hl0.1 (by simpa using ls)
    have d0 := hrs.same (gc.mono s5M).less
    walk_at "go"
    refine ⟨l, _, rfl, SqL.of hlc, fun p1 hp1 => ?_⟩
    rw [cut_to] at *
    have f1 := Same.new hp1 (.lst (xs.take i))
    walk_at "go"
    refine ⟨(by show 1 ≤ sizeLine; decide), fun p2 hp2 => ?_⟩
    have f2 := Same.new hp2 (.lst [v'])
    refine ⟨p1, p2, _, _, rfl, rfl, f2 _ _ upd_same, upd_same, Nat.le_trans (show (xs.take i).length + 1 ≤ 1000 by rw [List.length_take]; omega) (by decide), fun p3 hp3 => ?_⟩
    have f3 := (f1.trans f2).trans (Same.new hp3 (.lst (xs.take i ++ [v'])))
    walk_at "go"
    refine ⟨l, _, rfl, SqL.of (f3 _ _ hlc), fun p4 hp4 => ?_⟩
    have f4 := Same.new hp4 (.lst (cutV xs (some ((i : Int) + 1)) none))
    refine ⟨p3, p4, _, _, rfl, rfl, f4 _ _ upd_same, upd_same, Nat.le_trans (show (xs.take i ++ [v']).length + (cutV xs (some ((i : Int) + 1)) none).length ≤ 2000 by rw [List.length_append, List.length_take]; have := cutV_length xs (some ((i : Int) + 1)) none; show min i xs.length + 1 + _ ≤ 2000; omega) (by decide), fun p5 hp5 => ?_⟩
    have f5 := (f3.trans f4).trans (Same.new hp5 (.lst (xs.take i ++ [v'] ++ cutV xs (some ((i : Int) + 1)) none)))
    have g5 := gc.same f5
    have l5 := (BM.of (M := M) f5).less
    have e5 : cutV xs (some ((i : Int) + 1)) none = xs.drop (i + 1) := cut_from xs (i + 1)
    refine q p5 _ (rs.take i ++ [r'] ++ rs.drop (i + 1)) _ g5 (sc.same f5) (less_of upd_same ((hM.bm (gc.same (f3.trans f4))).new hp5)) ?_ ?_ ?_ ?_
    · have dd := ((((d0.take i).app (.cons hv' .nil)).app (d0.drop (i + 1)))).same l5
      rw [← e5] at dd
      exact dd
    · refine (RBs.iff _).mpr fun x hx => ?_
      rcases List.mem_append.mp hx with z | z
      · rcases List.mem_append.mp z with z | z
        · exact RB.monoR (by omega) ((RBs.iff _).mp hB x (List.mem_of_mem_take z))
        · rw [List.mem_singleton.mp z]; exact hB'
      · exact RB.monoR (by omega) ((RBs.iff _).mp hB x (List.mem_of_mem_drop z))
    · have a1 := congrArg Rws.cnt spl
      rw [Rws.cnt_app2, Rws.cnt] at a1
      rw [Rws.cnt_app2, Rws.cnt_app2, Rws.cnt, Rws.cnt]
      omega
    · have a1 := congrArg Rws.dep spl
      rw [Rws.dep_app2, Rws.dep] at a1
      rw [Rws.dep_app2, Rws.dep_app2, Rws.dep, Rws.dep]
      omega
  obtain ⟨t, kd, ws, hvt, ht, hk⟩ := dr_parts hdr
  subst hvt
  have ht0 := less_at ht
  have ts := tail t ht0.2
  have htg : ∀ Hc, BM [s] H Hc → Hc t = some (.tup (.str kd :: ws)) := fun Hc e => e.at ht0.1 (by simpa using ts)
  show L2.Ends.nx _ _ _
  with_reducible refine w_seq ?_
  with_reducible refine w_ifR (fun b' Hc => Same H2 Hc ∧ (b' = true → ∃ (l5 : Addr) (xs5 : List V) (rs5 : List Rw), atI (.str kd :: ws) (-2) = some (V.ref l5) ∧ less H M l5 = some (.lst xs5) ∧ DRs (less H M) xs5 rs5 ∧ rs5 ≠ [] ∧ r.all = r :: Rws.all rs5 ∧ r.dep = 1 + Rws.dep rs5 ∧ r.cnt = 1 + Rws.cnt rs5)) ?_ ?_ ?_
  · intro QB k
    walk_at "go"
    refine w_ixT (SqT.of (htg _ g2)) (atI_nat (j := 0) rfl) ?_
    walk_at "go"
    refine ⟨(by show 2 ≤ sizeLine; decide), fun p3 hp3 => ?_⟩
    refine ⟨p3, _, rfl, .inl (SqL.of upd_same), rfl, rfl, ?_⟩
    have f3 := Same.new hp3 (.lst [.str "section", .str "rounds"])
    walk_at "go"
    generalize upd H2 p3 _ = H3 at f3 ⊢
    rcases hk with ⟨hk, ha⟩ | ⟨hk, l5, xs5, rs5, ha5, hl5, hr5, ha, hd5, hc5⟩
    · rw [show inV (.str kd) [.str "section", .str "rounds"] = false from hk]
      walk_at "go"
      exact k _ _ ⟨f3, fun z => by cases z⟩
    · rw [show inV (.str kd) [.str "section", .str "rounds"] = true from hk]
      walk_at "go"
      refine ⟨2, rfl, ?_⟩
      have g3 := g2.same f3
      refine w_ixT (SqT.of (htg _ g3)) ha5 ?_
      walk_at "go"
      refine ⟨Nat.zero_le _, fun p4 hp4 => ?_⟩
      have f4 := Same.new hp4 (.lst [])
      have hl5' := (g3.same f4).at (less_at hl5).1 (by simpa using tail l5 (less_at hl5).2)
      refine ⟨l5, p4, xs5, [], rfl, rfl, SqL.of hl5', SqL.of upd_same, .inr (.inl rfl), ?_⟩
      rw [isnil]
      walk_at "go"
      have lx := hr5.len
      cases hx : xs5.isEmpty with
      | true =>
        walk_at "go"
        exact k _ _ ⟨f3.trans f4, fun z => by cases z⟩
      | false =>
        walk_at "go"
        refine k _ _ ⟨f3.trans f4, fun _ => ⟨l5, xs5, rs5, ha5, hl5, hr5, fun z => ?_, ha, hd5, hc5⟩⟩
        rw [z] at lx
        rw [List.length_eq_zero_iff.mp lx] at hx
        cases hx
  · intro Hc ⟨ec, hbt⟩
    obtain ⟨l5, xs5, rs5, ha5, hl5, hr5, hne5, ha, hd5, hc5⟩ := hbt rfl
    have gc := g2.same ec
    have sc := s2.same ec
    have hle5 := Rws.len_cnt rs5
    have hp5 : 0 < rs5.length := List.length_pos_iff.mpr hne5
    cases hdr with
    | one _ _ _ => exact absurd hc5 (by unfold Rw.cnt; omega)
    | some _ _ _ => exact absurd hc5 (by unfold Rw.cnt; omega)
    | number _ _ => exact absurd hc5 (by unfold Rw.cnt; omega)
    | check _ _ _ => exact absurd hc5 (by unfold Rw.cnt; omega)
    | @sect _ l6 xs6 rs6 w6 wv h6 hl6 hr6 hw6 =>
      rw [h6] at ht
      cases ht
      cases (show some (V.ref l6) = some (V.ref l5) from ha5)
      rw [hl6] at hl5
      cases hl5
      have hl56 := hr6.len
      have hl55 := hr5.len
      have b6 : RBs b rs6 ∧ WB w6 := by unfold RB at hBr; exact hBr
      have d6 := dep_mem rm
      have c6 := cnt_mem rm
      have dd : Rw.dep (.sect rs6 w6) = 1 + Rws.dep rs6 := by rw [Rw.dep]
      have cc : Rw.cnt (.sect rs6 w6) = 1 + Rws.cnt rs6 := by rw [Rw.cnt]
      walk_at "go"
      refine ⟨2, rfl, ?_⟩
      walk_at "go"
      refine w_slT 3 (htg _ gc) rfl (by decide) rfl fun p1 hp1 => ?_
      have f1 := Same.new hp1 (.tup [.str "section"])
      have g1 := gc.same f1
      walk_at "go"
      refine ⟨2, rfl, ?_⟩
      refine w_ixT (SqT.of (htg _ g1)) rfl ?_
      walk_at "go"
      refine ⟨M, s, ev, _, es, _, rs6, b, rfl, hM.bm g1, sM, sc.same f1, hE.bm g1, (g1.mono s5M).less _ _ hl6, hr6.same (g1.mono s5M).less, b6.1, hb, fun z => by rw [z] at hl56; rw [List.length_nil] at hl56; omega, by omega, by omega, fun p H' rs2 xs2 e2' s2' hp hx hB2 hc2 hd2 => ?_⟩
      have g3 := g1.trans e2'
      have p1s : p1 ≠ s := fun z => by obtain ⟨_, _, _, z2⟩ := sc; rw [← z, hp1] at z2; cases z2
      have hp13 : H' p1 = some (.tup [.str "section"]) := e2'.at (b := p1) upd_same (by simpa using p1s)
      walk_at "go"
      refine ⟨1, rfl, ?_⟩
      refine w_ixT (SqT.of (htg _ g3)) rfl ?_
      walk_at "go"
      refine ⟨(by show 2 ≤ sizeLine; decide), fun p2 hp2 => ?_⟩
      have f2 := Same.new hp2 (.tup [.ref p, wv])
      refine w_catT (f2 _ _ hp13) upd_same (by simp) (by simp) (by show 3 ≤ 1000; decide) fun p3 hp3 => ?_
      have f3 := f2.trans (Same.new hp3 (.tup ([.str "section"] ++ [.ref p, wv])))
      have l3 := (BM.of (M := M) f3).less
      refine fin _ (.ref p3) (.sect rs2 w6) (g3.same f3) (s2'.same f3) (.sect (less_of upd_same ((hM.bm (g3.same f2)).new hp3)) (l3 _ _ hp) (hx.same l3) (hw6.same ((g3.same f3).mono s5M).less)) (by unfold RB; exact ⟨hB2, b6.2⟩) (by rw [cc, Rw.cnt]; omega) (by rw [dd, Rw.dep]; omega)
    | @rounds _ l6 n6 xs6 rs6 w6 wv h6 hl6 hr6 hw6 =>
      rw [h6] at ht
      cases ht
      cases (show some (V.ref l6) = some (V.ref l5) from ha5)
      rw [hl6] at hl5
      cases hl5
      have hl56 := hr6.len
      have hl55 := hr5.len
      have b6 : n6.length ≤ 100 ∧ RBs b rs6 ∧ WB w6 := by unfold RB at hBr; exact hBr
      have d6 := dep_mem rm
      have c6 := cnt_mem rm
      have dd : Rw.dep (.rounds n6 rs6 w6) = 1 + Rws.dep rs6 := by rw [Rw.dep]
      have cc : Rw.cnt (.rounds n6 rs6 w6) = 1 + Rws.cnt rs6 := by rw [Rw.cnt]
      walk_at "go"
      refine ⟨2, rfl, ?_⟩
      walk_at "go"
      refine w_slT 4 (htg _ gc) rfl (by decide) rfl fun p1 hp1 => ?_
      have f1 := Same.new hp1 (.tup [.str "rounds", .str n6])
      have g1 := gc.same f1
      walk_at "go"
      refine ⟨2, rfl, ?_⟩
      refine w_ixT (SqT.of (htg _ g1)) rfl ?_
      walk_at "go"
      refine ⟨M, s, ev, _, es, _, rs6, b, rfl, hM.bm g1, sM, sc.same f1, hE.bm g1, (g1.mono s5M).less _ _ hl6, hr6.same (g1.mono s5M).less, b6.2.1, hb, fun z => by rw [z] at hl56; rw [List.length_nil] at hl56; omega, by omega, by omega, fun p H' rs2 xs2 e2' s2' hp hx hB2 hc2 hd2 => ?_⟩
      have g3 := g1.trans e2'
      have p1s : p1 ≠ s := fun z => by obtain ⟨_, _, _, z2⟩ := sc; rw [← z, hp1] at z2; cases z2
      have hp13 : H' p1 = some (.tup [.str "rounds", .str n6]) := e2'.at (b := p1) upd_same (by simpa using p1s)
      walk_at "go"
      refine ⟨1, rfl, ?_⟩
      refine w_ixT (SqT.of (htg _ g3)) rfl ?_
      walk_at "go"
      refine ⟨(by show 2 ≤ sizeLine; decide), fun p2 hp2 => ?_⟩
      have f2 := Same.new hp2 (.tup [.ref p, wv])
      refine w_catT (f2 _ _ hp13) upd_same (by simp) (by simp) (by show 4 ≤ 1000; decide) fun p3 hp3 => ?_
      have f3 := f2.trans (Same.new hp3 (.tup ([.str "rounds", .str n6] ++ [.ref p, wv])))
      have l3 := (BM.of (M := M) f3).less
      refine fin _ (.ref p3) (.rounds n6 rs2 w6) (g3.same f3) (s2'.same f3) (.rounds (less_of upd_same ((hM.bm (g3.same f2)).new hp3)) (l3 _ _ hp) (hx.same l3) (hw6.same ((g3.same f3).mono s5M).less)) (by unfold RB; exact ⟨b6.1, hB2, b6.2.2⟩) (by rw [cc, Rw.cnt]; omega) (by rw [dd, Rw.dep]; omega)
  · intro Hc ⟨ec, _⟩
    have gc := g2.same ec
    have sc := s2.same ec
    walk_at "go"
    refine ⟨rfl, ?_⟩
    walk_at "go"
    rw [dec_int]
    by_cases q3 : r1 = 3
    · rw [decide_eq_true q3]
      -- a row with another condition
      have wh : ∃ (xs0 : List V) (wv : V) (m : Nat), V.str kd :: ws = xs0 ++ [wv] ∧ (V.str kd :: ws).length = m ∧ ¬ (HT.sIx m 0 none = 0 ∧ HT.sIx m m (some (-1)) = m) ∧ cutV (V.str kd :: ws) none (some (-1)) = xs0 ∧ xs0 ≠ [] ∧ xs0.length ≤ 10 ∧
          ∀ (H' : Hp) (t' : Addr) (u : V) (c2 : Cd), BM [s] H H' → less H' M t' = some (.tup (xs0 ++ [u])) → DC (less H' M) u c2 → c2.dep ≤ 1 → c2.simp.length ≤ 2 → ∃ r', DR (less H' M) (.ref t') r' ∧ RB (b + 6) r' ∧ r'.cnt = r.cnt ∧ r'.dep = r.dep := by
        have hB6 := RB.monoR (show b ≤ b + 6 by omega) hBr
        have wb : ∀ c2 : Cd, c2.dep ≤ 1 → c2.simp.length ≤ 2 → WB (some c2) := fun c2 a b => ⟨by show c2.dep ≤ 3; omega, by show c2.simp.length ≤ 100; omega⟩
        cases hdr with
        | @one _ l6 n6 os6 w6 wv h6 hl6 hw6 =>
          rw [h6] at ht; cases ht
          exact ⟨[_, _, _], _, 4, rfl, rfl, by decide, rfl, by simp, by show 3 ≤ 10; decide, fun H' t' u c2 e h' hc a b => ⟨.one _ _ (some c2), .one h' ((e.mono s5M).less _ _ hl6) (.some hc), by unfold RB at hB6 ⊢; exact ⟨hB6.1, hB6.2.1, hB6.2.2.1, wb c2 a b⟩, by unfold Rw.cnt; rfl, by unfold Rw.dep; rfl⟩⟩
        | @some _ l6 n6 os6 w6 wv h6 hl6 hw6 =>
          rw [h6] at ht; cases ht
          exact ⟨[_, _, _], _, 4, rfl, rfl, by decide, rfl, by simp, by show 3 ≤ 10; decide, fun H' t' u c2 e h' hc a b => ⟨.some _ _ (some c2), .some h' ((e.mono s5M).less _ _ hl6) (.some hc), by unfold RB at hB6 ⊢; exact ⟨hB6.1, hB6.2.1, hB6.2.2.1, wb c2 a b⟩, by unfold Rw.cnt; rfl, by unfold Rw.dep; rfl⟩⟩
        | @number _ n6 lo hi w6 wv h6 hw6 =>
          rw [h6] at ht; cases ht
          exact ⟨[_, _, _, _], _, 5, rfl, rfl, by decide, rfl, by simp, by show 4 ≤ 10; decide, fun H' t' u c2 e h' hc a b => ⟨.number _ _ _ (some c2), .number h' (.some hc), by unfold RB at hB6 ⊢; exact ⟨hB6.1, wb c2 a b⟩, by unfold Rw.cnt; rfl, by unfold Rw.dep; rfl⟩⟩
        | @check _ n6 mv m6 w6 wv h6 hm6 hw6 =>
          rw [h6] at ht; cases ht
          exact ⟨[_, _, _], _, 4, rfl, rfl, by decide, rfl, by simp, by show 3 ≤ 10; decide, fun H' t' u c2 e h' hc a b => ⟨.check _ _ (some c2), .check h' (hm6.same (e.mono s5M).less) (.some hc), by unfold RB at hB6 ⊢; exact ⟨hB6.1, hB6.2.1, hB6.2.2.1, wb c2 a b⟩, by unfold Rw.cnt; rfl, by unfold Rw.dep; rfl⟩⟩
        | @sect _ l6 xs6 rs6 w6 wv h6 hl6 hr6 hw6 =>
          rw [h6] at ht; cases ht
          exact ⟨[_, _], _, 3, rfl, rfl, by decide, rfl, by simp, by show 2 ≤ 10; decide, fun H' t' u c2 e h' hc a b => ⟨.sect _ (some c2), .sect h' ((e.mono s5M).less _ _ hl6) (hr6.same (e.mono s5M).less) (.some hc), by unfold RB at hB6 ⊢; exact ⟨hB6.1, wb c2 a b⟩, by unfold Rw.cnt; rfl, by unfold Rw.dep; rfl⟩⟩
        | @rounds _ l6 n6 xs6 rs6 w6 wv h6 hl6 hr6 hw6 =>
          rw [h6] at ht; cases ht
          exact ⟨[_, _, _], _, 4, rfl, rfl, by decide, rfl, by simp, by show 3 ≤ 10; decide, fun H' t' u c2 e h' hc a b => ⟨.rounds _ _ (some c2), .rounds h' ((e.mono s5M).less _ _ hl6) (hr6.same (e.mono s5M).less) (.some hc), by unfold RB at hB6 ⊢; exact ⟨hB6.1, hB6.2.1, wb c2 a b⟩, by unfold Rw.cnt; rfl, by unfold Rw.dep; rfl⟩⟩
      obtain ⟨xs0, wv, m, hx0, hm, hn1, hcut, hne0, hl10, mk⟩ := wh
      walk_at "go"
      refine ⟨1, rfl, ?_⟩
      walk_at "go"
      refine w_slT m (htg _ gc) hm hn1 hcut fun p1 hp1 => ?_
      have f1 := Same.new hp1 (.tup xs0)
      have g1 := gc.same f1
      walk_at "go"
      refine ⟨M, s, ev, es, rfl, hM.bm g1, sM, sc.same f1, hE.bm g1, fun u H4 c2 e4 s4 hc2 d1 d2 => ?_⟩
      have g4 := g1.trans e4
      have p1s : p1 ≠ s := fun z => by obtain ⟨_, _, _, z2⟩ := sc; rw [← z, hp1] at z2; cases z2
      have hp14 : H4 p1 = some (.tup xs0) := e4.at (b := p1) upd_same (by simpa using p1s)
      walk_at "go"
      refine ⟨(by show 1 ≤ sizeLine; decide), fun p2 hp2 => ?_⟩
      have f2 := Same.new hp2 (.tup [u])
      refine w_catT (f2 _ _ hp14) upd_same hne0 (by simp) (by show xs0.length + 1 ≤ 1000; omega) fun p3 hp3 => ?_
      have f3 := f2.trans (Same.new hp3 (.tup (xs0 ++ [u])))
      obtain ⟨r', k1, k2, k3, k4⟩ := mk _ p3 u c2 (g4.same f3) (less_of upd_same ((hM.bm (g4.same f2)).new hp3)) (hc2.same (BM.of (M := M) f3).less) d1 d2
      exact fin _ (.ref p3) r' (g4.same f3) (s4.same f3) k1 k2 (by omega) (by omega)
    rw [decide_eq_false q3]
    walk_at "go"
    refine ⟨rfl, ?_⟩
    walk_at "go"
    rw [dec_int]
    by_cases q4 : r1 = 4
    · rw [decide_eq_true q4]
      have hB6 := RB.monoR (show b ≤ b + 6 by omega) hBr
      have hBs : RBs (b + 6) [r] := by unfold RBs RBs; exact ⟨hB6, trivial⟩
      have cs : Rws.cnt [r] = r.cnt := by unfold Rws.cnt Rws.cnt; omega
      have ds : Rws.dep [r] = r.dep := by unfold Rws.dep Rws.dep; omega
      have hWn : WB none := ⟨Nat.zero_le _, Nat.zero_le _⟩
      walk_at "go"
      refine ⟨ev, _, rfl, .inl (SqL.of (hE.bm gc).at_), ?_⟩
      walk_at "go"
      have lm : (es.map V.str).length = es.length := List.length_map ..
      refine ⟨s, _, rfl, sc, by omega, by omega, fun r3 H4 h4 h5 e4 s4 => ?_⟩
      obtain ⟨u2, hu3, hu4⟩ := at_in h4 h5
      obtain ⟨en, hen, rfl⟩ := List.mem_map.mp hu4
      have g4 := gc.trans e4
      refine w_ixL (hE.bm g4).at_ hu3 ?_
      walk_at "go"
      refine ⟨(by show 1 ≤ sizeLine; decide), fun p1 hp1 => ?_⟩
      walk_at "go"
      refine ⟨(by show 4 ≤ sizeLine; decide), fun t1 ht1 => ?_⟩
      walk_at "go"
      refine ⟨(by show 1 ≤ sizeLine; decide), fun p2 hp2 => ?_⟩
      walk_at "go"
      refine ⟨(by show 3 ≤ sizeLine; decide), fun t2 ht2 => ?_⟩
      walk_at "go"
      refine ⟨(by show 2 ≤ sizeLine; decide), fun p3 hp3 => ?_⟩
      walk_at "go"
      refine w_i (by decide) ?_
      have j5 := Same.new hp3 (.lst [.ref t1, .ref t2])
      have j4 := (Same.new ht2 (.tup [.str "section", .ref p2, .non])).trans j5
      have j3 := (Same.new hp2 (.lst [.ref t])).trans j4
      have j2 := (Same.new ht1 (.tup [.str "rounds", .str en, .ref p1, .non])).trans j3
      have j1 := (Same.new hp1 (.lst [.ref t])).trans j2
      have o1 := (Same.new hp1 (.lst [.ref t]))
      have o2 := o1.trans (Same.new ht1 (.tup [.str "rounds", .str en, .ref p1, .non]))
      have o3 := o2.trans (Same.new hp2 (.lst [.ref t]))
      have m1 := (hM.bm g4).new hp1
      have m2 := (hM.bm (g4.same o1)).new ht1
      have m3 := (hM.bm (g4.same o2)).new hp2
      have m4 := (hM.bm (g4.same o3)).new ht2
      have c1 := less_of (j2 _ _ upd_same) m1
      have c2 := less_of (j3 _ _ upd_same) m2
      have c3 := less_of (j4 _ _ upd_same) m3
      have c4 := less_of (j5 _ _ upd_same) m4
      have g5 := g4.same j1
      have dr5 := hdr.same (g5.mono s5M).less
      have mod2 : (i : Int) % 2 = 0 ∨ (i : Int) % 2 = 1 := by omega
      rcases mod2 with z | z
      · refine w_ixL upd_same (by rw [z]; rfl : atI [V.ref t1, .ref t2] ((i : Int) % 2) = some (.ref t1)) ?_
        exact fin _ (.ref t1) (.rounds en [r] none) g5 (s4.same j1) (.rounds c2 c1 (.cons dr5 .nil) .none) (by unfold RB; exact ⟨hE.sz en hen, hBs, hWn⟩) (by rw [Rw.cnt, cs]; omega) (by rw [Rw.dep, ds]; omega)
      · refine w_ixL upd_same (by rw [z]; rfl : atI [V.ref t1, .ref t2] ((i : Int) % 2) = some (.ref t2)) ?_
        exact fin _ (.ref t2) (.sect [r] none) g5 (s4.same j1) (.sect c4 c3 (.cons dr5 .nil) .none) (by unfold RB; exact ⟨hBs, hWn⟩) (by rw [Rw.cnt, cs]; omega) (by rw [Rw.dep, ds]; omega)
    rw [decide_eq_false q4]
    walk_at "go"
    refine ⟨rfl, ?_⟩
    walk_at "go"
    rw [dec_int]
    by_cases q5 : r1 = 5
    · rw [decide_eq_true q5]
      have hlc := gc.at hl0.1 (by simpa using ls)
      have d0 := hrs.same (gc.mono s5M).less
      have hdc := hdr.same (gc.mono s5M).less
      walk_at "go"
      refine ⟨l, _, rfl, SqL.of hlc, fun p1 hp1 => ?_⟩
      rw [cut_to] at *
      have f1 := Same.new hp1 (.lst (xs.take i))
      walk_at "go"
      refine ⟨(by show 1 ≤ sizeLine; decide), fun p2 hp2 => ?_⟩
      have f2 := Same.new hp2 (.lst [.ref t])
      refine ⟨p1, p2, _, _, rfl, rfl, f2 _ _ upd_same, upd_same, Nat.le_trans (show (xs.take i).length + 1 ≤ 1000 by rw [List.length_take]; omega) (by decide), fun p3 hp3 => ?_⟩
      have f3 := (f1.trans f2).trans (Same.new hp3 (.lst (xs.take i ++ [.ref t])))
      walk_at "go"
      refine ⟨l, _, rfl, SqL.of (f3 _ _ hlc), fun p4 hp4 => ?_⟩
      rw [cut_from] at *
      have f4 := Same.new hp4 (.lst (xs.drop i))
      refine ⟨p3, p4, _, _, rfl, rfl, f4 _ _ upd_same, upd_same, Nat.le_trans (show (xs.take i ++ [V.ref t]).length + (xs.drop i).length ≤ 2000 by rw [List.length_append, List.length_take, List.length_drop]; show min i xs.length + 1 + _ ≤ 2000; omega) (by decide), fun p5 hp5 => ?_⟩
      have f5 := (f3.trans f4).trans (Same.new hp5 (.lst (xs.take i ++ [.ref t] ++ xs.drop i)))
      have g5 := gc.same f5
      have l5 := (BM.of (M := M) f5).less
      have rc := cnt_mem rm
      have rd := dep_mem rm
      refine q p5 _ (rs.take i ++ [r] ++ rs.drop i) _ g5 (sc.same f5) (less_of upd_same ((hM.bm (gc.same (f3.trans f4))).new hp5)) (((((d0.take i).app (.cons hdc .nil)).app (d0.drop i))).same l5) ?_ ?_ ?_
      · refine (RBs.iff _).mpr fun x hx => ?_
        rcases List.mem_append.mp hx with z | z
        · rcases List.mem_append.mp z with z | z
          · exact RB.monoR (by omega) ((RBs.iff _).mp hB x (List.mem_of_mem_take z))
          · rw [List.mem_singleton.mp z]; exact RB.monoR (by omega) hBr
        · exact RB.monoR (by omega) ((RBs.iff _).mp hB x (List.mem_of_mem_drop z))
      · have a1 := congrArg Rws.cnt (List.take_append_drop i rs)
        rw [Rws.cnt_app2] at a1
        rw [Rws.cnt_app2, Rws.cnt_app2, Rws.cnt, Rws.cnt]
        omega
      · have a1 := congrArg Rws.dep (List.take_append_drop i rs)
        rw [Rws.dep_app2] at a1
        rw [Rws.dep_app2, Rws.dep_app2, Rws.dep, Rws.dep]
        omega
    rw [decide_eq_false q5]
    have hdr2 := hdr.same (gc.mono s5M).less
    cases hdr with
    | @one _ l6 n6 os6 w6 wv h6 hl6 hw6 =>
      walk_at "go"
      refine w_ixT (SqT.of (htg _ gc)) (atI_nat (j := 0) rfl) ?_
      walk_at "go"
      rw [h6] at ht
      cases ht
      refine w_sEq false (by decide +kernel) ?_
      walk_at "go"
      refine w_ixT (SqT.of (htg _ gc)) (atI_nat (j := 0) rfl) ?_
      walk_at "go"
      refine w_sEq false (by decide +kernel) ?_
      walk_at "go"
      exact ⟨M, s, ev, es, _, _, b, rfl, hM.bm gc, sM, sc, hE.bm gc, hdr2, hBr, hb, rfl, fun v' H' r' e' s' dr rb cn de => fin _ v' r' (gc.trans e') s' dr rb (by omega) (by omega)⟩
    | @some _ l6 n6 os6 w6 wv h6 hl6 hw6 =>
      walk_at "go"
      refine w_ixT (SqT.of (htg _ gc)) (atI_nat (j := 0) rfl) ?_
      walk_at "go"
      rw [h6] at ht
      cases ht
      refine w_sEq false (by decide +kernel) ?_
      walk_at "go"
      refine w_ixT (SqT.of (htg _ gc)) (atI_nat (j := 0) rfl) ?_
      walk_at "go"
      refine w_sEq false (by decide +kernel) ?_
      walk_at "go"
      exact ⟨M, s, ev, es, _, _, b, rfl, hM.bm gc, sM, sc, hE.bm gc, hdr2, hBr, hb, rfl, fun v' H' r' e' s' dr rb cn de => fin _ v' r' (gc.trans e') s' dr rb (by omega) (by omega)⟩
    | @number _ n6 lo hi w6 wv h6 hw6 =>
      walk_at "go"
      refine w_ixT (SqT.of (htg _ gc)) (atI_nat (j := 0) rfl) ?_
      walk_at "go"
      rw [h6] at ht
      cases ht
      refine w_sEq false (by decide +kernel) ?_
      walk_at "go"
      refine w_ixT (SqT.of (htg _ gc)) (atI_nat (j := 0) rfl) ?_
      walk_at "go"
      refine w_sEq false (by decide +kernel) ?_
      walk_at "go"
      exact ⟨M, s, ev, es, _, _, b, rfl, hM.bm gc, sM, sc, hE.bm gc, hdr2, hBr, hb, rfl, fun v' H' r' e' s' dr rb cn de => fin _ v' r' (gc.trans e') s' dr rb (by omega) (by omega)⟩
    | @check _ n6 mv m6 w6 wv h6 hm6 hw6 =>
      walk_at "go"
      refine w_ixT (SqT.of (htg _ gc)) (atI_nat (j := 0) rfl) ?_
      walk_at "go"
      rw [h6] at ht
      cases ht
      refine w_sEq false (by decide +kernel) ?_
      walk_at "go"
      refine w_ixT (SqT.of (htg _ gc)) (atI_nat (j := 0) rfl) ?_
      walk_at "go"
      refine w_sEq false (by decide +kernel) ?_
      walk_at "go"
      exact ⟨M, s, ev, es, _, _, b, rfl, hM.bm gc, sM, sc, hE.bm gc, hdr2, hBr, hb, rfl, fun v' H' r' e' s' dr rb cn de => fin _ v' r' (gc.trans e') s' dr rb (by omega) (by omega)⟩
    | @sect _ l6 xs6 rs6 w6 wv h6 hl6 hr6 hw6 =>
      rw [h6] at ht
      cases ht
      have b6 : RBs b rs6 ∧ WB w6 := by unfold RB at hBr; exact hBr
      walk_at "go"
      refine w_ixT (SqT.of (htg _ gc)) rfl ?_
      walk_at "go"
      refine w_sEq true (by decide +kernel) ?_
      walk_at "go"
      refine ⟨Nat.zero_le _, fun p1 hp1 => ?_⟩
      have f1 := Same.new hp1 (.lst [])
      walk_at "go"
      refine w_ixT (SqT.of (htg _ (gc.same f1))) rfl ?_
      walk_at "go"
      refine ⟨(by show 3 ≤ sizeLine; decide), fun t1 ht1 => ?_⟩
      have f2 := Same.new ht1 (.tup [.str "section", .ref p1, wv])
      have g2' := (gc.same f1).same f2
      exact fin _ (.ref t1) (.sect [] w6) g2' ((sc.same f1).same f2) (.sect (less_of upd_same ((hM.bm (gc.same f1)).new ht1)) (less_of (f2 _ _ upd_same) ((hM.bm gc).new hp1)) .nil (hw6.same (g2'.mono s5M).less)) (by unfold RB RBs; exact ⟨trivial, b6.2⟩) (by rw [Rw.cnt, Rw.cnt, Rws.cnt]; omega) (by rw [Rw.dep, Rw.dep, Rws.dep]; omega)
    | @rounds _ l6 n6 xs6 rs6 w6 wv h6 hl6 hr6 hw6 =>
      rw [h6] at ht
      cases ht
      have b6 : n6.length ≤ 100 ∧ RBs b rs6 ∧ WB w6 := by unfold RB at hBr; exact hBr
      have hl6' := less_at hl6
      walk_at "go"
      refine w_ixT (SqT.of (htg _ gc)) rfl ?_
      walk_at "go"
      refine w_sEq false (by decide +kernel) ?_
      walk_at "go"
      refine w_ixT (SqT.of (htg _ gc)) rfl ?_
      walk_at "go"
      refine w_sEq true (by decide +kernel) ?_
      walk_at "go"
      refine ⟨ev, _, rfl, .inl (SqL.of (hE.bm gc).at_), ?_⟩
      walk_at "go"
      have lm : (es.map V.str).length = es.length := List.length_map ..
      refine ⟨s, _, rfl, sc, by omega, by omega, fun r3 H4 h4 h5 e4 s4 => ?_⟩
      obtain ⟨u2, hu3, hu4⟩ := at_in h4 h5
      obtain ⟨en, hen, rfl⟩ := List.mem_map.mp hu4
      have g4 := gc.trans e4
      refine w_ixL (hE.bm g4).at_ hu3 ?_
      walk_at "go"
      refine w_ixT (SqT.of (htg _ g4)) rfl ?_
      walk_at "go"
      refine ⟨s, _, rfl, s4, by decide, by decide, fun r4 H5 h6' h7 e5 s5 => ?_⟩
      obtain ⟨k, rfl⟩ : ∃ k : Nat, r4 = (k : Int) := ⟨r4.toNat, by omega⟩
      have g5 := g4.trans e5
      have hl65 := g5.at hl6'.1 (by simpa using tail l6 hl6'.2)
      walk_at "go"
      refine ⟨l6, _, rfl, SqL.of hl65, fun p1 hp1 => ?_⟩
      rw [cut_to] at *
      have f1 := Same.new hp1 (.lst (xs6.take k))
      walk_at "go"
      refine w_ixT (SqT.of (htg _ (g5.same f1))) rfl ?_
      walk_at "go"
      refine ⟨(by show 4 ≤ sizeLine; decide), fun t1 ht1 => ?_⟩
      have f2 := Same.new ht1 (.tup [.str "rounds", .str en, .ref p1, wv])
      have g6 := (g5.same f1).same f2
      have ct := Rws.cnt_take rs6 k
      have dt := Rws.dep_take rs6 k
      exact fin _ (.ref t1) (.rounds en (rs6.take k) w6) g6 ((s5.same f1).same f2) (.rounds (less_of upd_same ((hM.bm (g5.same f1)).new ht1)) (less_of (f2 _ _ upd_same) ((hM.bm g5).new hp1)) ((hr6.take k).same (g6.mono s5M).less) (hw6.same (g6.mono s5M).less)) (by unfold RB; exact ⟨hE.sz en hen, (RBs.iff _).mpr fun x hx => RB.monoR (by omega) ((RBs.iff _).mp b6.2.1 x (List.mem_of_mem_take hx)), b6.2.2⟩) (by rw [Rw.cnt, Rw.cnt]; omega) (by rw [Rw.dep, Rw.dep]; omega)
end
end K3
end L14_part
section L15_part
set_option Elab.async false
set_option linter.all false
set_option maxRecDepth 100000
set_option maxHeartbeats 1000000
set_option pp.deepTerms.threshold 5
open PySem PySem.Spec PyProof.Rows L2
/-- go on as far as nothing is open -/
local macro_rules | `(tactic| walk_at "go") => `(tactic| repeat (first
  | with_reducible refine w_seq ?_ | with_reducible refine w_next ?_ | with_reducible refine w_set ?_ | with_reducible refine w_drop ?_ | with_reducible refine w_ret ?_ | with_reducible refine w_retN ?_
  | with_reducible refine w_if ?_ | ((with_reducible refine' w_var ?hv ?_); (case hv => exact rfl)) | with_reducible refine w_c ?_ | with_reducible refine w_nil ?_ | with_reducible refine w_cons ?_ | with_reducible refine w_op ?_ | with_reducible refine w_un ?_
  | with_reducible refine w_test ?_ | with_reducible refine w_tB ?_ | with_reducible refine w_not ?_ | with_reducible refine w_and ?_ | with_reducible refine w_or ?_ | with_reducible refine w_bl ?_
  | with_reducible refine w_andV ?_ | with_reducible refine w_orV ?_ | with_reducible refine w_notV ?_ | with_reducible refine w_ifE ?_ | with_reducible refine w_chain ?_ | with_reducible refine w_i0 ?_
  | with_reducible refine w_call ?_ | with_reducible refine w_callS ?_ | with_reducible refine w_cB ?_ | with_reducible refine w_tup ?_ | with_reducible refine w_lst ?_ | with_reducible refine w_fldV ?_
  | with_reducible refine w_neF ?_ | with_reducible refine w_neT ?_ | with_reducible refine w_notN ?_ | with_reducible refine w_isN ?_ | with_reducible refine w_gname ?_ | with_reducible refine w_gsub ?_ | with_reducible refine w_asg ?_ | with_reducible refine w_sl ?_ | with_reducible refine w_noP ?_ | with_reducible refine w_int1 ?_ | with_reducible refine w_part ?_ | with_reducible refine w_yes ?_ | with_reducible refine w_nT ?_ | with_reducible refine w_nF ?_ | with_reducible refine w_iteT ?_ | with_reducible refine w_iteF ?_))
namespace K3
def spBig (K : PySem.W.Frag) : Sp := fun vs H Q _ => ∃ (M : List Addr) (s : Addr), vs = [.ref s] ∧ In M H ∧ s ∈ M ∧ Src H s ∧ ∀ p H' rs xs, BM [s] H H' → Src H' s → less H' M p = some (.lst xs) → DRs (less H' M) xs rs → RBs 6 rs → Rws.cnt rs ≤ 50 → Rws.dep rs ≤ 1 → Q (.ref p) H'
theorem dec42 : ∀ k : Fin 42, (("n" : Str) ++ (toString ((k.val : Nat) : Int) : Str)).length ≤ 100 ∧ (("n" : Str).length + (toString ((k.val : Nat) : Int) : Str).length ≤ 100) := by decide +kernel
section
variable {P : Program} {w : World} {K : PySem.W.Frag} {mg : Str → Option Value} {base : Heap}
theorem sc_big : FnScope ["_law_source_here", "_law_many", "_law_rows_here", "_law_at", "_law_k"] ["_law_source_here"] (defScope s__law_big) := ⟨rfl, rfl, rfl, by decide +kernel, rfl, by decide +kernel, by decide +kernel⟩
theorem ok_big (T : Tx K mg) : Ok P w K mg base 2 (He.ga K "_law_big") ["_law_source_here"] (spBig K) := by
  obtain ⟨fd, F⟩ := T.f__law_big
  have O := ok_take (P := P) (w := w) (base := base) T
  refine ⟨fd, F.ok (k := 1) sc_big (fun vs H Q E h => ?_) (fun cdv A outer s' H vs Q E hr h => ?_), F.bindsN fun _ _ _ _ _ _ us hl => match us, hl with | [_], _ => rfl, F.kp⟩
  · obtain ⟨M, s, rfl, _⟩ := h
    rfl
  obtain ⟨M, s, rfl, hM, sM, hs, q⟩ := h
  refine ⟨_, pss_cons (ps_set (i := 1) sc_big.nd rfl (Or.inl rfl) (pe_op op_add pe_int (pe_f O hr T.g__law_take (pa_cons (pv 0) (pa_cons pe_int pa_nil)))))
      (pss_cons (by exact ps_setLc (i := 2) (own := [("_law_k", 4)]) (g := gName 4) (tt := tYes) (te := (tTup (tCons (tC (.str "number")) (tCons (tOp (fun x y H Q => ∃ i j, x = .str i ∧ y = .str j ∧ i.length + j.length ≤ sizeLine ∧ Q (.str (i ++ j)) H) (tC (.str "n")) (tCB (fun xs H Q => ∃ i, xs = [.int i] ∧ i.natAbs.log2 < 1920 ∧ Q (.str (toString i)) H) (tCons (tVar 4) tNil))) (tCons (tC (.int 0)) (tCons (tC (.int 3)) (tCons (tC .non) tNil))))))) (by rfl) sc_big.nd rfl rfl (by rfl) (pi_range1 rfl T.z_range (pa_cons (pv 1) pa_nil)) (blkOk_by (own := [("_law_k", 4)]) (N := ["_law_source_here", "_law_many", "_law_rows_here", "_law_at", "_law_k"]) (sc := defScope s__law_big) (by decide +kernel)) (fun _ _ _ _ _ => pg_name (i := 4) sc_big.nd rfl (Or.inl rfl)) (fun _ _ _ _ _ => pts_nil) (fun _ _ _ _ _ => (pe_tup (pa_cons pe_str (pa_cons (pe_op op_add_str pe_str (pe_callTy call_str_int (by rfl) T.z_str (by decide +kernel) (pa_cons (pv 4) pa_nil))) (pa_cons pe_int (pa_cons pe_int (pa_cons pe_non pa_nil))))))))
      (pss_cons (ps_set (i := 3) sc_big.nd rfl (Or.inl rfl) (pe_f O hr T.g__law_take (pa_cons (pv 0) (pa_cons pe_int pa_nil))))
      (pss_cons (ps_if (pt_cmpR op_eq (pe_f O hr T.g__law_take (pa_cons (pv 0) (pa_cons pe_int pa_nil))) pe_int (nomark _)) (pss_one (ps_ret (pv 2))) pss_nil)
      (pss_one (ps_ret (pe_op op_cat (pe_op op_cat (pe_slice sl_list (pv 2) po_none (po_some (pv 3))) (pe_lst (pa_cons (pe_tup (pa_cons pe_str (pa_cons (pe_slice sl_list (pv 2) (po_some (pv 3)) (po_some (pe_op op_add (pv 3) pe_int))) (pa_cons pe_non pa_nil)))) pa_nil))) (pe_slice sl_list (pv 2) (po_some (pe_op op_add (pv 3) pe_int)) po_none))))))), ?_⟩
  have s5M : ∀ b ∈ [s], b ∈ M := fun b hb => by rw [List.mem_singleton.mp hb]; exact sM
  walk_at "go"
  refine ⟨s, _, rfl, hs, by decide, by decide, fun r1 H1 h0 h1 e1 s1 => ?_⟩
  walk_at "go"
  obtain ⟨m, hm, m0, m1⟩ : ∃ m : Nat, (39 + r1 : Int) = (m : Int) ∧ 39 ≤ m ∧ m ≤ 41 := ⟨(39 + r1).toNat, by omega, by omega, by omega⟩
  rw [hm]
  refine ⟨_, rfl, (m : Int), rfl, by omega, by omega, fun D hD => ?_⟩
  rw [Int.toNat_natCast]
  have hM1 := hM.bm e1
  have DM : D ∉ M := hM1.new hD
  have ds : D ≠ s := fun z => DM (by rw [z]; exact sM)
  refine lc_range (lo := 0) (n := m) (fun (i : Nat) H' => ∃ (acc : List V) (rs : List Rw), Same H1 H' ∧ H' D = some (.lst acc) ∧ acc.length = i ∧ DRs (less H' (D :: M)) acc rs ∧ RBs 6 rs ∧ Rws.cnt rs = i ∧ Rws.dep rs = 0) ⟨[], [], Same.new hD _, upd_same, rfl, .nil, by unfold RBs; trivial, by unfold Rws.cnt; rfl, by unfold Rws.dep; rfl⟩ ?_ ?_
  · rintro i H2 hi ⟨acc, rs, e2, hD2, la, hdr, hB, hc, hd⟩
    have hk := dec42 ⟨i, by omega⟩
    have inD : In (D :: M) H2 := fun b hb => by
      rcases List.mem_cons.mp hb with z | z
      · exact ⟨_, by rw [z]; exact hD2⟩
      · obtain ⟨o, ho⟩ := hM1 b z
        exact ⟨o, e2 _ _ ho⟩
    walk_at "go"
    refine ⟨rfl, ?_⟩
    walk_at "go"
    refine ⟨_, rfl, ?_, ?_⟩
    · have : ((0 : Int) + (i : Int)).natAbs ≤ 42 := by omega
      exact Nat.lt_of_le_of_lt (Nat.log2_le_self _) (by omega)
    rw [show (0 : Int) + (i : Int) = (i : Int) by omega]
    refine ⟨"n", _, rfl, rfl, Nat.le_trans hk.2 (by decide), ?_⟩
    walk_at "go"
    refine ⟨(by show 5 ≤ sizeLine; decide), fun t ht => ?_⟩
    have f := Same.new ht (.tup [.str "number", .str ("n" ++ toString (i : Int)), .int 0, .int 3, .non])
    have hD3 := f _ _ hD2
    have tD : t ∉ D :: M := inD.new ht
    refine ⟨acc, hD3, Nat.lt_of_le_of_lt (show acc.length ≤ 1000 by omega) (by decide), _, rs ++ [.number ("n" ++ toString (i : Int)) 0 3 none], (e2.trans f).mut hD, upd_same, by rw [List.length_append, la]; rfl, ?_, ?_, ?_, ?_⟩
    · rw [less_upd (.head _)]
      exact (hdr.same (BM.of (M := D :: M) f).less).app (.cons (.number (less_of upd_same tD) .none) .nil)
    · refine (RBs.iff _).mpr fun x hx => ?_
      rcases List.mem_append.mp hx with z | z
      · exact (RBs.iff _).mp hB x z
      · rw [List.mem_singleton.mp z]; unfold RB; exact ⟨hk.1, Nat.zero_le _, Nat.zero_le _⟩
    · rw [Rws.cnt_app, hc]; unfold Rw.cnt; rfl
    · rw [Rws.dep_app, hd]; unfold Rw.dep; rfl
  · rintro H2 ⟨acc, rs, e2, hD2, la, hdr, hB, hc, hd⟩
    have g2 := e1.same e2
    have lr := hdr.len
    walk_at "go"
    refine ⟨s, _, rfl, s1.same e2, by decide, by decide, fun r2 H3 h2 h3 e3 s3 => ?_⟩
    walk_at "go"
    refine ⟨s, _, rfl, s3, by decide, by decide, fun r3 H4 h4 h5 e4 s4 => ?_⟩
    have g4 := (g2.trans e3).trans e4
    have hD4 := (e3.trans e4).at hD2 (by simpa using ds)
    have sub : ∀ b ∈ [s], b ∈ D :: M := fun b hb => .tail _ (s5M b hb)
    have hdr4 : DRs (less H4 M) acc rs := (hdr.same ((e3.trans e4).mono sub).less).same (less_sub fun b hb => .tail _ hb)
    refine ⟨rfl, ?_⟩
    walk_at "go"
    rw [dec_int]
    by_cases q3 : r3 = 0
    · rw [decide_eq_true q3]
      walk_at "go"
      exact q D H4 rs acc g4 s4 (less_of hD4 DM) hdr4 hB (by omega) (by omega)
    rw [decide_eq_false q3]
    obtain ⟨i, rfl⟩ : ∃ i : Nat, r2 = (i : Int) := ⟨r2.toNat, by omega⟩
    have cm : cutV acc (some (i : Int)) (some ((i : Int) + 5)) = (acc.drop i).take 5 := by
      unfold cutV
      rw [HT.sIx_nat, show ((i : Int) + 5) = ((i + 5 : Nat) : Int) by omega, HT.sIx_nat, Nat.min_eq_left (by omega), Nat.min_eq_left (by omega), Nat.add_sub_cancel_left]
    have cf : cutV acc (some ((i : Int) + 5)) none = acc.drop (i + 5) := cut_from acc (i + 5)
    walk_at "go"
    refine ⟨D, _, rfl, SqL.of hD4, fun p1 hp1 => ?_⟩
    rw [cut_to] at *
    have f1 := Same.new hp1 (.lst (acc.take i))
    walk_at "go"
    refine ⟨D, _, rfl, SqL.of (f1 _ _ hD4), fun p2 hp2 => ?_⟩
    rw [cm] at *
    have f2 := Same.new hp2 (.lst ((acc.drop i).take 5))
    walk_at "go"
    refine ⟨(by show 3 ≤ sizeLine; decide), fun p3 hp3 => ?_⟩
    have f3 := Same.new hp3 (.tup [.str "section", .ref p2, .non])
    walk_at "go"
    refine ⟨(by show 1 ≤ sizeLine; decide), fun p4 hp4 => ?_⟩
    have f4 := Same.new hp4 (.lst [.ref p3])
    have f24 := f2.trans (f3.trans f4)
    refine ⟨p1, p4, _, _, rfl, rfl, f24 _ _ upd_same, upd_same, Nat.le_trans (show (acc.take i).length + 1 ≤ 1000 by rw [List.length_take]; omega) (by decide), fun p5 hp5 => ?_⟩
    have f5 := Same.new hp5 (.lst (acc.take i ++ [.ref p3]))
    have f15 := f1.trans (f24.trans f5)
    walk_at "go"
    refine ⟨D, _, rfl, SqL.of (f15 _ _ hD4), fun p6 hp6 => ?_⟩
    rw [cf] at *
    have f6 := Same.new hp6 (.lst (acc.drop (i + 5)))
    refine ⟨p5, p6, _, _, rfl, rfl, f6 _ _ upd_same, upd_same, Nat.le_trans (show (acc.take i ++ [V.ref p3]).length + (acc.drop (i + 5)).length ≤ 2000 by rw [List.length_append, List.length_take, List.length_drop]; show min i acc.length + 1 + _ ≤ 2000; omega) (by decide), fun p7 hp7 => ?_⟩
    have f7 := Same.new hp7 (.lst (acc.take i ++ [.ref p3] ++ acc.drop (i + 5)))
    have f17 := f15.trans (f6.trans f7)
    have g7 := g4.same f17
    have l7 := (BM.of (M := M) f17).less
    have m2 : p2 ∉ M := (hM.bm (g4.same f1)).new hp2
    have m3 : p3 ∉ M := (hM.bm (g4.same (f1.trans f2))).new hp3
    have f37 := (f4.trans f5).trans (f6.trans f7)
    have a1 := congrArg Rws.cnt (List.take_append_drop i rs)
    have a2 := congrArg Rws.dep (List.take_append_drop i rs)
    have a3 := congrArg Rws.cnt (List.take_append_drop 5 (rs.drop i))
    have a4 := congrArg Rws.dep (List.take_append_drop 5 (rs.drop i))
    rw [Rws.cnt_app2] at a1 a3
    rw [Rws.dep_app2] at a2 a4
    rw [List.drop_drop] at a3 a4
    refine q p7 _ (rs.take i ++ [.sect ((rs.drop i).take 5) none] ++ rs.drop (i + 5)) _ g7 (s4.same f17) (less_of upd_same ((hM.bm (g4.same (f15.trans f6))).new hp7)) ?_ ?_ ?_ ?_
    · refine DRs.app (DRs.app ((hdr4.take i).same l7) (.cons (.sect (less_of (f37 _ _ upd_same) m3) (less_of ((f3.trans f37) _ _ upd_same) m2) (((hdr4.drop i).take 5).same l7) .none) .nil)) ((hdr4.drop (i + 5)).same l7)
    · refine (RBs.iff _).mpr fun x hx => ?_
      rcases List.mem_append.mp hx with z | z
      · rcases List.mem_append.mp z with z | z
        · exact (RBs.iff _).mp hB x (List.mem_of_mem_take z)
        · rw [List.mem_singleton.mp z]; unfold RB; exact ⟨(RBs.iff _).mpr fun y hy => (RBs.iff _).mp hB y (List.mem_of_mem_drop (List.mem_of_mem_take hy)), Nat.zero_le _, Nat.zero_le _⟩
      · exact (RBs.iff _).mp hB x (List.mem_of_mem_drop z)
    · rw [Rws.cnt_app2, Rws.cnt_app2, Rws.cnt, Rws.cnt, Rw.cnt]
      omega
    · rw [Rws.dep_app2, Rws.dep_app2, Rws.dep, Rws.dep, Rw.dep]
      omega
end
end K3
end L15_part
section L16_part
set_option Elab.async false
set_option linter.all false
set_option maxRecDepth 100000
set_option maxHeartbeats 1000000
set_option pp.deepTerms.threshold 5
open PySem PySem.Spec PyProof.Rows L2
/-- go on as far as nothing is open -/
local macro_rules | `(tactic| walk_at "go") => `(tactic| repeat (first
  | with_reducible refine w_seq ?_ | with_reducible refine w_next ?_ | with_reducible refine w_set ?_ | with_reducible refine w_drop ?_ | with_reducible refine w_ret ?_ | with_reducible refine w_retN ?_
  | with_reducible refine w_if ?_ | ((with_reducible refine' w_var ?hv ?_); (case hv => exact rfl)) | with_reducible refine w_c ?_ | with_reducible refine w_nil ?_ | with_reducible refine w_cons ?_ | with_reducible refine w_op ?_ | with_reducible refine w_un ?_
  | with_reducible refine w_test ?_ | with_reducible refine w_tB ?_ | with_reducible refine w_not ?_ | with_reducible refine w_and ?_ | with_reducible refine w_or ?_ | with_reducible refine w_bl ?_
  | with_reducible refine w_andV ?_ | with_reducible refine w_orV ?_ | with_reducible refine w_notV ?_ | with_reducible refine w_ifE ?_ | with_reducible refine w_chain ?_ | with_reducible refine w_i0 ?_
  | with_reducible refine w_call ?_ | with_reducible refine w_callS ?_ | with_reducible refine w_cB ?_ | with_reducible refine w_tup ?_ | with_reducible refine w_lst ?_ | with_reducible refine w_fldV ?_
  | with_reducible refine w_neF ?_ | with_reducible refine w_neT ?_ | with_reducible refine w_notN ?_ | with_reducible refine w_isN ?_ | with_reducible refine w_gname ?_ | with_reducible refine w_gsub ?_ | with_reducible refine w_asg ?_ | with_reducible refine w_sl ?_ | with_reducible refine w_noP ?_ | with_reducible refine w_int1 ?_ | with_reducible refine w_part ?_ | with_reducible refine w_yes ?_ | with_reducible refine w_nT ?_ | with_reducible refine w_nF ?_ | with_reducible refine w_iteT ?_ | with_reducible refine w_iteF ?_))
namespace K3
theorem lets_figs (c : Nat) : decide (c ∈ (lets ++ figs).cps.toList) = (decide (c ∈ lets.cps.toList) || decide (c ∈ figs.cps.toList)) := by
  have : (lets ++ figs).cps.toList = lets.cps.toList ++ figs.cps.toList := by decide +kernel
  rw [this]
  by_cases h1 : c ∈ lets.cps.toList
  · rw [decide_eq_true h1, decide_eq_true (List.mem_append.mpr (.inl h1))]; rfl
  · rw [decide_eq_false h1]
    by_cases h2 : c ∈ figs.cps.toList
    · rw [decide_eq_true h2, decide_eq_true (List.mem_append.mpr (.inr h2))]; rfl
    · rw [decide_eq_false h2, decide_eq_false (fun z => (List.mem_append.mp z).elim h1 h2)]; rfl
/-- what a simple condition speaks of -/
def kdC : Cd → Str
  | .is _ _ => "one" | .has _ _ => "some" | _ => "number"
def optC : Cd → V
  | .is _ o => .str o | .has _ o => .str o | .over _ k => .int k | .under _ k => .int k | _ => .non
def SE (H : Hp) (v : V) (c : Cd) : Prop := ∃ t, v = .ref t ∧ H t = some (.tup [.str c.name, .str (kdC c), optC c])
theorem SE.same {H H' : Hp} (e : Same H H') {v : V} {c : Cd} (h : SE H v c) : SE H' v c := let ⟨t, h1, h2⟩ := h; ⟨t, h1, e _ _ h2⟩
def spSpoken (n : Nat) : Sp := fun vs H Q _ => ∃ (v : V) (w : Option Cd), vs = [v] ∧ DW H v w ∧ odep w < n ∧ (owh w).length ≤ 1000 ∧ ∀ p H' ys, Same H H' → H' p = some (.lst ys) → Paired (SE H') ys (owh w) → Q (.ref p) H'
theorem get_kd {K : PySem.W.Frag} {H : Hp} {t : Addr} {nk kd : Str} {σ : L2.St} {Q : VK} {r : List V} (hσ : σ = [some (.ref t)]) (h : H t = some (.tup (.str nk :: r)))
    (hv : (valV (mergeK [] [((Sum.inr "is" : Key), V.str "one"), (Sum.inr "has", .str "some")]) (Sum.inr nk)).getD (.str "number") = .str kd) (q : ∀ H', Same H H' → Q (.str kd) H') :
    tDGet2 (tDisp [(tC (.str "is"), tC (.str "one")), (tC (.str "has"), tC (.str "some"))]) (tOp (rIxT K) (tVar 0) (tC (.int 0))) (tC (.str "number")) σ H Q := by
  subst hσ
  intro p hp
  refine ⟨upd_same, [(Sum.inr "is", .str "one"), (Sum.inr "has", .str "some")], rfl, by decide, ?_⟩
  refine ⟨p, rfl, .inl ⟨_, .inl upd_same⟩, ?_⟩
  have e2 : Same H (upd (upd H p (.dK [])) p (.dK (mergeK [] [((Sum.inr "is" : Key), V.str "one"), (Sum.inr "has", .str "some")]))) := ((Same.refl H).mut hp).mut hp
  walk_at "go"
  refine w_ixT (SqT.of (e2 _ _ h)) (atI_nat (j := 0) rfl) ?_
  walk_at "go"
  refine ⟨_, DGet.k (k := Sum.inr nk) upd_same, ?_⟩
  rw [hv]
  exact q _ e2
section
variable {P : Program} {w : World} {K : PySem.W.Frag} {mg : Str → Option Value} {base : Heap}
theorem sc_lname : FnScope ["_law_text", "_law_small", "_law_sign"] ["_law_text"] (defScope s__law_is_name) := ⟨rfl, rfl, rfl, by decide +kernel, rfl, by decide +kernel, by decide +kernel⟩
theorem ok_lname (T : Tx K mg) : Ok P w K mg base 1 (He.ga K "_law_is_name") ["_law_text"] spIsName := by
  obtain ⟨fd, F⟩ := T.f__law_is_name
  refine ⟨fd, F.ok (k := 0) sc_lname (fun vs H Q E h => ?_) (fun cdv A outer s H vs Q E hr h => ?_), F.bindsN fun _ _ _ _ _ _ us hl => match us, hl with | [_], _ => rfl, F.kp⟩
  · obtain ⟨z, rfl, _⟩ := h
    rfl
  obtain ⟨z, rfl, hz, q⟩ := h
  refine ⟨_, pss_cons (ps_set (i := 1) sc_lname.nd rfl (Or.inr rfl) pe_str)
    (pss_cons (ps_if (pw_or (pt_not (pt_chain op_le op_le pe_int (pe_callB call_len_str (by rfl) T.z_len PySem.boot_len (pa_cons (pv 0) pa_nil)) pe_int)) (pw_or1 (pt_cmpR op_notIn_sign (pe_ix ix_str (pv 0) pe_int (fun _ _ => rfl)) (pv 1) (by rfl)))).pt (pss_one (ps_ret pe_bl)) pss_nil)
    (pss_one (ps_ret (pe_callB (cr_all rfl) (by rfl) T.z_all (by decide +kernel) (pa_cons (pe_lc (own := [("_law_sign", 2)]) (g := gName 2) (by rfl) sc_lname.nd (pi_str (pv 0)) (blkOk_by (own := [("_law_sign", 2)]) (N := ["_law_text", "_law_small", "_law_sign"]) (sc := defScope s__law_is_name) (by decide +kernel))
        (fun _ _ _ _ _ => pg_name (i := 2) sc_lname.nd rfl (Or.inl rfl)) (fun _ _ _ _ _ => pts_nil) (fun _ _ _ _ _ => pe_cmpR op_in_sign (pv 2) (pe_op op_add_str (pv 1) pe_str) rfl)) pa_nil))))), ?_⟩
  have key : ∀ H', Same H H' → ∀ b, isName z = b → Q (.bl b) H' := fun H' e b h => h ▸ q H' e
  walk_at "go"
  refine ⟨z, rfl, Nat.le_trans hz (by decide), ?_⟩
  walk_at "go"
  by_cases h1 : (1 : Int) ≤ (z.length : Int)
  · rw [decide_eq_true h1]
    walk_at "go"
    by_cases h2 : (z.length : Int) ≤ 8
    · rw [decide_eq_true h2]
      walk_at "go"
      obtain ⟨c, r, hc⟩ : ∃ c r, z.cps.toList = c :: r := by
        cases e : z.cps.toList with
        | nil =>
          have : z.length = 0 := by show z.cps.size = 0; rw [← Array.length_toList, e]; rfl
          omega
        | cons c r => exact ⟨c, r, rfl⟩
      refine ⟨z, 0, c, rfl, rfl, Nat.le_trans hz (by decide), by rw [hc]; exact atI_nat (j := 0) rfl, ?_⟩
      walk_at "go"
      refine ⟨c, lets, rfl, rfl, ?_⟩
      walk_at "go"
      cases h3 : decide (c ∈ lets.cps.toList) with
      | false =>
        walk_at "go"
        refine key _ (Same.refl _) _ ?_
        unfold isName
        rw [hc]
        simp only [h3, Bool.false_and, Bool.and_false]
      | true =>
        walk_at "go"
        refine lc_strF (z := z) (f := fun c => .bl (decide (c ∈ (lets ++ figs).cps.toList))) (fun Q h => w_var rfl h) hz (fun _ => rfl) (fun c H' Q e k => ?_) (fun p H' hp e h => ?_)
        · walk_at "go"
          refine ⟨lets, figs, rfl, rfl, (by decide +kernel), ?_⟩
          exact ⟨c, lets ++ figs, rfl, rfl, k⟩
        · walk_at "go"
          refine ⟨p, z.cps.toList.map fun c => decide (c ∈ (lets ++ figs).cps.toList), rfl, SqL.of (by rw [h, List.map_map]; rfl), ?_⟩
          refine key _ e _ ?_
          unfold isName
          rw [decide_eq_true (show 1 ≤ z.length by omega), decide_eq_true (show z.length ≤ 8 by omega), hc]
          simp only [h3, Bool.true_and, List.all_map, Function.comp_def, id, lets_figs]
    · rw [decide_eq_false h2]
      walk_at "go"
      refine key _ (Same.refl _) _ ?_
      unfold isName
      rw [decide_eq_false (show ¬ z.length ≤ 8 by omega)]
      simp
  · rw [decide_eq_false h1]
    walk_at "go"
    refine key _ (Same.refl _) _ ?_
    unfold isName
    rw [decide_eq_false (show ¬ 1 ≤ z.length by omega)]
    simp
theorem sc_spoken : FnScope ["_law_cond"] ["_law_cond"] (defScope s__law_spoken) := ⟨rfl, rfl, rfl, by decide +kernel, rfl, by decide +kernel, by decide +kernel⟩
theorem ok_spoken (T : Tx K mg) : ∀ n, Ok P w K mg base n (He.ga K "_law_spoken") ["_law_cond"] (spSpoken n) := by
  obtain ⟨fd, F⟩ := T.f__law_spoken
  have b : Binds K fd ["_law_cond"] [] := F.bindsN fun _ _ _ _ _ _ us hl => match us, hl with | [_], _ => rfl
  intro n
  induction n with
  | zero => exact ⟨fd, ok_none fun vs H Q E ⟨_, _, _, _, h, _⟩ => absurd h (Nat.not_lt_zero _), b, F.kp⟩
  | succ n ih =>
    refine ⟨fd, F.ok sc_spoken (fun vs H Q E h => ?_) (fun cdv A outer s H vs Q E hr h => ?_), b, F.kp⟩
    · obtain ⟨v, c, rfl, _⟩ := h
      rfl
    obtain ⟨v, c, rfl, hv, hn, hl, q⟩ := h
    refine ⟨_, pss_cons (ps_if (pt_cmp (pc_isN (pv 0))) (pss_one (ps_ret (pe_lst pa_nil))) pss_nil)
      (pss_cons (ps_if (pt_cmpR op_eq (pe_ix ix_tup (pv 0) pe_int (fun _ _ => rfl)) pe_str (nomark _)) (pss_one (ps_ret (pe_f ih hr T.g__law_spoken (pa_cons (pe_ix ix_tup (pv 0) pe_int (fun _ _ => rfl)) pa_nil)))) pss_nil)
      (pss_cons (ps_if (pt_cmpR op_in_seq (pe_ix ix_tup (pv 0) pe_int (fun _ _ => rfl)) (pe_lst (pa_cons pe_str (pa_cons pe_str pa_nil))) (by rfl)) (pss_one (ps_ret (pe_op op_cat (pe_f ih hr T.g__law_spoken (pa_cons (pe_ix ix_tup (pv 0) pe_int (fun _ _ => rfl)) pa_nil)) (pe_f ih hr T.g__law_spoken (pa_cons (pe_ix ix_tup (pv 0) pe_int (fun _ _ => rfl)) pa_nil))))) pss_nil)
      (pss_one (ps_ret (pe_lst (pa_cons (pe_tup (pa_cons (pe_ix ix_tup (pv 0) pe_int (fun _ _ => rfl)) (pa_cons (pe_dget2 (hu_of hr) (pe_disp (pps_cons pe_str pe_str (pps_cons pe_str pe_str pps_nil)) (by rfl) (by rfl) (fun z => by cases z) (by decide)) (pe_ix ix_tup (pv 0) pe_int (fun _ _ => rfl)) pe_str ⟨rfl, rfl, rfl, rfl⟩) (pa_cons (pe_ix ix_tup (pv 0) pe_int (fun _ _ => rfl)) pa_nil)))) pa_nil)))))), ?_⟩
    cases hv with
    | none =>
      walk_at "go"
      refine w_iteT ?_
      walk_at "go"
      refine ⟨Nat.zero_le _, fun p hp => ?_⟩
      exact q p _ [] (Same.new hp _) upd_same .nil
    | some hd =>
      cases hd with
      | @is t z o h =>
        (walk_at "go"; refine w_iteF ?_; walk_at "go"; (refine w_ixT (SqT.of h) rfl ?_; walk_at "go"); (refine w_sEq false (by decide +kernel) ?_; walk_at "go"); (refine w_ixT (SqT.of h) rfl ?_; walk_at "go"); (refine ⟨(by show 2 ≤ sizeLine; decide), fun p3 hp3 => ?_⟩; refine ⟨p3, _, rfl, .inl (SqL.of upd_same), rfl, rfl, ?_⟩; have e3 := Same.new hp3 (.lst [V.str "both", .str "either"]); walk_at "go"; rw [show inV _ [V.str "both", .str "either"] = false by decide +kernel]; walk_at "go"; generalize upd H p3 _ = H3 at e3 ⊢); (refine w_ixT (SqT.of (e3 _ _ h)) rfl ?_; walk_at "go"); refine get_kd (kd := "one") rfl (e3 _ _ h) (by decide +kernel) fun H4 e4 => ?_; walk_at "go"; (refine w_ixT (SqT.of (e4 _ _ (e3 _ _ h))) rfl ?_; walk_at "go"); refine ⟨(by show 3 ≤ sizeLine; decide), fun p5 hp5 => ?_⟩; walk_at "go"; refine ⟨(by show 1 ≤ sizeLine; decide), fun p6 hp6 => ?_⟩; have e6 := Same.new hp6 (.lst [V.ref p5]); exact q p6 _ _ (((e3.trans e4).trans (Same.new hp5 _)).trans e6) upd_same (.cons ⟨p5, rfl, e6 _ _ upd_same⟩ .nil))
      | @has t z o h =>
        (walk_at "go"; refine w_iteF ?_; walk_at "go"; (refine w_ixT (SqT.of h) rfl ?_; walk_at "go"); (refine w_sEq false (by decide +kernel) ?_; walk_at "go"); (refine w_ixT (SqT.of h) rfl ?_; walk_at "go"); (refine ⟨(by show 2 ≤ sizeLine; decide), fun p3 hp3 => ?_⟩; refine ⟨p3, _, rfl, .inl (SqL.of upd_same), rfl, rfl, ?_⟩; have e3 := Same.new hp3 (.lst [V.str "both", .str "either"]); walk_at "go"; rw [show inV _ [V.str "both", .str "either"] = false by decide +kernel]; walk_at "go"; generalize upd H p3 _ = H3 at e3 ⊢); (refine w_ixT (SqT.of (e3 _ _ h)) rfl ?_; walk_at "go"); refine get_kd (kd := "some") rfl (e3 _ _ h) (by decide +kernel) fun H4 e4 => ?_; walk_at "go"; (refine w_ixT (SqT.of (e4 _ _ (e3 _ _ h))) rfl ?_; walk_at "go"); refine ⟨(by show 3 ≤ sizeLine; decide), fun p5 hp5 => ?_⟩; walk_at "go"; refine ⟨(by show 1 ≤ sizeLine; decide), fun p6 hp6 => ?_⟩; have e6 := Same.new hp6 (.lst [V.ref p5]); exact q p6 _ _ (((e3.trans e4).trans (Same.new hp5 _)).trans e6) upd_same (.cons ⟨p5, rfl, e6 _ _ upd_same⟩ .nil))
      | @over t z o h =>
        (walk_at "go"; refine w_iteF ?_; walk_at "go"; (refine w_ixT (SqT.of h) rfl ?_; walk_at "go"); (refine w_sEq false (by decide +kernel) ?_; walk_at "go"); (refine w_ixT (SqT.of h) rfl ?_; walk_at "go"); (refine ⟨(by show 2 ≤ sizeLine; decide), fun p3 hp3 => ?_⟩; refine ⟨p3, _, rfl, .inl (SqL.of upd_same), rfl, rfl, ?_⟩; have e3 := Same.new hp3 (.lst [V.str "both", .str "either"]); walk_at "go"; rw [show inV _ [V.str "both", .str "either"] = false by decide +kernel]; walk_at "go"; generalize upd H p3 _ = H3 at e3 ⊢); (refine w_ixT (SqT.of (e3 _ _ h)) rfl ?_; walk_at "go"); refine get_kd (kd := "number") rfl (e3 _ _ h) (by decide +kernel) fun H4 e4 => ?_; walk_at "go"; (refine w_ixT (SqT.of (e4 _ _ (e3 _ _ h))) rfl ?_; walk_at "go"); refine ⟨(by show 3 ≤ sizeLine; decide), fun p5 hp5 => ?_⟩; walk_at "go"; refine ⟨(by show 1 ≤ sizeLine; decide), fun p6 hp6 => ?_⟩; have e6 := Same.new hp6 (.lst [V.ref p5]); exact q p6 _ _ (((e3.trans e4).trans (Same.new hp5 _)).trans e6) upd_same (.cons ⟨p5, rfl, e6 _ _ upd_same⟩ .nil))
      | @under t z o h =>
        (walk_at "go"; refine w_iteF ?_; walk_at "go"; (refine w_ixT (SqT.of h) rfl ?_; walk_at "go"); (refine w_sEq false (by decide +kernel) ?_; walk_at "go"); (refine w_ixT (SqT.of h) rfl ?_; walk_at "go"); (refine ⟨(by show 2 ≤ sizeLine; decide), fun p3 hp3 => ?_⟩; refine ⟨p3, _, rfl, .inl (SqL.of upd_same), rfl, rfl, ?_⟩; have e3 := Same.new hp3 (.lst [V.str "both", .str "either"]); walk_at "go"; rw [show inV _ [V.str "both", .str "either"] = false by decide +kernel]; walk_at "go"; generalize upd H p3 _ = H3 at e3 ⊢); (refine w_ixT (SqT.of (e3 _ _ h)) rfl ?_; walk_at "go"); refine get_kd (kd := "number") rfl (e3 _ _ h) (by decide +kernel) fun H4 e4 => ?_; walk_at "go"; (refine w_ixT (SqT.of (e4 _ _ (e3 _ _ h))) rfl ?_; walk_at "go"); refine ⟨(by show 3 ≤ sizeLine; decide), fun p5 hp5 => ?_⟩; walk_at "go"; refine ⟨(by show 1 ≤ sizeLine; decide), fun p6 hp6 => ?_⟩; have e6 := Same.new hp6 (.lst [V.ref p5]); exact q p6 _ _ (((e3.trans e4).trans (Same.new hp5 _)).trans e6) upd_same (.cons ⟨p5, rfl, e6 _ _ upd_same⟩ .nil))
      | @no t u c1 h h1 =>
        have hn1 : c1.dep + 1 < n + 1 := hn
        walk_at "go"
        refine w_iteF ?_
        walk_at "go"
        (refine w_ixT (SqT.of h) rfl ?_; walk_at "go")
        (refine w_sEq true (by decide +kernel) ?_; walk_at "go")
        (refine w_ixT (SqT.of h) rfl ?_; walk_at "go")
        exact ⟨u, some c1, rfl, .some h1, show c1.dep < n by omega, hl, fun p H' ys e hp hy => q p H' ys e hp hy⟩
      | @both t u1 u2 c1 c2 h h1 h2 =>
        have hn1 : max c1.dep c2.dep + 1 < n + 1 := hn
        have hl1 : c1.simp.length + c2.simp.length ≤ 1000 := by rw [← List.length_append]; exact hl
        walk_at "go"
        refine w_iteF ?_
        walk_at "go"
        (refine w_ixT (SqT.of h) rfl ?_; walk_at "go")
        (refine w_sEq false (by decide +kernel) ?_; walk_at "go")
        (refine w_ixT (SqT.of h) rfl ?_; walk_at "go")
        (refine ⟨(by show 2 ≤ sizeLine; decide), fun p3 hp3 => ?_⟩; refine ⟨p3, _, rfl, .inl (SqL.of upd_same), rfl, rfl, ?_⟩; have e3 := Same.new hp3 (.lst [V.str "both", .str "either"]); walk_at "go"; rw [show inV _ [V.str "both", .str "either"] = true by decide +kernel]; walk_at "go"; generalize upd H p3 _ = H3 at e3 ⊢)
        (refine w_ixT (SqT.of (e3 _ _ h)) rfl ?_; walk_at "go")
        refine ⟨u1, some c1, rfl, .some (h1.same e3), show c1.dep < n by omega, show c1.simp.length ≤ 1000 by omega, fun p4 H4 ys4 e4 hp4 hy4 => ?_⟩
        walk_at "go"
        (refine w_ixT (SqT.of ((e3.trans e4) _ _ h)) rfl ?_; walk_at "go")
        refine ⟨u2, some c2, rfl, .some (h2.same (e3.trans e4)), show c2.dep < n by omega, show c2.simp.length ≤ 1000 by omega, fun p5 H5 ys5 e5 hp5 hy5 => ?_⟩
        have g4 := hy4.length
        have g5 := hy5.length
        refine ⟨p4, p5, _, _, rfl, rfl, e5 _ _ hp4, hp5, Nat.le_trans (show ys4.length + ys5.length ≤ 1000 by rw [g4, g5]; exact hl1) (by decide), fun p6 hp6 => ?_⟩
        have e6 := Same.new hp6 (.lst (ys4 ++ ys5))
        exact q p6 _ _ (((e3.trans e4).trans e5).trans e6) upd_same (K3.Paired.app (L2.Paired.mapP hy4 fun _ _ z => z.same (e5.trans e6)) (L2.Paired.mapP hy5 fun _ _ z => z.same e6))
      | @either t u1 u2 c1 c2 h h1 h2 =>
        have hn1 : max c1.dep c2.dep + 1 < n + 1 := hn
        have hl1 : c1.simp.length + c2.simp.length ≤ 1000 := by rw [← List.length_append]; exact hl
        walk_at "go"
        refine w_iteF ?_
        walk_at "go"
        (refine w_ixT (SqT.of h) rfl ?_; walk_at "go")
        (refine w_sEq false (by decide +kernel) ?_; walk_at "go")
        (refine w_ixT (SqT.of h) rfl ?_; walk_at "go")
        (refine ⟨(by show 2 ≤ sizeLine; decide), fun p3 hp3 => ?_⟩; refine ⟨p3, _, rfl, .inl (SqL.of upd_same), rfl, rfl, ?_⟩; have e3 := Same.new hp3 (.lst [V.str "both", .str "either"]); walk_at "go"; rw [show inV _ [V.str "both", .str "either"] = true by decide +kernel]; walk_at "go"; generalize upd H p3 _ = H3 at e3 ⊢)
        (refine w_ixT (SqT.of (e3 _ _ h)) rfl ?_; walk_at "go")
        refine ⟨u1, some c1, rfl, .some (h1.same e3), show c1.dep < n by omega, show c1.simp.length ≤ 1000 by omega, fun p4 H4 ys4 e4 hp4 hy4 => ?_⟩
        walk_at "go"
        (refine w_ixT (SqT.of ((e3.trans e4) _ _ h)) rfl ?_; walk_at "go")
        refine ⟨u2, some c2, rfl, .some (h2.same (e3.trans e4)), show c2.dep < n by omega, show c2.simp.length ≤ 1000 by omega, fun p5 H5 ys5 e5 hp5 hy5 => ?_⟩
        have g4 := hy4.length
        have g5 := hy5.length
        refine ⟨p4, p5, _, _, rfl, rfl, e5 _ _ hp4, hp5, Nat.le_trans (show ys4.length + ys5.length ≤ 1000 by rw [g4, g5]; exact hl1) (by decide), fun p6 hp6 => ?_⟩
        have e6 := Same.new hp6 (.lst (ys4 ++ ys5))
        exact q p6 _ _ (((e3.trans e4).trans e5).trans e6) upd_same (K3.Paired.app (L2.Paired.mapP hy4 fun _ _ z => z.same (e5.trans e6)) (L2.Paired.mapP hy5 fun _ _ z => z.same e6))
end
end K3
end L16_part
section L17_part
set_option Elab.async false
set_option linter.all false
set_option maxRecDepth 100000
set_option maxHeartbeats 1000000
set_option pp.deepTerms.threshold 5
open PySem PySem.Spec PyProof.Rows L2
/-- go on as far as nothing is open -/
local macro_rules | `(tactic| walk_at "go") => `(tactic| repeat (first
  | with_reducible refine w_seq ?_ | with_reducible refine w_next ?_ | with_reducible refine w_set ?_ | with_reducible refine w_drop ?_ | with_reducible refine w_ret ?_ | with_reducible refine w_retN ?_
  | with_reducible refine w_if ?_ | ((with_reducible refine' w_var ?hv ?_); (case hv => exact rfl)) | with_reducible refine w_c ?_ | with_reducible refine w_nil ?_ | with_reducible refine w_cons ?_ | with_reducible refine w_op ?_ | with_reducible refine w_un ?_
  | with_reducible refine w_test ?_ | with_reducible refine w_tB ?_ | with_reducible refine w_not ?_ | with_reducible refine w_and ?_ | with_reducible refine w_or ?_ | with_reducible refine w_bl ?_
  | with_reducible refine w_andV ?_ | with_reducible refine w_orV ?_ | with_reducible refine w_notV ?_ | with_reducible refine w_ifE ?_ | with_reducible refine w_chain ?_ | with_reducible refine w_i0 ?_
  | with_reducible refine w_call ?_ | with_reducible refine w_callS ?_ | with_reducible refine w_cB ?_ | with_reducible refine w_tup ?_ | with_reducible refine w_lst ?_ | with_reducible refine w_fldV ?_
  | with_reducible refine w_neF ?_ | with_reducible refine w_neT ?_ | with_reducible refine w_notN ?_ | with_reducible refine w_isN ?_ | with_reducible refine w_gname ?_ | with_reducible refine w_gsub ?_ | with_reducible refine w_asg ?_ | with_reducible refine w_sl ?_ | with_reducible refine w_noP ?_ | with_reducible refine w_int1 ?_ | with_reducible refine w_part ?_ | with_reducible refine w_yes ?_ | with_reducible refine w_nT ?_ | with_reducible refine w_nF ?_ | with_reducible refine w_iteT ?_ | with_reducible refine w_iteF ?_))
namespace K3
/-! ### what the law found amiss, as it is told -/
def fV : Flt → List V
  | .count w n => [.str "count", .str w, .int n]
  | .name z => [.str "name", .str z]
  | .twice z => [.str "twice", .str z]
  | .quest z => [.str "question", .str z]
  | .fit z => [.str "fit", .str z]
def FV (H : Hp) (v : V) : Option Flt → Prop
  | none => v = .non
  | some f => ∃ t, v = .ref t ∧ H t = some (.tup (fV f))
theorem FV.same {H H' : Hp} (e : Same H H') {v : V} : ∀ {f : Option Flt}, FV H v f → FV H' v f
  | none, h => h
  | some _, ⟨t, h1, h2⟩ => ⟨t, h1, e _ _ h2⟩
/-- the program's place of a Rounds against the law's number of it -/
def Rl (ar : Option Nat) (here n R : Nat) (a : Option Nat) (h : Nat) : Prop := (a = none ↔ h = 0) ∧ (a = ar ↔ h = here) ∧ (∀ p, a = some p → p < n) ∧ h ≤ R
def KnE (B H : Hp) (ar : Option Nat) (here n R : Nat) (kv : Key × V) (e : Str × Rw × Option Nat) : Prop := kv.1 = Sum.inr e.1 ∧ ∃ t v h, kv.2 = V.ref t ∧ H t = some (.tup [v, .int ((h : Nat) : Int)]) ∧ DR B v e.2.1 ∧ Rl ar here n R e.2.2 h
theorem KnE.same {B H H' : Hp} {ar : Option Nat} {here n R : Nat} (e : Same H H') {kv : Key × V} {x : Str × Rw × Option Nat} (h : KnE B H ar here n R kv x) : KnE B H' ar here n R kv x := let ⟨h0, t, v, hh, h1, h2, h3⟩ := h; ⟨h0, t, v, hh, h1, e _ _ h2, h3⟩
def qL (L : AL) : AL := L.filter fun e => e.2.1.isQ
structure LFs (B H : Hp) (F nm kn : Addr) (L : AL) (ar : Option Nat) (here n R : Nat) : Prop where
  f : H F = some (.dK [(Sum.inr "names", .ref nm), (Sum.inr "known", .ref kn), (Sum.inr "rounds", .int (R : Int))])
  nms : H nm = some (.lst (L.map fun e => V.str e.1))
  kns : ∃ kvs, H kn = some (.dK kvs) ∧ Paired (KnE B H ar here n R) kvs (qL L)
  rel : ar = none ↔ here = 0
  own : ∀ e ∈ L, e.2.1.name = e.1 ∧ e.2.1.isN = true
  nd : (L.map (·.1)).Nodup
  bs : Same B H
theorem LFs.same {B H H' : Hp} {F nm kn : Addr} {L : AL} {ar : Option Nat} {here n R : Nat} (h : LFs B H F nm kn L ar here n R) (e : Same H H') : LFs B H' F nm kn L ar here n R :=
  ⟨e _ _ h.f, e _ _ h.nms, let ⟨kvs, h1, h2⟩ := h.kns; ⟨kvs, e _ _ h1, L2.Paired.mapP h2 fun _ _ z => z.same e⟩, h.rel, h.own, h.nd, h.bs.trans e⟩
theorem LFs.known {B H : Hp} {F nm kn : Addr} {L : AL} {ar : Option Nat} {here n R : Nat} (h : LFs B H F nm kn L ar here n R) : DGet H F (.str "known") (some (.ref kn)) := by
  have e : valV [((Sum.inr "names" : Key), V.ref nm), (Sum.inr "known", .ref kn), (Sum.inr "rounds", .int (R : Int))] (Sum.inr "known") = some (.ref kn) := by
    rw [valV_neg (show ¬ (Sum.inr ("names" : Str) : Key) = (Sum.inr ("known" : Str) : Key) by decide), valV_pos (show (Sum.inr ("known" : Str) : Key) = (Sum.inr ("known" : Str) : Key) from rfl)]
  rw [← e]
  exact DGet.k (k := Sum.inr "known") h.f
theorem LFs.names {B H : Hp} {F nm kn : Addr} {L : AL} {ar : Option Nat} {here n R : Nat} (h : LFs B H F nm kn L ar here n R) : DGet H F (.str "names") (some (.ref nm)) := by
  have e : valV [((Sum.inr "names" : Key), V.ref nm), (Sum.inr "known", .ref kn), (Sum.inr "rounds", .int (R : Int))] (Sum.inr "names") = some (.ref nm) := by
    rw [valV_pos (show (Sum.inr ("names" : Str) : Key) = (Sum.inr ("names" : Str) : Key) from rfl)]
  rw [← e]
  exact DGet.k (k := Sum.inr "names") h.f
theorem LFs.rounds {B H : Hp} {F nm kn : Addr} {L : AL} {ar : Option Nat} {here n R : Nat} (h : LFs B H F nm kn L ar here n R) : DGet H F (.str "rounds") (some (.int (R : Int))) := by
  have e : valV [((Sum.inr "names" : Key), V.ref nm), (Sum.inr "known", .ref kn), (Sum.inr "rounds", .int (R : Int))] (Sum.inr "rounds") = some (.int (R : Int)) := by
    rw [valV_neg (show ¬ (Sum.inr ("names" : Str) : Key) = (Sum.inr ("rounds" : Str) : Key) by decide), valV_neg (show ¬ (Sum.inr ("known" : Str) : Key) = (Sum.inr ("rounds" : Str) : Key) by decide), valV_pos (show (Sum.inr ("rounds" : Str) : Key) = (Sum.inr ("rounds" : Str) : Key) from rfl)]
  rw [← e]
  exact DGet.k (k := Sum.inr "rounds") h.f
theorem val_kn {B H : Hp} {ar : Option Nat} {here n R : Nat} {z : Str} : ∀ {M : AL} {kvs : List (Key × V)}, Paired (KnE B H ar here n R) kvs M → (∀ e ∈ M, e.1 ≠ z) → valV kvs (Sum.inr z) = none
  | _, _, .nil, _ => rfl
  | _, _, .cons (a := kv) (b := e) h t, k => by
    have e1 : ¬ kv.1 = Sum.inr z := by rw [h.1]; exact fun q => k e (List.mem_cons_self ..) (Sum.inr.inj q)
    rw [valV_neg e1]
    exact val_kn t fun e he => k e (List.mem_cons_of_mem _ he)
theorem look_cons {z : Str} {e : Str × Rw × Option Nat} {L : AL} : look (e :: L) z = if e.1 = z then some e.2 else look L z := by
  unfold look
  by_cases c : e.1 = z
  · rw [List.find?_cons, decide_eq_true c, if_pos c] <;> rfl
  · rw [List.find?_cons, decide_eq_false c, if_neg c]
theorem look_kn {B H : Hp} {ar : Option Nat} {here n R : Nat} (z : Str) : ∀ {L : AL} {kvs : List (Key × V)}, (L.map (·.1)).Nodup → Paired (KnE B H ar here n R) kvs (qL L) →
    (valV kvs (Sum.inr z) = none ∧ (∀ r a, look L z = some (r, a) → r.isQ = false)) ∨ ∃ t v h r a, valV kvs (Sum.inr z) = some (V.ref t) ∧ look L z = some (r, a) ∧ r.isQ = true ∧ H t = some (.tup [v, .int ((h : Nat) : Int)]) ∧ DR B v r ∧ Rl ar here n R a h
  | [], kvs, _, hp => by
    cases hp
    exact .inl ⟨rfl, fun r a h => by cases h⟩
  | e :: L, kvs, hd, hp => by
    rw [look_cons]
    have hd' : e.1 ∉ L.map (·.1) ∧ (L.map (·.1)).Nodup := by simpa using hd
    by_cases c : e.1 = z
    · rw [if_pos c]
      cases hq : e.2.1.isQ with
      | false =>
        have eq : qL (e :: L) = qL L := by unfold qL; rw [List.filter_cons]; simp [hq]
        rw [eq] at hp
        refine .inl ⟨val_kn hp fun e' he' z' => hd'.1 ?_, fun r a h => ?_⟩
        · have : e' ∈ L := (List.mem_filter.mp he').1
          rw [c, ← z']
          exact List.mem_map.mpr ⟨e', this, rfl⟩
        · have := Option.some.inj h
          rw [this] at hq
          exact hq
      | true =>
        have eq : qL (e :: L) = e :: qL L := by unfold qL; rw [List.filter_cons]; simp [hq]
        rw [eq] at hp
        cases hp with
        | cons h t =>
          obtain ⟨h1, t', v, hh, h2, h3, h4, h5⟩ := h
          exact .inr ⟨t', v, hh, e.2.1, e.2.2, by rw [valV_pos (by rw [h1, c]), h2], rfl, hq, h3, h4, h5⟩
    · rw [if_neg c]
      cases hq : e.2.1.isQ with
      | false =>
        have eq : qL (e :: L) = qL L := by unfold qL; rw [List.filter_cons]; simp [hq]
        rw [eq] at hp
        exact look_kn z hd'.2 hp
      | true =>
        have eq : qL (e :: L) = e :: qL L := by unfold qL; rw [List.filter_cons]; simp [hq]
        rw [eq] at hp
        cases hp with
        | @cons kv _ _ _ h t =>
          have e1 : ¬ kv.1 = Sum.inr z := by rw [h.1]; exact fun q => c (Sum.inr.inj q)
          rw [valV_neg e1]
          exact look_kn z hd'.2 t
theorem inV_two (h a b : Nat) : inV (.int (h : Int)) [.int (a : Int), .int (b : Int)] = decide (h = a ∨ h = b) := by
  show (((a : Int) == (h : Int)) || (((b : Int) == (h : Int)) || false)) = _
  by_cases c1 : h = a
  · subst c1; simp
  · by_cases c2 : h = b
    · subst c2; simp
    · simp [c1, c2, Ne.symm c1, Ne.symm c2]
      constructor <;> omega
def heardF (L : AL) (z : Str) (ar : Option Nat) : Option Flt := match quest L z ar with
  | .inl f => some f
  | .inr _ => none
theorem heard_inl {L : AL} {z : Str} {ar : Option Nat} {f : Flt} (h : quest L z ar = .inl f) : heardF L z ar = some f := by unfold heardF; rw [h]
theorem heard_inr {L : AL} {z : Str} {ar : Option Nat} {r : Rw} (h : quest L z ar = .inr r) : heardF L z ar = none := by unfold heardF; rw [h]
theorem quest_kn {L : AL} {z : Str} {ar : Option Nat} (h : ∀ r a, look L z = some (r, a) → r.isQ = false) : quest L z ar = .inl (.quest z) := by
  cases e : look L z with
  | none => exact quest_none e
  | some x => obtain ⟨r, a⟩ := x; exact quest_no e (h r a e)
def spHeard (K : PySem.W.Frag) : Sp := fun vs H Q _ => ∃ (B : Hp) (F nm kn : Addr) (z : Str) (L : AL) (ar : Option Nat) (here n R : Nat), vs = [.ref F, .str z, .int (here : Int)] ∧ LFs B H F nm kn L ar here n R ∧ ∀ v H', Same H H' → FV H' v (heardF L z ar) → Q v H'
section
variable {P : Program} {w : World} {K : PySem.W.Frag} {mg : Str → Option Value} {base : Heap}
theorem sc_heard : FnScope ["_law_f", "_law_name", "_law_here"] ["_law_f", "_law_name", "_law_here"] (defScope s__law_heard) := ⟨rfl, rfl, rfl, by decide +kernel, rfl, by decide +kernel, by decide +kernel⟩
theorem ok_heard (T : Tx K mg) : Ok P w K mg base 1 (He.ga K "_law_heard") ["_law_f", "_law_name", "_law_here"] (spHeard K) := by
  obtain ⟨fd, F⟩ := T.f__law_heard
  refine ⟨fd, F.ok (k := 0) sc_heard (fun vs H Q E h => ?_) (fun cdv A outer s H vs Q E hr h => ?_), F.bindsN fun _ _ _ _ _ _ us hl => match us, hl with | [_, _, _], _ => rfl, F.kp⟩
  · obtain ⟨B, F, nm, kn, z, L, ar, here, n, R, rfl, _⟩ := h
    rfl
  obtain ⟨B, F, nm, kn, z, L, ar, here, n, R, rfl, hL, q⟩ := h
  refine ⟨_, pss_cons (ps_if (pw_or (pt_cmp (pc_dnotin (hu_of hr) (pv 1) (pe_dget (hu_of hr) (pv 0) pe_str (fun _ _ => rfl)))) (pw_or1 (pt_cmpR op_notIn_seq (pe_ix ix_tup (pe_dget (hu_of hr) (pe_dget (hu_of hr) (pv 0) pe_str (fun _ _ => rfl)) (pv 1) (fun _ _ => rfl)) pe_int (fun _ _ => rfl)) (pe_lst (pa_cons pe_int (pa_cons (pv 2) pa_nil))) (by rfl)))).pt (pss_one (ps_ret (pe_tup (pa_cons pe_str (pa_cons (pv 1) pa_nil))))) pss_nil)
      (pss_one (ps_ret pe_non)), ?_⟩
  obtain ⟨kvs, hkn, hp⟩ := hL.kns
  walk_at "go"
  refine ⟨_, rfl, _, rfl, F, _, rfl, hL.known, kn, _, rfl, DGet.k (k := Sum.inr z) hkn, ?_⟩
  rcases look_kn z hL.nd hp with ⟨h1, h2⟩ | ⟨t, v, h, r, a, h1, h2, hq, ht, hdr, hr'⟩
  · rw [h1]
    walk_at "go"
    show if true = true then _ else _
    walk_at "go"
    refine ⟨(by show 2 ≤ sizeLine; decide), fun p hp2 => ?_⟩
    exact q _ _ (Same.new hp2 _) (by rw [heard_inl (quest_kn h2)]; exact ⟨p, rfl, upd_same⟩)
  · rw [h1]
    walk_at "go"
    show if false = true then _ else _
    walk_at "go"
    refine ⟨_, rfl, F, _, rfl, hL.known, _, rfl, kn, _, rfl, (by rw [← h1]; exact DGet.k (k := Sum.inr z) hkn), ?_⟩
    walk_at "go"
    refine w_ixT (SqT.of ht) rfl ?_
    walk_at "go"
    refine ⟨(by show 2 ≤ sizeLine; decide), fun p hp2 => ?_⟩
    refine ⟨p, _, rfl, .inl (SqL.of upd_same), rfl, rfl, ?_⟩
    have e1 := Same.new hp2 (.lst [V.int 0, .int (here : Int)])
    walk_at "go"
    rw [show inV (.int (h : Int)) [V.int 0, .int (here : Int)] = decide (h = 0 ∨ h = here) from inV_two h 0 here]
    by_cases c : h = 0 ∨ h = here
    · rw [decide_eq_true c]
      walk_at "go"
      refine q _ _ e1 (by rw [heard_inr (quest_ok h2 hq (fun z => c.elim (fun z2 => z.1 (hr'.1.mpr z2)) fun z2 => z.2 (hr'.2.1.mpr z2)))]; rfl)
    · rw [decide_eq_false c]
      walk_at "go"
      refine ⟨(by show 2 ≤ sizeLine; decide), fun p3 hp3 => ?_⟩
      exact q _ _ (e1.trans (Same.new hp3 _)) (by rw [heard_inl (quest_far h2 hq ⟨fun z => c (.inl (hr'.1.mp z)), fun z => c (.inr (hr'.2.1.mp z))⟩)]; exact ⟨p3, rfl, upd_same⟩)
end
end K3
end L17_part
section L18_part
set_option Elab.async false
set_option linter.all false
set_option maxRecDepth 100000
set_option maxHeartbeats 1000000
set_option pp.deepTerms.threshold 5
open PySem PySem.Spec PyProof.Rows L2
/-- go on as far as nothing is open -/
local macro_rules | `(tactic| walk_at "go") => `(tactic| repeat (first
  | with_reducible refine w_seq ?_ | with_reducible refine w_next ?_ | with_reducible refine w_set ?_ | with_reducible refine w_drop ?_ | with_reducible refine w_ret ?_ | with_reducible refine w_retN ?_
  | with_reducible refine w_if ?_ | ((with_reducible refine' w_var ?hv ?_); (case hv => exact rfl)) | with_reducible refine w_c ?_ | with_reducible refine w_nil ?_ | with_reducible refine w_cons ?_ | with_reducible refine w_op ?_ | with_reducible refine w_un ?_
  | with_reducible refine w_test ?_ | with_reducible refine w_tB ?_ | with_reducible refine w_not ?_ | with_reducible refine w_and ?_ | with_reducible refine w_or ?_ | with_reducible refine w_bl ?_
  | with_reducible refine w_andV ?_ | with_reducible refine w_orV ?_ | with_reducible refine w_notV ?_ | with_reducible refine w_ifE ?_ | with_reducible refine w_chain ?_ | with_reducible refine w_i0 ?_
  | with_reducible refine w_call ?_ | with_reducible refine w_callS ?_ | with_reducible refine w_cB ?_ | with_reducible refine w_tup ?_ | with_reducible refine w_lst ?_ | with_reducible refine w_fldV ?_
  | with_reducible refine w_neF ?_ | with_reducible refine w_neT ?_ | with_reducible refine w_notN ?_ | with_reducible refine w_isN ?_ | with_reducible refine w_gname ?_ | with_reducible refine w_gsub ?_ | with_reducible refine w_asg ?_ | with_reducible refine w_sl ?_ | with_reducible refine w_noP ?_ | with_reducible refine w_int1 ?_ | with_reducible refine w_part ?_ | with_reducible refine w_yes ?_ | with_reducible refine w_nT ?_ | with_reducible refine w_nF ?_ | with_reducible refine w_iteT ?_ | with_reducible refine w_iteF ?_))
namespace K3
theorem ckConds_app (L : AL) (ar : Option Nat) : ∀ xs ys : List Cd, ckConds L ar (xs ++ ys) = thenF (ckConds L ar xs) (ckConds L ar ys)
  | [], ys => rfl
  | c :: xs, ys => by
    show thenF (ckCond L ar c) (ckConds L ar (xs ++ ys)) = thenF (thenF (ckCond L ar c) (ckConds L ar xs)) (ckConds L ar ys)
    rw [ckConds_app L ar xs ys]
    cases ckCond L ar c <;> rfl
theorem look_mem {L : AL} {z : Str} {r : Rw} {a : Option Nat} (h : look L z = some (r, a)) : ∃ e ∈ L, e.1 = z ∧ e.2 = (r, a) := by
  unfold look at h
  cases e : L.find? fun e => decide (e.1 = z) with
  | none => rw [e] at h; cases h
  | some x =>
    rw [e] at h
    exact ⟨x, List.mem_of_find?_eq_some e, of_decide_eq_true (List.find?_some (p := fun e : Str × Rw × Option Nat => decide (e.1 = z)) e), Option.some.inj h⟩
theorem w_sNe {a b : Str} {H : Hp} {Q : VK} (k : Bool) (hk : (!decide (V.str a = V.str b)) = k) (h : Q (.bl k) H) : rNe (.str a) (.str b) H Q := ⟨rfl, by rw [hk]; exact h⟩
/-- what is known of a name that is heard -/
theorem heard_kn {B H : Hp} {F nm kn : Addr} {L : AL} {ar : Option Nat} {here n R : Nat} (h : LFs B H F nm kn L ar here n R) {z : Str} (hh : heardF L z ar = none) :
    ∃ kvs t v k r, H kn = some (.dK kvs) ∧ valV kvs (Sum.inr z) = some (V.ref t) ∧ H t = some (.tup [v, .int ((k : Nat) : Int)]) ∧ DR B v r ∧ quest L z ar = .inr r ∧ r.isQ = true ∧ r.name = z := by
  obtain ⟨kvs, hkn, hp⟩ := h.kns
  rcases look_kn z h.nd hp with ⟨h1, h2⟩ | ⟨t, v, k, r, a, h1, h2, hq, ht, hdr, hr'⟩
  · rw [heard_inl (quest_kn h2)] at hh
    cases hh
  · by_cases c : a ≠ none ∧ a ≠ ar
    · rw [heard_inl (quest_far h2 hq c)] at hh
      cases hh
    · obtain ⟨e, he, e1, e2⟩ := look_mem h2
      exact ⟨kvs, t, v, k, r, hkn, h1, ht, hdr, quest_ok h2 hq c, hq, by have := (h.own e he).1; rw [e2, e1] at this; exact this⟩
def spCondsA (K : PySem.W.Frag) (n : Nat) : Sp := fun vs H Q _ => ∃ (B : Hp) (F nm kn lc : Addr) (ws : List V) (cs : List (Option Cd)) (L : AL) (ar : Option Nat) (here m R : Nat), vs = [.ref F, .ref lc, .int (here : Int)] ∧ LFs B H F nm kn L ar here m R ∧ H lc = some (.lst ws) ∧ Paired (DW H) ws cs ∧ (∀ c ∈ cs, odep c < n ∧ (owh c).length ≤ 1000) ∧ ∀ v H', Same H H' → FV H' v (ckConds L ar (cs.flatMap owh)) → Q v H'
section
variable {P : Program} {w : World} {K : PySem.W.Frag} {mg : Str → Option Value} {base : Heap}
theorem sc_condsA : FnScope ["_law_f", "_law_conds", "_law_here", "_law_cond", "_law_name", "_law_kind", "_law_option", "_law_fault", "_law_row"] ["_law_f", "_law_conds", "_law_here"] (defScope s__law_conditions_amiss) := ⟨rfl, rfl, rfl, by decide +kernel, rfl, by decide +kernel, by decide +kernel⟩
theorem ok_condsA (T : Tx K mg) (n : Nat) : Ok P w K mg base (n + 2) (He.ga K "_law_conditions_amiss") ["_law_f", "_law_conds", "_law_here"] (spCondsA K n) := by
  obtain ⟨fd, F⟩ := T.f__law_conditions_amiss
  refine ⟨fd, F.ok (k := n + 1) sc_condsA (fun vs H Q E h => ?_) (fun cdv A outer s H vs Q E hr h => ?_), F.bindsN fun _ _ _ _ _ _ us hl => match us, hl with | [_, _, _], _ => rfl, F.kp⟩
  · obtain ⟨B, F, nm, kn, lc, ws, cs, L, ar, here, m, R, rfl, _⟩ := h
    rfl
  obtain ⟨B, F, nm, kn, lc, ws, cs, L, ar, here, m, R, rfl, hL, hlc, hws, hcs, q⟩ := h
  refine ⟨_, pss_cons (ps_for (passes_of rfl) rfl (pi_list (pv 1)) (pg_name (i := 3) sc_condsA.nd rfl (Or.inl rfl)) (pss_one (ps_for (passes_of rfl) rfl (pi_list (pe_f (ok_spoken T n) (hr.mono (by omega)) T.g__law_spoken (pa_cons (pv 3) pa_nil))) (pg_tup rfl (pgs_cons (pg_name (i := 4) sc_condsA.nd rfl (Or.inl rfl)) (pgs_cons (pg_name (i := 5) sc_condsA.nd rfl (Or.inl rfl)) (pgs_cons (pg_name (i := 6) sc_condsA.nd rfl (Or.inl rfl)) pgs_nil)))) (pss_cons (ps_set (i := 7) sc_condsA.nd rfl (Or.inl rfl) (pe_f (ok_heard T) (hr.mono (by omega)) T.g__law_heard (pa_cons (pv 0) (pa_cons (pv 4) (pa_cons (pv 2) pa_nil)))))
      (pss_cons (ps_if (pt_cmp (pc_notN (pv 7))) (pss_one (ps_ret (pv 7))) pss_nil)
      (pss_cons (ps_set (i := 8) sc_condsA.nd rfl (Or.inl rfl) (pe_ix ix_tup (pe_dget (hu_of hr) (pe_dget (hu_of hr) (pv 0) pe_str (fun _ _ => rfl)) (pv 4) (fun _ _ => rfl)) pe_int (fun _ _ => rfl)))
      (pss_one (ps_if (pw_or (pt_cmpR op_ne (pe_ix ix_tup (pv 8) pe_int (fun _ _ => rfl)) (pv 5) (nomark _)) (pw_or1 (pw_and (pt_cmpR op_ne (pv 5) pe_str (nomark _)) (pw_and1 (pt_cmpR op_notIn_seq (pv 6) (pe_ix ix_tup (pv 8) pe_int (fun _ _ => rfl)) (by rfl)))).pt)).pt (pss_one (ps_ret (pe_tup (pa_cons pe_str (pa_cons (pv 4) pa_nil))))) pss_nil))))))))
      (pss_one (ps_ret pe_non)), ?_⟩
  walk_at "go"
  refine ⟨_, rfl, lc, rfl, ⟨_, SqL.of hlc⟩, ?_⟩
  have lw := hws.length
  refine for_list (K := K) (a := lc) (xs := ws) (fun (i : Nat) σ H' => ∃ o3 o4 o5 o6 o7 o8 : Option V, σ = [some (.ref F), some (.ref lc), some (.int (here : Int)), o3, o4, o5, o6, o7, o8] ∧ Same H H' ∧ ckConds L ar ((cs.take i).flatMap owh) = none)
    ⟨none, none, none, none, none, none, rfl, Same.refl _, rfl⟩ (fun i σ H' _ ⟨_, _, _, _, _, _, _, e, _⟩ => SqL.of (e _ _ hlc)) ?_ ?_
  · rintro i x σ H1 hxi ⟨o3, o4, o5, o6, o7, o8, rfl, e1, hck⟩
    obtain ⟨c, hci, hdw⟩ := K3.Paired.get hws hxi
    have hcm := hcs c (List.mem_of_getElem? hci)
    have htk : (cs.take (i + 1)).flatMap owh = (cs.take i).flatMap owh ++ owh c := by
      rw [List.take_add_one, hci, List.flatMap_append]
      simp
    have hfull : ∀ f, ckConds L ar (owh c) = some f → ckConds L ar (cs.flatMap owh) = some f := fun f hf => by
      have e : cs.flatMap owh = (cs.take (i + 1)).flatMap owh ++ (cs.drop (i + 1)).flatMap owh := by rw [← List.flatMap_append, List.take_append_drop]
      rw [e, htk, ckConds_app, ckConds_app, hck, hf]
      rfl
    walk_at "go"
    refine ⟨_, rfl, x, c, rfl, hdw.same e1, hcm.1, hcm.2, fun p H2 ys e2 hp hy => ?_⟩
    refine ⟨p, rfl, ⟨_, SqL.of hp⟩, ?_⟩
    have ly := hy.length
    refine for_list (K := K) (a := p) (xs := ys) (fun (j : Nat) σ H' => ∃ o4 o5 o6 o7 o8 : Option V, σ = [some (.ref F), some (.ref lc), some (.int (here : Int)), some x, o4, o5, o6, o7, o8] ∧ Same H2 H' ∧ ckConds L ar ((owh c).take j) = none)
      ⟨o4, o5, o6, o7, o8, rfl, Same.refl _, rfl⟩ (fun i σ H' _ ⟨_, _, _, _, _, _, e, _⟩ => SqL.of (e _ _ hp)) ?_ ?_
    · rintro j y σ H3 hyj ⟨o4, o5, o6, o7, o8, rfl, e3, hckj⟩
      obtain ⟨d, hdj, t, rfl, ht⟩ := K3.Paired.get hy hyj
      have ht3 := e3 _ _ ht
      have hsim : d.isS = true := by
        cases c with
        | none => simp [owh] at hdj
        | some c => exact simp_isS c d (List.mem_of_getElem? hdj)
      have step := ckConds_take L ar hdj hckj
      generalize hkd : kdC d = kd at ht3
      generalize hov : optC d = ov at ht3
      refine ⟨t, _, rfl, SqT.of ht3, rfl, _, _, rfl, _, _, rfl, _, _, rfl, rfl, ?_⟩
      walk_at "go"
      have e13 := e1.trans (e2.trans e3)
      refine ⟨B, F, nm, kn, d.name, L, ar, here, m, R, rfl, hL.same e13, fun v H4 e4 hv => ?_⟩
      have e14 := e13.trans e4
      have hL4 := hL.same e14
      walk_at "go"
      cases hh : heardF L d.name ar with
      | some f =>
        rw [hh] at hv
        have hck1 : ckCond L ar d = some f := by
          unfold ckCond
          unfold heardF at hh
          cases e : quest L d.name ar with
          | inl g => rw [e] at hh; exact hh
          | inr r => rw [e] at hh; cases hh
        have hfin := hfull f (step.2 f hck1)
        obtain ⟨t4, rfl, ht4⟩ := hv
        rw [show (!decide (V.ref t4 = V.non)) = true from rfl]
        walk_at "go"
        exact q _ _ e14 (by rw [hfin]; exact ⟨t4, rfl, ht4⟩)
      | none =>
        rw [hh] at hv
        have hv : v = .non := hv
        subst hv
        rw [show (!decide (V.non = V.non)) = false from rfl]
        walk_at "go"
        obtain ⟨kvs, t5, rv, k5, r, hkn, h1, ht5, hdr, hqu, hq, hrn⟩ := heard_kn hL4 hh
        have cc : ckCond L ar d = if suitsB d r then none else some (.fit d.name) := by
          unfold ckCond
          rw [hqu]
          show (if suitsB d r then none else some (Flt.fit r.name)) = _
          rw [hrn]
        have fine : suitsB d r = true → ckConds L ar ((owh c).take (j + 1)) = none := fun z => step.1 (by rw [cc, z]; rfl)
        have bad : suitsB d r = false → ∀ p9, H4 p9 = none → Q (.ref p9) (upd H4 p9 (.tup [.str "fit", .str d.name])) := fun z p9 hp9 =>
          q _ _ (e14.trans (Same.new hp9 _)) (by rw [hfull (.fit d.name) (step.2 _ (by rw [cc, z]; rfl))]; exact ⟨p9, rfl, upd_same⟩)
        refine ⟨_, rfl, F, _, rfl, hL4.known, _, rfl, kn, _, rfl, (by rw [← h1]; exact DGet.k (k := Sum.inr d.name) hkn), ?_⟩
        walk_at "go"
        (refine w_ixT (SqT.of ht5) rfl ?_; walk_at "go")
        have e24 := e3.trans e4
        cases hdr with
        | @one t6 l n os w6 wv h hl hw =>
          have h6 := hL4.bs _ _ h
          have hl6 := hL4.bs _ _ hl
          (refine w_ixT (SqT.of h6) rfl ?_; walk_at "go")
          cases d with
          | is z o =>
            have hkd : ("one" : Str) = kd := hkd
            subst hkd
            have hov : V.str o = ov := hov
            subst hov
            (refine w_sNe false (by decide +kernel) ?_; walk_at "go")
            (refine w_sNe true (by decide +kernel) ?_; walk_at "go")
            (refine w_ixT (SqT.of h6) rfl ?_; walk_at "go")
            refine ⟨l, _, rfl, .inl (SqL.of hl6), rfl, flat_strs os, ?_⟩
            walk_at "go"
            rw [inV_strs]
            by_cases c9 : o ∈ os
            · rw [decide_eq_true c9]
              walk_at "go"
              exact ⟨_, _, _, _, _, rfl, e24, fine (decide_eq_true c9)⟩
            · rw [decide_eq_false c9]
              walk_at "go"
              refine ⟨(by show 2 ≤ sizeLine; decide), fun p9 hp9 => ?_⟩
              exact bad (decide_eq_false c9) p9 hp9
          | has z o =>
            have hkd : ("some" : Str) = kd := hkd
            subst hkd
            ((refine w_sNe true (by decide +kernel) ?_; walk_at "go"); refine ⟨(by show 2 ≤ sizeLine; decide), fun p9 hp9 => ?_⟩; exact bad rfl p9 hp9)
          | over z o =>
            have hkd : ("number" : Str) = kd := hkd
            subst hkd
            ((refine w_sNe true (by decide +kernel) ?_; walk_at "go"); refine ⟨(by show 2 ≤ sizeLine; decide), fun p9 hp9 => ?_⟩; exact bad rfl p9 hp9)
          | under z o =>
            have hkd : ("number" : Str) = kd := hkd
            subst hkd
            ((refine w_sNe true (by decide +kernel) ?_; walk_at "go"); refine ⟨(by show 2 ≤ sizeLine; decide), fun p9 hp9 => ?_⟩; exact bad rfl p9 hp9)
          | _ => cases hsim
        | @some t6 l n os w6 wv h hl hw =>
          have h6 := hL4.bs _ _ h
          have hl6 := hL4.bs _ _ hl
          (refine w_ixT (SqT.of h6) rfl ?_; walk_at "go")
          cases d with
          | has z o =>
            have hkd : ("some" : Str) = kd := hkd
            subst hkd
            have hov : V.str o = ov := hov
            subst hov
            (refine w_sNe false (by decide +kernel) ?_; walk_at "go")
            (refine w_sNe true (by decide +kernel) ?_; walk_at "go")
            (refine w_ixT (SqT.of h6) rfl ?_; walk_at "go")
            refine ⟨l, _, rfl, .inl (SqL.of hl6), rfl, flat_strs os, ?_⟩
            walk_at "go"
            rw [inV_strs]
            by_cases c9 : o ∈ os
            · rw [decide_eq_true c9]
              walk_at "go"
              exact ⟨_, _, _, _, _, rfl, e24, fine (decide_eq_true c9)⟩
            · rw [decide_eq_false c9]
              walk_at "go"
              refine ⟨(by show 2 ≤ sizeLine; decide), fun p9 hp9 => ?_⟩
              exact bad (decide_eq_false c9) p9 hp9
          | is z o =>
            have hkd : ("one" : Str) = kd := hkd
            subst hkd
            ((refine w_sNe true (by decide +kernel) ?_; walk_at "go"); refine ⟨(by show 2 ≤ sizeLine; decide), fun p9 hp9 => ?_⟩; exact bad rfl p9 hp9)
          | over z o =>
            have hkd : ("number" : Str) = kd := hkd
            subst hkd
            ((refine w_sNe true (by decide +kernel) ?_; walk_at "go"); refine ⟨(by show 2 ≤ sizeLine; decide), fun p9 hp9 => ?_⟩; exact bad rfl p9 hp9)
          | under z o =>
            have hkd : ("number" : Str) = kd := hkd
            subst hkd
            ((refine w_sNe true (by decide +kernel) ?_; walk_at "go"); refine ⟨(by show 2 ≤ sizeLine; decide), fun p9 hp9 => ?_⟩; exact bad rfl p9 hp9)
          | _ => cases hsim
        | @number t6 n lo hi w6 wv h hw =>
          have h6 := hL4.bs _ _ h
          (refine w_ixT (SqT.of h6) rfl ?_; walk_at "go")
          cases d with
          | has z o =>
            have hkd : ("some" : Str) = kd := hkd
            subst hkd
            ((refine w_sNe true (by decide +kernel) ?_; walk_at "go"); refine ⟨(by show 2 ≤ sizeLine; decide), fun p9 hp9 => ?_⟩; exact bad rfl p9 hp9)
          | is z o =>
            have hkd : ("one" : Str) = kd := hkd
            subst hkd
            ((refine w_sNe true (by decide +kernel) ?_; walk_at "go"); refine ⟨(by show 2 ≤ sizeLine; decide), fun p9 hp9 => ?_⟩; exact bad rfl p9 hp9)
          | over z o =>
            have hkd : ("number" : Str) = kd := hkd
            subst hkd
            (refine w_sNe false (by decide +kernel) ?_; walk_at "go")
            (refine w_sNe false (by decide +kernel) ?_; walk_at "go")
            exact ⟨_, _, _, _, _, rfl, e24, fine rfl⟩
          | under z o =>
            have hkd : ("number" : Str) = kd := hkd
            subst hkd
            (refine w_sNe false (by decide +kernel) ?_; walk_at "go")
            (refine w_sNe false (by decide +kernel) ?_; walk_at "go")
            exact ⟨_, _, _, _, _, rfl, e24, fine rfl⟩
          | _ => cases hsim
        | check _ _ _ => cases hq
        | sect _ _ _ _ => cases hq
        | rounds _ _ _ _ => cases hq
    · rintro σ H3 ⟨o4, o5, o6, o7, o8, rfl, e3, hckj⟩
      rw [ly, List.take_length] at hckj
      exact ⟨_, _, _, _, _, _, rfl, e1.trans (e2.trans e3), by rw [htk, ckConds_app, hck, hckj]; rfl⟩
  · rintro σ H1 ⟨o3, o4, o5, o6, o7, o8, rfl, e1, hck⟩
    rw [lw, List.take_length] at hck
    walk_at "go"
    exact q _ _ e1 (by rw [hck]; rfl)
end
end K3
end L18_part
section L19_part
set_option Elab.async false
set_option linter.all false
set_option maxRecDepth 100000
set_option maxHeartbeats 1000000
set_option pp.deepTerms.threshold 5
open PySem PySem.Spec PyProof.Rows L2
/-- go on as far as nothing is open -/
local macro_rules | `(tactic| walk_at "go") => `(tactic| repeat (first
  | with_reducible refine w_seq ?_ | with_reducible refine w_next ?_ | with_reducible refine w_set ?_ | with_reducible refine w_drop ?_ | with_reducible refine w_ret ?_ | with_reducible refine w_retN ?_
  | with_reducible refine w_if ?_ | ((with_reducible refine' w_var ?hv ?_); (case hv => exact rfl)) | with_reducible refine w_c ?_ | with_reducible refine w_nil ?_ | with_reducible refine w_cons ?_ | with_reducible refine w_op ?_ | with_reducible refine w_un ?_
  | with_reducible refine w_test ?_ | with_reducible refine w_tB ?_ | with_reducible refine w_not ?_ | with_reducible refine w_and ?_ | with_reducible refine w_or ?_ | with_reducible refine w_bl ?_
  | with_reducible refine w_andV ?_ | with_reducible refine w_orV ?_ | with_reducible refine w_notV ?_ | with_reducible refine w_ifE ?_ | with_reducible refine w_chain ?_ | with_reducible refine w_i0 ?_
  | with_reducible refine w_call ?_ | with_reducible refine w_callS ?_ | with_reducible refine w_cB ?_ | with_reducible refine w_tup ?_ | with_reducible refine w_lst ?_ | with_reducible refine w_fldV ?_
  | with_reducible refine w_neF ?_ | with_reducible refine w_neT ?_ | with_reducible refine w_notN ?_ | with_reducible refine w_isN ?_ | with_reducible refine w_gname ?_ | with_reducible refine w_gsub ?_ | with_reducible refine w_asg ?_ | with_reducible refine w_sl ?_ | with_reducible refine w_noP ?_ | with_reducible refine w_int1 ?_ | with_reducible refine w_part ?_ | with_reducible refine w_yes ?_ | with_reducible refine w_nT ?_ | with_reducible refine w_nF ?_ | with_reducible refine w_iteT ?_ | with_reducible refine w_iteF ?_))
namespace K3
def fieldsF (L : AL) (r : Rw) (ar : Option Nat) : Option Flt := thenF (ckName L r) (thenF (ckOpt r) (thenF (ckBound r) (thenF (ckInner r ar) (ckCount L r ar))))
theorem fields_sect (L : AL) (rs : List Rw) (w : Option Cd) (ar : Option Nat) : fieldsF L (.sect rs w) ar = if rs.length = 0 then some (.count "rows" 0) else none := by
  show thenF (if rs.length = 0 then some (Flt.count "rows" 0) else none) none = _
  rw [thenF_none]
theorem fields_rounds (L : AL) (n : Str) (rs : List Rw) (w : Option Cd) (ar : Option Nat) : fieldsF L (.rounds n rs w) ar = if rs.length = 0 then some (.count "rows" 0) else if ar = none then ckCount L (.rounds n rs w) ar else some (.count "rounds" 2) := by
  show thenF (if rs.length = 0 then some (Flt.count "rows" 0) else if ar = none then none else some (.count "rounds" 2)) (ckCount L (.rounds n rs w) ar) = _
  by_cases c : rs.length = 0
  · rw [if_pos c, if_pos c]; rfl
  · rw [if_neg c, if_neg c]
    by_cases c2 : ar = none
    · rw [if_pos c2, if_pos c2]; rfl
    · rw [if_neg c2, if_neg c2]; rfl
theorem fields_check (L : AL) (n : Str) (m : Cd) (w : Option Cd) (ar : Option Nat) : fieldsF L (.check n m w) ar = ckName L (.check n m w) := by
  show thenF (ckName L (.check n m w)) none = _
  rw [thenF_none]
theorem fields_number (L : AL) (n : Str) (lo hi : Int) (w : Option Cd) (ar : Option Nat) : fieldsF L (.number n lo hi w) ar = thenF (ckName L (.number n lo hi w)) (if hi < lo then some (.count "bounds" hi) else none) := by
  show thenF _ (thenF (if hi < lo then some (Flt.count "bounds" hi) else none) none) = _
  rw [thenF_none]
theorem fields_one (L : AL) (n : Str) (os : List Str) (w : Option Cd) (ar : Option Nat) : fieldsF L (.one n os w) ar = thenF (ckName L (.one n os w)) (optF os 6) := by
  show thenF _ (thenF (optF os 6) none) = _
  rw [thenF_none]
theorem fields_some (L : AL) (n : Str) (os : List Str) (w : Option Cd) (ar : Option Nat) : fieldsF L (.some n os w) ar = thenF (ckName L (.some n os w)) (optF os 4) := by
  show thenF _ (thenF (optF os 4) none) = _
  rw [thenF_none]
theorem look_isSome (z : Str) : ∀ L : AL, (look L z).isSome = decide (z ∈ L.map (·.1))
  | [] => rfl
  | e :: L => by
    rw [look_cons, List.map_cons]
    by_cases c : e.1 = z
    · rw [if_pos c, decide_eq_true (by rw [c]; exact List.mem_cons_self ..)] <;> rfl
    · rw [if_neg c, look_isSome z L]
      by_cases c2 : z ∈ L.map (·.1)
      · rw [decide_eq_true c2, decide_eq_true (List.mem_cons_of_mem _ c2)]
      · rw [decide_eq_false c2, decide_eq_false (fun h => (List.mem_cons.mp h).elim (fun h => c h.symm) c2)]
/-- a row with a name -/
theorem dr_named {H : Hp} {v : V} {r : Rw} (L : AL) (ar : Option Nat) (h : DR H v r) (hn : r.isN = true) : ∃ (t : Addr) (kd : Str) (rest : List V), v = V.ref t ∧ H t = some (.tup (.str kd :: .str r.name :: rest)) ∧ inV (.str kd) [.str "section", .str "rounds"] = false ∧
    ((∃ lo hi wv, kd = "number" ∧ rest = [.int lo, .int hi, wv] ∧ fieldsF L r ar = thenF (ckName L r) (if hi < lo then some (.count "bounds" hi) else none)) ∨ (kd = "check" ∧ fieldsF L r ar = ckName L r) ∨
      (∃ l os wv most, (kd = "one" ∧ most = 6 ∨ kd = "some" ∧ most = 4) ∧ rest = [.ref l, wv] ∧ H l = some (.lst (os.map V.str)) ∧ os = r.opts ∧ fieldsF L r ar = thenF (ckName L r) (optF os most))) := by
  cases h with
  | one h hl _ => exact ⟨_, _, _, rfl, h, by decide +kernel, .inr (.inr ⟨_, _, _, 6, .inl ⟨rfl, rfl⟩, rfl, hl, rfl, fields_one ..⟩)⟩
  | some h hl _ => exact ⟨_, _, _, rfl, h, by decide +kernel, .inr (.inr ⟨_, _, _, 4, .inr ⟨rfl, rfl⟩, rfl, hl, rfl, fields_some ..⟩)⟩
  | number h _ => exact ⟨_, _, _, rfl, h, by decide +kernel, .inl ⟨_, _, _, rfl, rfl, fields_number ..⟩⟩
  | check h _ _ => exact ⟨_, _, _, rfl, h, by decide +kernel, .inr (.inl ⟨rfl, fields_check ..⟩)⟩
  | sect _ _ _ _ => cases hn
  | rounds _ _ _ _ => cases hn
def spFieldsA (K : PySem.W.Frag) : Sp := fun vs H Q _ => ∃ (n : Nat) (B : Hp) (F nm kn : Addr) (v : V) (r : Rw) (L : AL) (ar : Option Nat) (here m R : Nat), vs = [.ref F, v, .int (here : Int)] ∧ LFs B H F nm kn L ar here m R ∧ DR H v r ∧ RwB n r ∧ ∀ v' H', Same H H' → FV H' v' (fieldsF L r ar) → Q v' H'
/-- the first that is no name, found so far -/
def Bad1 (H : Hp) (os : List Str) (i : Nat) (acc : List V) : Prop := (acc = [] ∧ namesF (os.take i) = none) ∨ ∃ t z rest, acc = V.ref t :: rest ∧ H t = some (.tup [.str "name", .str z]) ∧ namesF os = some (.name z)
def Bad2 (H : Hp) (os : List Str) (i : Nat) (acc : List V) : Prop := (acc = [] ∧ dupOf [] (os.take i) = none) ∨ ∃ t z rest, acc = V.ref t :: rest ∧ H t = some (.tup [.str "twice", .str z]) ∧ dupOf [] os = some z
theorem Bad1.same {H H' : Hp} (e : Same H H') {os : List Str} {i : Nat} {acc : List V} (h : Bad1 H os i acc) : Bad1 H' os i acc := h.imp id fun ⟨t, z, rest, h1, h2, h3⟩ => ⟨t, z, rest, h1, e _ _ h2, h3⟩
theorem Bad2.same {H H' : Hp} (e : Same H H') {os : List Str} {i : Nat} {acc : List V} (h : Bad2 H os i acc) : Bad2 H' os i acc := h.imp id fun ⟨t, z, rest, h1, h2, h3⟩ => ⟨t, z, rest, h1, e _ _ h2, h3⟩
theorem Bad1.next {H : Hp} {os : List Str} {i : Nat} {acc : List V} {x : Str} (h : Bad1 H os i acc) (hx : os[i]? = some x) (hn : isName x = true) : Bad1 H os (i + 1) acc := h.imp (fun ⟨h1, h2⟩ => ⟨h1, (namesF_take hx h2).1 (by unfold nameF; rw [hn] <;> rfl)⟩) id
theorem Bad1.add {H : Hp} {os : List Str} {i : Nat} {acc : List V} {x : Str} {t : Addr} (h : Bad1 H os i acc) (hx : os[i]? = some x) (hn : isName x = false) (ht : H t = some (.tup [.str "name", .str x])) : Bad1 H os (i + 1) (acc ++ [V.ref t]) := by
  rcases h with ⟨rfl, h2⟩ | ⟨t', z, rest, rfl, h2, h3⟩
  · exact .inr ⟨t, x, [], rfl, ht, (namesF_take hx h2).2 _ (by unfold nameF; rw [hn] <;> rfl)⟩
  · exact .inr ⟨t', z, rest ++ [V.ref t], rfl, h2, h3⟩
theorem Bad2.next {H : Hp} {os : List Str} {i : Nat} {acc : List V} {x : Str} (h : Bad2 H os i acc) (hx : os[i]? = some x) (hn : x ∉ os.take i) : Bad2 H os (i + 1) acc := h.imp (fun ⟨h1, h2⟩ => ⟨h1, (dupOf_take hx h2).2 (by simpa using hn)⟩) id
theorem Bad2.add {H : Hp} {os : List Str} {i : Nat} {acc : List V} {x : Str} {t : Addr} (h : Bad2 H os i acc) (hx : os[i]? = some x) (hn : x ∈ os.take i) (ht : H t = some (.tup [.str "twice", .str x])) : Bad2 H os (i + 1) (acc ++ [V.ref t]) := by
  rcases h with ⟨rfl, h2⟩ | ⟨t', z, rest, rfl, h2, h3⟩
  · exact .inr ⟨t, x, [], rfl, ht, (dupOf_take hx h2).1 (by simpa using hn)⟩
  · exact .inr ⟨t', z, rest ++ [V.ref t], rfl, h2, h3⟩
theorem lc_open {wi : TI} {g : TG} {tt : TT} {te : TE} {vs : List Nat} {σ : L2.St} {H : Hp} {Q : VK} (h : wi σ H fun J H1 => ∀ D, H1 D = none → ∃ W : Nat → Nat → Hp → Prop, (∃ m, W 0 m (upd H1 D (.lst []))) ∧ ∀ i m H, W i m H →
    (J.stop i H ∧ Q (.ref D) H) ∨ (J.go i H ∧ ∃ Nx : Hp → Prop, (∀ H', Nx H' → ∃ m', m' < m ∧ W (i + 1) m' H') ∧ ∀ x H', J.yld i H x H' → g x (wipe σ vs) H' fun σ2 H2 => wipe σ2 vs = wipe σ vs ∧ tt σ2 H2 fun b H3 =>
      if b = true then te σ2 H3 fun y H4 => ∃ acc, H4 D = some (.lst acc) ∧ acc.length < sizeLine ∧ Nx (upd H4 D (.lst (acc ++ [y]))) else Nx H3)) : tLc wi g tt te vs σ H Q := h
theorem enum_open {K : PySem.W.Frag} {ta : TA} {σ : L2.St} {H : Hp} {R : It → Hp → Prop} (h : ta σ H fun vs H1 => ∃ a xs, vs = [.ref a] ∧ SqL K H1 a xs ∧ R (Ite K a) H1) : iEnum K ta σ H R := h
section
variable {P : Program} {w : World} {K : PySem.W.Frag} {mg : Str → Option Value} {base : Heap}
theorem sc_fieldsA : FnScope ["_law_f", "_law_row", "_law_here", "_law_fault", "_law_count", "_law_is_right", "_law_bad", "_law_one", "_law_k"] ["_law_f", "_law_row", "_law_here"] (defScope s__law_fields_amiss) := ⟨rfl, rfl, rfl, by decide +kernel, rfl, by decide +kernel, by decide +kernel⟩
theorem ok_fieldsA (T : Tx K mg) : Ok P w K mg base 2 (He.ga K "_law_fields_amiss") ["_law_f", "_law_row", "_law_here"] (spFieldsA K) := by
  obtain ⟨fd, F⟩ := T.f__law_fields_amiss
  refine ⟨fd, F.ok (k := 1) sc_fieldsA (fun vs H Q E h => ?_) (fun cdv A outer s H vs Q E hr h => ?_), F.bindsN fun _ _ _ _ _ _ us hl => match us, hl with | [_, _, _], _ => rfl, F.kp⟩
  · obtain ⟨n, B, F, nm, kn, v, r, L, ar, here, m, R, rfl, _⟩ := h
    rfl
  obtain ⟨n, B, F, nm, kn, v, r, L, ar, here, m, R, rfl, hL, hv, hB, q⟩ := h
  refine ⟨_, pss_cons (ps_if (pt_cmpR op_in_seq (pe_ix ix_tup (pv 1) pe_int (fun _ _ => rfl)) (pe_lst (pa_cons pe_str (pa_cons pe_str pa_nil))) (by rfl)) (pss_cons (ps_if (pt_cmpR (op_eqE hr.units0) (pe_ix ix_tup (pv 1) (pe_un un_neg pe_int) (fun _ _ => rfl)) (pe_lst pa_nil) (nomark _)) (pss_one (ps_ret (pe_tup (pa_cons pe_str (pa_cons pe_str (pa_cons pe_int pa_nil)))))) pss_nil)
      (pss_cons (ps_if (pt_cmpR op_eq (pe_ix ix_tup (pv 1) pe_int (fun _ _ => rfl)) pe_str (nomark _)) (pss_one (ps_ret pe_non)) pss_nil)
      (pss_cons (ps_if (pt_cmpR op_ne (pv 2) pe_int (nomark _)) (pss_one (ps_ret (pe_tup (pa_cons pe_str (pa_cons pe_str (pa_cons pe_int pa_nil)))))) pss_nil)
      (pss_cons (ps_set (i := 3) sc_fieldsA.nd rfl (Or.inl rfl) (pe_f (ok_heard T) hr T.g__law_heard (pa_cons (pv 0) (pa_cons (pe_ix ix_tup (pv 1) pe_int (fun _ _ => rfl)) (pa_cons (pv 2) pa_nil)))))
      (pss_cons (ps_if (pt_cmp (pc_isN (pv 3))) (pss_cons (ps_set (i := 4) sc_fieldsA.nd rfl (Or.inl rfl) (pe_ix ix_tup (pe_dget (hu_of hr) (pe_dget (hu_of hr) (pv 0) pe_str (fun _ _ => rfl)) (pe_ix ix_tup (pv 1) pe_int (fun _ _ => rfl)) (fun _ _ => rfl)) pe_int (fun _ _ => rfl)))
      (pss_cons (ps_set (i := 5) sc_fieldsA.nd rfl (Or.inl rfl) (pe_and (pe_cmpR op_eq (pe_ix ix_tup (pv 4) pe_int (fun _ _ => rfl)) pe_str rfl) (pe_and (pe_cmpR op_ge (pe_ix ix_tup (pv 4) pe_int (fun _ _ => rfl)) pe_int rfl) (pe_one (pe_cmpR op_le (pe_ix ix_tup (pv 4) pe_int (fun _ _ => rfl)) pe_int rfl)))))
      (pss_one (ps_set (i := 3) sc_fieldsA.nd rfl (Or.inl rfl) (pe_ix ix_list (pe_lst (pa_cons (pe_tup (pa_cons pe_str (pa_cons (pe_ix ix_tup (pv 1) pe_int (fun _ _ => rfl)) pa_nil))) (pa_cons pe_non pa_nil))) (pe_callTy call_int1 (by rfl) T.z_int (by decide +kernel) (pa_cons (pv 5) pa_nil)) (fun _ _ => rfl)))))) pss_nil)
      (pss_one (ps_ret (pv 3)))))))) pss_nil)
      (pss_cons (ps_if (pt_not (pt_val (pe_f (ok_lname T) hr T.g__law_is_name (pa_cons (pe_ix ix_tup (pv 1) pe_int (fun _ _ => rfl)) pa_nil)))) (pss_one (ps_ret (pe_tup (pa_cons pe_str (pa_cons (pe_ix ix_tup (pv 1) pe_int (fun _ _ => rfl)) pa_nil))))) pss_nil)
      (pss_cons (ps_if (pt_cmpR op_in_seq (pe_ix ix_tup (pv 1) pe_int (fun _ _ => rfl)) (pe_dget (hu_of hr) (pv 0) pe_str (fun _ _ => rfl)) (by rfl)) (pss_one (ps_ret (pe_tup (pa_cons pe_str (pa_cons (pe_ix ix_tup (pv 1) pe_int (fun _ _ => rfl)) pa_nil))))) pss_nil)
      (pss_cons (ps_if (pw_and (pt_cmpR op_eq (pe_ix ix_tup (pv 1) pe_int (fun _ _ => rfl)) pe_str (nomark _)) (pw_and1 (pt_cmpR op_gt (pe_ix ix_tup (pv 1) pe_int (fun _ _ => rfl)) (pe_ix ix_tup (pv 1) pe_int (fun _ _ => rfl)) (nomark _)))).pt (pss_one (ps_ret (pe_tup (pa_cons pe_str (pa_cons pe_str (pa_cons (pe_ix ix_tup (pv 1) pe_int (fun _ _ => rfl)) pa_nil)))))) pss_nil)
      (pss_cons (ps_if (pt_cmpR op_in_seq (pe_ix ix_tup (pv 1) pe_int (fun _ _ => rfl)) (pe_lst (pa_cons pe_str (pa_cons pe_str pa_nil))) (by rfl)) (pss_cons (ps_if (pt_not (pt_chain op_le op_le pe_int (pe_callB call_len_seq (by rfl) T.z_len PySem.boot_len (pa_cons (pe_ix ix_tup (pv 1) pe_int (fun _ _ => rfl)) pa_nil)) (pe_dget (hu_of hr) (pe_disp (pps_cons pe_str pe_int (pps_cons pe_str pe_int pps_nil)) (by rfl) (by rfl) (fun z => by cases z) (by decide)) (pe_ix ix_tup (pv 1) pe_int (fun _ _ => rfl)) (fun _ _ => rfl)))) (pss_one (ps_ret (pe_tup (pa_cons pe_str (pa_cons pe_str (pa_cons (pe_callB call_len_seq (by rfl) T.z_len PySem.boot_len (pa_cons (pe_ix ix_tup (pv 1) pe_int (fun _ _ => rfl)) pa_nil)) pa_nil)))))) pss_nil)
      (pss_cons (by exact ps_setLc (i := 6) (own := [("_law_one", 7)]) (g := gName 7) (tt := tNot (tB (tCall spIsName [] E0 (tCons (tVar 7) tNil)))) (te := tTup (tCons (tC (.str "name")) (tCons (tVar 7) tNil))) (by rfl) sc_fieldsA.nd rfl rfl (by rfl) (pi_list (pe_ix ix_tup (pv 1) pe_int (fun _ _ => rfl))) (blkOk_by (own := [("_law_one", 7)]) (N := ["_law_f", "_law_row", "_law_here", "_law_fault", "_law_count", "_law_is_right", "_law_bad", "_law_one", "_law_k"]) (sc := defScope s__law_fields_amiss) (by decide +kernel)) (fun _ _ _ _ _ => pg_name (i := 7) sc_fieldsA.nd rfl (Or.inl rfl)) (fun _ _ _ _ _ => pts_one (pt_not (pt_val (pe_f (ok_lname T) hr T.g__law_is_name (pa_cons (pv 7) pa_nil))))) (fun _ _ _ _ _ => pe_tup (pa_cons pe_str (pa_cons (pv 7) pa_nil))))
      (pss_cons (ps_set (i := 6) sc_fieldsA.nd rfl (Or.inl rfl) (pe_op op_cat (pv 6) (by exact pe_lc (own := [("_law_k", 8), ("_law_one", 7)]) (g := gTup K 2 (gCons (gName 8) (gCons (gName 7) gNil))) (tt := tTest (tOp (rIn K false) (tVar 7) (tSl (rSlL K) (tOp (rIxT K) (tVar 1) (tC (.int 2))) tNoPart (tPart (tVar 8))))) (te := tTup (tCons (tC (.str "twice")) (tCons (tVar 7) tNil))) (by rfl) sc_fieldsA.nd (pi_enum rfl T.z_enumerate (pa_cons (pe_ix ix_tup (pv 1) pe_int (fun _ _ => rfl)) pa_nil)) (blkOk_by (own := [("_law_k", 8), ("_law_one", 7)]) (N := ["_law_f", "_law_row", "_law_here", "_law_fault", "_law_count", "_law_is_right", "_law_bad", "_law_one", "_law_k"]) (sc := defScope s__law_fields_amiss) (by decide +kernel)) (fun _ _ _ _ _ => pg_tup (by rfl) (pgs_cons (pg_name (i := 8) sc_fieldsA.nd rfl (Or.inl rfl)) (pgs_cons (pg_name (i := 7) sc_fieldsA.nd rfl (Or.inl rfl)) pgs_nil))) (fun _ _ _ _ _ => pts_one (pt_cmpR op_in_seq (pv 7) (pe_slice sl_list (pe_ix ix_tup (pv 1) pe_int (fun _ _ => rfl)) po_none (po_some (pv 8))) (by rfl))) (fun _ _ _ _ _ => pe_tup (pa_cons pe_str (pa_cons (pv 7) pa_nil))))))
      (pss_one (ps_ret (pe_ix ix_list (pe_op op_cat (pv 6) (pe_lst (pa_cons pe_non pa_nil))) pe_int (fun _ _ => rfl))))))) pss_nil)
      (pss_one (ps_ret pe_non)))))), ?_⟩
  have fault : ∀ {f : Flt} {H1 : Hp} {p : Addr}, Same H H1 → H1 p = none → fieldsF L r ar = some f → Q (.ref p) (upd H1 p (.tup (fV f))) := fun {f H1 p} e hp hf => q _ _ (e.trans (Same.new hp _)) (by rw [hf]; exact ⟨p, rfl, upd_same⟩)
  cases hn : r.isN with
  | true =>
    obtain ⟨t, kd, rest, rfl, ht, hin, hk⟩ := dr_named L ar hv hn
    walk_at "go"
    refine w_ixT (SqT.of ht) (atI_nat (j := 0) rfl) ?_
    walk_at "go"
    refine ⟨(by show 2 ≤ sizeLine; decide), fun p3 hp3 => ?_⟩
    refine ⟨p3, _, rfl, .inl (SqL.of upd_same), rfl, rfl, ?_⟩
    have e3 := Same.new hp3 (.lst [V.str "section", .str "rounds"])
    walk_at "go"
    generalize upd H p3 _ = H3 at e3 ⊢
    rw [show inV (.str kd) [V.str "section", .str "rounds"] = false from hin]
    walk_at "go"
    refine w_ixT (SqT.of (e3 _ _ ht)) (atI_nat (j := 1) rfl) ?_
    walk_at "go"
    refine ⟨r.name, rfl, hB.nm, fun H4 e4 => ?_⟩
    have g4 := e3.trans e4
    have eck : ckName L r = thenF (nameF r.name) (if (look L r.name).isSome then some (.twice r.name) else none) := by unfold ckName; rw [hn, if_pos rfl]
    have hfn : ∀ f, ckName L r = some f → fieldsF L r ar = some f := fun f hf => by unfold fieldsF; rw [hf] <;> rfl
    walk_at "go"
    cases hna : isName r.name with
    | false =>
      walk_at "go"
      refine w_ixT (SqT.of (g4 _ _ ht)) (atI_nat (j := 1) rfl) ?_
      walk_at "go"
      refine ⟨(by show 2 ≤ sizeLine; decide), fun p5 hp5 => ?_⟩
      exact fault (f := .name r.name) g4 hp5 (hfn _ (by rw [eck]; unfold nameF; rw [hna] <;> rfl))
    | true =>
      have eck2 : ckName L r = if (look L r.name).isSome then some (.twice r.name) else none := by rw [eck]; unfold nameF; rw [hna] <;> rfl
      walk_at "go"
      refine w_ixT (SqT.of (g4 _ _ ht)) (atI_nat (j := 1) rfl) ?_
      walk_at "go"
      refine ⟨_, rfl, F, _, rfl, (hL.same g4).names, ?_⟩
      have enm : (L.map fun e => V.str e.1) = (L.map (·.1)).map V.str := by rw [List.map_map]; rfl
      refine ⟨nm, _, rfl, .inl (SqL.of (g4 _ _ hL.nms)), rfl, by rw [enm]; exact flat_strs _, ?_⟩
      walk_at "go"
      rw [enm, inV_strs, ← look_isSome]
      cases hlk : (look L r.name).isSome with
      | true =>
        walk_at "go"
        refine w_ixT (SqT.of (g4 _ _ ht)) (atI_nat (j := 1) rfl) ?_
        walk_at "go"
        refine ⟨(by show 2 ≤ sizeLine; decide), fun p5 hp5 => ?_⟩
        exact fault (f := .twice r.name) g4 hp5 (hfn _ (by rw [eck2, hlk] <;> rfl))
      | false =>
        have eck3 : ckName L r = none := by rw [eck2, hlk] <;> rfl
        walk_at "go"
        refine w_ixT (SqT.of (g4 _ _ ht)) (atI_nat (j := 0) rfl) ?_
        walk_at "go"
        rcases hk with ⟨lo, hi, wv, rfl, rfl, hff⟩ | ⟨rfl, hff⟩ | ⟨l, os, wv, most, hkd, rfl, hl, hos, hff⟩
        · rw [eck3] at hff
          (refine w_sEq true (by decide +kernel) ?_; walk_at "go")
          (refine w_ixT (SqT.of (g4 _ _ ht)) rfl ?_; walk_at "go")
          (refine w_ixT (SqT.of (g4 _ _ ht)) rfl ?_; walk_at "go")
          by_cases c : hi < lo
          · rw [decide_eq_true (show lo > hi from c)]
            walk_at "go"
            (refine w_ixT (SqT.of (g4 _ _ ht)) rfl ?_; walk_at "go")
            refine ⟨(by show 3 ≤ sizeLine; decide), fun p5 hp5 => ?_⟩
            exact fault (f := .count "bounds" hi) g4 hp5 (by rw [hff, if_pos c] <;> rfl)
          · rw [decide_eq_false (show ¬ lo > hi from c)]
            walk_at "go"
            (refine w_ixT (SqT.of (g4 _ _ ht)) rfl ?_; walk_at "go")
            refine ⟨(by show 2 ≤ sizeLine; decide), fun p5 hp5 => ?_⟩
            refine ⟨p5, _, rfl, .inl (SqL.of upd_same), rfl, rfl, ?_⟩
            walk_at "go"
            rw [show inV (.str "number") [V.str "one", .str "some"] = false by decide +kernel]
            walk_at "go"
            exact q _ _ (g4.trans (Same.new hp5 _)) (by rw [hff, if_neg c] <;> rfl)
        · rw [eck3] at hff
          (refine w_sEq false (by decide +kernel) ?_; walk_at "go")
          refine w_ixT (SqT.of (g4 _ _ ht)) (atI_nat (j := 0) rfl) ?_
          walk_at "go"
          refine ⟨(by show 2 ≤ sizeLine; decide), fun p5 hp5 => ?_⟩
          refine ⟨p5, _, rfl, .inl (SqL.of upd_same), rfl, rfl, ?_⟩
          walk_at "go"
          rw [show inV (.str "check") [V.str "one", .str "some"] = false by decide +kernel]
          walk_at "go"
          exact q _ _ (g4.trans (Same.new hp5 _)) (by rw [hff] <;> rfl)
        · rw [eck3] at hff
          have hff : fieldsF L r ar = optF os most := hff
          have hol : os.length ≤ 1000 := by rw [hos]; exact hB.ol
          have hoo : ∀ o ∈ os, o.length ≤ 1000 := by rw [hos]; exact hB.os
          have k1 : decide (V.str kd = V.str "number") = false := by rcases hkd with ⟨rfl, _⟩ | ⟨rfl, _⟩ <;> decide +kernel
          have k2 : inV (.str kd) [V.str "one", .str "some"] = true := by rcases hkd with ⟨rfl, _⟩ | ⟨rfl, _⟩ <;> decide +kernel
          have k3 : valV (mergeK [] [((Sum.inr "one" : Key), V.int 6), (Sum.inr "some", .int 4)]) (Sum.inr kd) = some (.int (most : Int)) := by rcases hkd with ⟨rfl, rfl⟩ | ⟨rfl, rfl⟩ <;> decide +kernel
          refine w_sEq false k1 ?_
          walk_at "go"
          (refine w_ixT (SqT.of (g4 _ _ ht)) rfl ?_; walk_at "go")
          refine ⟨(by show 2 ≤ sizeLine; decide), fun p5 hp5 => ?_⟩
          refine ⟨p5, _, rfl, .inl (SqL.of upd_same), rfl, rfl, ?_⟩
          have e5 := Same.new hp5 (.lst [V.str "one", .str "some"])
          walk_at "go"
          generalize upd H4 p5 _ = H5 at e5 ⊢
          have g5 := g4.trans e5
          rw [show inV (.str kd) [V.str "one", .str "some"] = true from k2]
          walk_at "go"
          (refine w_ixT (SqT.of (g5 _ _ ht)) rfl ?_; walk_at "go")
          refine ⟨l, _, rfl, .inl (SqL.of (g5 _ _ hl)), ?_⟩
          walk_at "go"
          rw [List.length_map]
          have cnt : ¬ (1 ≤ os.length ∧ os.length ≤ most) → fieldsF L r ar = some (.count "options" os.length) := fun c => by rw [hff]; unfold optF; rw [if_neg c]
          by_cases c1 : (1 : Int) ≤ (os.length : Int)
          · rw [decide_eq_true c1]
            walk_at "go"
            intro p6 hp6
            refine ⟨upd_same, [(Sum.inr "one", .int 6), (Sum.inr "some", .int 4)], rfl, by decide, ?_⟩
            have e6 : Same H5 (upd (upd H5 p6 (.dK [])) p6 (.dK (mergeK [] [((Sum.inr "one" : Key), V.int 6), (Sum.inr "some", .int 4)]))) := ((Same.refl H5).mut hp6).mut hp6
            have g6 := g5.trans e6
            show tOp (rIxT K) (tVar 1) (tC (.int 0)) _ _ _
            walk_at "go"
            (refine w_ixT (SqT.of (g6 _ _ ht)) rfl ?_; walk_at "go")
            refine ⟨p6, .int (most : Int), rfl, by rw [← k3]; exact DGet.k (k := Sum.inr kd) upd_same, ?_⟩
            generalize upd (upd H5 p6 (.dK [])) p6 _ = H6 at e6 g6 ⊢
            walk_at "go"
            by_cases c2 : (os.length : Int) ≤ (most : Int)
            · rw [decide_eq_true c2]
              walk_at "go"
              have hfo : fieldsF L r ar = thenF (namesF os) (dupF os) := by rw [hff]; unfold optF; rw [if_pos ⟨by omega, by omega⟩]
              show tOp (rIxT K) (tVar 1) (tC (.int 2)) _ _ _
              walk_at "go"
              refine w_ixT (SqT.of (g6 _ _ ht)) rfl ?_
              refine ⟨l, rfl, ⟨_, SqL.of (g6 _ _ hl)⟩, fun D hD => ?_⟩
              refine lc_list (K := K) (a := l) (xs := os.map V.str) (fun (i : Nat) H' => ∃ acc, Same H6 H' ∧ H' D = some (.lst acc) ∧ acc.length ≤ i ∧ Bad1 H' os i acc) ⟨[], Same.new hD _, upd_same, Nat.le_refl _, .inl ⟨rfl, rfl⟩⟩ (fun i H' _ ⟨acc, e, _⟩ => SqL.of (e _ _ (g6 _ _ hl))) ?_ ?_
              · rintro i x H7 hxi ⟨acc, e7, hD7, la, hb⟩
                obtain ⟨z, hz, rfl⟩ := map_get hxi
                have hi : i < os.length := (List.getElem?_eq_some_iff.mp hz).1
                walk_at "go"
                refine ⟨rfl, ?_⟩
                walk_at "go"
                refine ⟨z, rfl, hoo z (List.mem_of_getElem? hz), fun H8 e8 => ?_⟩
                walk_at "go"
                have hD8 := e8 _ _ hD7
                cases hnz : isName z with
                | true =>
                  walk_at "go"
                  exact ⟨acc, e7.trans e8, hD8, by omega, (hb.same e8).next hz hnz⟩
                | false =>
                  walk_at "go"
                  refine ⟨(by show 2 ≤ sizeLine; decide), fun p9 hp9 => ?_⟩
                  have e9 := Same.new hp9 (.tup [.str "name", .str z])
                  have hD9 := e9 _ _ hD8
                  refine ⟨acc, hD9, Nat.lt_of_le_of_lt (show acc.length ≤ 1000 by omega) (by decide), acc ++ [.ref p9], ((e7.trans e8).trans e9).mut hD, upd_same, by rw [List.length_append]; exact Nat.succ_le_succ la, ?_⟩
                  have pd : p9 ≠ D := fun zz => by rw [zz, hD8] at hp9; cases hp9
                  have hb9 := (hb.same e8).same e9
                  have up : ∀ b o, b ≠ D → (upd H8 p9 (.tup [.str "name", .str z])) b = some o → (upd (upd H8 p9 (.tup [.str "name", .str z])) D (.lst (acc ++ [.ref p9]))) b = some o := fun b o hb h => by rw [upd_ne hb]; exact h
                  refine Bad1.add ?_ hz hnz (up _ _ pd upd_same)
                  rcases hb9 with hb9 | ⟨t9, z9, r9, h91, h92, h93⟩
                  · exact .inl hb9
                  · refine .inr ⟨t9, z9, r9, h91, up _ _ (fun zz => ?_) h92, h93⟩
                    rw [zz, hD9] at h92
                    cases h92
              · rintro H7 ⟨acc, e7, hD7, la, hb⟩
                rw [List.length_map] at la hb
                have g7 := g6.trans e7
                walk_at "go"
                refine lc_open ?_
                refine enum_open ?_
                walk_at "go"
                refine w_ixT (SqT.of (g7 _ _ ht)) rfl ?_
                walk_at "go"
                refine ⟨l, _, rfl, SqL.of (g7 _ _ hl), fun D2 hD2 => ?_⟩
                refine lc_it (walk_enum (K := K) (a := l) (xs := os.map V.str)) (fun (i : Nat) H' => ∃ acc2, Same H7 H' ∧ H' D2 = some (.lst acc2) ∧ acc2.length ≤ i ∧ Bad2 H' os i acc2) ⟨[], Same.new hD2 _, upd_same, Nat.le_refl _, .inl ⟨rfl, rfl⟩⟩ (fun i H' _ ⟨acc, e, _⟩ => SqL.of (e _ _ (g7 _ _ hl))) ?_ ?_
                · rintro i x H8 _ hi ⟨acc2, e8, hD8, la2, hb2⟩ ⟨T5, x5, y5, rfl, hT5, rfl, hx5, hy5⟩
                  cases Option.some.inj hx5
                  obtain ⟨z, hz, rfl⟩ := map_get hy5
                  have hi : i < os.length := (List.getElem?_eq_some_iff.mp hz).1
                  have e9 := Same.new hT5 (.tup [.int (i : Nat), .str z])
                  refine ⟨T5, _, rfl, SqT.of upd_same, rfl, _, _, rfl, ?_⟩
                  walk_at "go"
                  refine ⟨_, _, rfl, ?_⟩
                  walk_at "go"
                  refine ⟨rfl, rfl, ?_⟩
                  generalize upd H8 T5 _ = H9 at e9 ⊢
                  have g9 := (g7.trans e8).trans e9
                  have hD9 := e9 _ _ hD8
                  walk_at "go"
                  refine w_ixT (SqT.of (g9 _ _ ht)) rfl ?_
                  walk_at "go"
                  refine ⟨l, _, rfl, SqL.of (g9 _ _ hl), fun p10 hp10 => ?_⟩
                  rw [cut_to] at *
                  have fl : ((os.map V.str).take i) = (os.take i).map V.str := by rw [List.map_take]
                  refine ⟨p10, _, rfl, .inl (SqL.of upd_same), rfl, by rw [fl]; exact flat_strs _, ?_⟩
                  rw [fl]
                  have e10 : Same H9 (upd H9 p10 (.lst ((os.take i).map V.str))) := Same.new hp10 _
                  generalize upd H9 p10 (HO.lst (List.map V.str (List.take i os))) = H10 at e10 ⊢
                  have hD10 := e10 _ _ hD9
                  walk_at "go"
                  rw [inV_strs]
                  by_cases c9 : z ∈ os.take i
                  · rw [decide_eq_true c9]
                    walk_at "go"
                    refine ⟨(by show 2 ≤ sizeLine; decide), fun p11 hp11 => ?_⟩
                    have e11 := Same.new hp11 (.tup [.str "twice", .str z])
                    have hD11 := e11 _ _ hD10
                    have e811 := ((e8.trans e9).trans e10).trans e11
                    refine ⟨acc2, hD11, Nat.lt_of_le_of_lt (show acc2.length ≤ 1000 by omega) (by decide), acc2 ++ [.ref p11], e811.mut hD2, upd_same, by rw [List.length_append]; exact Nat.succ_le_succ la2, ?_⟩
                    have pd : p11 ≠ D2 := fun zz => by rw [zz, hD10] at hp11; cases hp11
                    have hb11 := hb2.same ((e9.trans e10).trans e11)
                    have up : ∀ b o, b ≠ D2 → (upd H10 p11 (.tup [.str "twice", .str z])) b = some o → (upd (upd H10 p11 (.tup [.str "twice", .str z])) D2 (.lst (acc2 ++ [.ref p11]))) b = some o := fun b o hb h => by rw [upd_ne hb]; exact h
                    refine Bad2.add ?_ hz c9 (up _ _ pd upd_same)
                    rcases hb11 with hb11 | ⟨t9, z9, r9, h91, h92, h93⟩
                    · exact .inl hb11
                    · refine .inr ⟨t9, z9, r9, h91, up _ _ (fun zz => ?_) h92, h93⟩
                      rw [zz, hD11] at h92
                      cases h92
                  · rw [decide_eq_false c9]
                    walk_at "go"
                    exact ⟨acc2, (e8.trans e9).trans e10, hD10, by omega, (hb2.same (e9.trans e10)).next hz c9⟩
                · rintro H8 ⟨acc2, e8, hD8, la2, hb2⟩
                  rw [List.length_map] at la2 hb2
                  have g8 := g7.trans e8
                  refine ⟨D, D2, _, _, rfl, rfl, e8 _ _ hD7, hD8, Nat.le_trans (show acc.length + acc2.length ≤ 2000 by omega) (by decide), fun p9 hp9 => ?_⟩
                  have e9 := Same.new hp9 (.lst (acc ++ acc2))
                  walk_at "go"
                  refine ⟨(by show 1 ≤ sizeLine; decide), fun p10 hp10 => ?_⟩
                  have e10 := Same.new hp10 (.lst [V.non])
                  refine ⟨p9, p10, _, _, rfl, rfl, e10 _ _ upd_same, upd_same, Nat.le_trans (show (acc ++ acc2).length + 1 ≤ 3000 by rw [List.length_append]; omega) (by decide), fun p11 hp11 => ?_⟩
                  have e11 := Same.new hp11 (.lst (acc ++ acc2 ++ [V.non]))
                  have e811 := (e9.trans e10).trans e11
                  have hb8 := hb.same (e8.trans e811)
                  have hb28 := hb2.same e811
                  walk_at "go"
                  have fin : ∀ v', atI (acc ++ acc2 ++ [V.non]) 0 = some v' → FV (upd (upd (upd H8 p9 (.lst (acc ++ acc2))) p10 (.lst [V.non])) p11 (.lst (acc ++ acc2 ++ [V.non]))) v' (fieldsF L r ar) → rIxL K (.ref p11) (.int 0) (upd (upd (upd H8 p9 (.lst (acc ++ acc2))) p10 (.lst [V.non])) p11 (.lst (acc ++ acc2 ++ [V.non]))) Q := fun v' h1 h2 => w_ixL upd_same h1 (q _ _ (g8.trans e811) h2)
                  rcases hb8 with ⟨rfl, hn1⟩ | ⟨t9, z9, r9, rfl, h92, h93⟩
                  · rw [List.take_length] at hn1
                    rcases hb28 with ⟨rfl, hn2⟩ | ⟨t9, z9, r9, rfl, h92, h93⟩
                    · rw [List.take_length] at hn2
                      exact fin .non (atI_nat (j := 0) rfl) (by rw [hfo, hn1]; unfold dupF; rw [hn2]; rfl)
                    · exact fin (.ref t9) (atI_nat (j := 0) rfl) (by rw [hfo, hn1]; unfold dupF; rw [h93]; exact ⟨t9, rfl, h92⟩)
                  · exact fin (.ref t9) (atI_nat (j := 0) rfl) (by rw [hfo, h93]; exact ⟨t9, rfl, h92⟩)
            · rw [decide_eq_false c2]
              walk_at "go"
              (refine w_ixT (SqT.of (g6 _ _ ht)) rfl ?_; walk_at "go")
              refine ⟨l, _, rfl, .inl (SqL.of (g6 _ _ hl)), ?_⟩
              walk_at "go"
              rw [List.length_map]
              refine ⟨(by show 3 ≤ sizeLine; decide), fun p9 hp9 => ?_⟩
              exact fault (f := .count "options" os.length) g6 hp9 (cnt (by omega))
          · rw [decide_eq_false c1]
            walk_at "go"
            (refine w_ixT (SqT.of (g5 _ _ ht)) rfl ?_; walk_at "go")
            refine ⟨l, _, rfl, .inl (SqL.of (g5 _ _ hl)), ?_⟩
            walk_at "go"
            rw [List.length_map]
            refine ⟨(by show 3 ≤ sizeLine; decide), fun p9 hp9 => ?_⟩
            exact fault (f := .count "options" os.length) g5 hp9 (cnt (by omega))
  | false =>
    cases hv with
    | one _ _ _ => cases hn
    | some _ _ _ => cases hn
    | number _ _ => cases hn
    | check _ _ _ => cases hn
    | @sect t l xs rs w6 wv ht hl hrs hw =>
      have hlen := hrs.len
      walk_at "go"
      (refine w_ixT (SqT.of ht) rfl ?_; walk_at "go")
      refine ⟨(by show 2 ≤ sizeLine; decide), fun p3 hp3 => ?_⟩
      refine ⟨p3, _, rfl, .inl (SqL.of upd_same), rfl, rfl, ?_⟩
      have e3 := Same.new hp3 (.lst [V.str "section", .str "rounds"])
      walk_at "go"
      generalize upd H p3 _ = H3 at e3 ⊢
      rw [show inV (.str "section") [V.str "section", .str "rounds"] = true by decide +kernel]
      walk_at "go"
      refine ⟨2, rfl, ?_⟩
      (refine w_ixT (SqT.of (e3 _ _ ht)) rfl ?_; walk_at "go")
      refine ⟨Nat.zero_le _, fun p4 hp4 => ?_⟩
      have e4 := Same.new hp4 (.lst [])
      have g4 := e3.trans e4
      refine ⟨l, p4, xs, [], rfl, rfl, SqL.of (g4 _ _ hl), SqL.of upd_same, .inr (.inl rfl), ?_⟩
      generalize upd H3 p4 _ = H4 at e4 g4 ⊢
      walk_at "go"
      by_cases c : xs = []
      · rw [decide_eq_true ⟨c, rfl⟩]
        walk_at "go"
        refine ⟨(by show 3 ≤ sizeLine; decide), fun p5 hp5 => ?_⟩
        exact fault (f := .count "rows" 0) g4 hp5 (by rw [fields_sect, if_pos (by rw [← hlen, c]; rfl)])
      · rw [decide_eq_false (fun z => c z.1)]
        walk_at "go"
        (refine w_ixT (SqT.of (g4 _ _ ht)) rfl ?_; walk_at "go")
        (refine w_sEq true (by decide +kernel) ?_; walk_at "go")
        refine q _ _ g4 ?_
        rw [fields_sect, if_neg (by rw [← hlen]; exact fun z => c (List.length_eq_zero_iff.mp z))]
        rfl
    | @rounds t l nn xs rs w6 wv ht hl hrs hw =>
      have hlen := hrs.len
      walk_at "go"
      (refine w_ixT (SqT.of ht) rfl ?_; walk_at "go")
      refine ⟨(by show 2 ≤ sizeLine; decide), fun p3 hp3 => ?_⟩
      refine ⟨p3, _, rfl, .inl (SqL.of upd_same), rfl, rfl, ?_⟩
      have e3 := Same.new hp3 (.lst [V.str "section", .str "rounds"])
      walk_at "go"
      generalize upd H p3 _ = H3 at e3 ⊢
      rw [show inV (.str "rounds") [V.str "section", .str "rounds"] = true by decide +kernel]
      walk_at "go"
      refine ⟨2, rfl, ?_⟩
      (refine w_ixT (SqT.of (e3 _ _ ht)) rfl ?_; walk_at "go")
      refine ⟨Nat.zero_le _, fun p4 hp4 => ?_⟩
      have e4 := Same.new hp4 (.lst [])
      have g4 := e3.trans e4
      refine ⟨l, p4, xs, [], rfl, rfl, SqL.of (g4 _ _ hl), SqL.of upd_same, .inr (.inl rfl), ?_⟩
      generalize upd H3 p4 _ = H4 at e4 g4 ⊢
      walk_at "go"
      by_cases c : xs = []
      · rw [decide_eq_true ⟨c, rfl⟩]
        walk_at "go"
        refine ⟨(by show 3 ≤ sizeLine; decide), fun p5 hp5 => ?_⟩
        exact fault (f := .count "rows" 0) g4 hp5 (by rw [fields_rounds, if_pos (by rw [← hlen, c]; rfl)])
      · rw [decide_eq_false (fun z => c z.1)]
        have hff : fieldsF L (.rounds nn rs w6) ar = if ar = none then ckCount L (.rounds nn rs w6) ar else some (.count "rounds" 2) := by rw [fields_rounds, if_neg (by rw [← hlen]; exact fun z => c (List.length_eq_zero_iff.mp z))]
        walk_at "go"
        (refine w_ixT (SqT.of (g4 _ _ ht)) rfl ?_; walk_at "go")
        (refine w_sEq false (by decide +kernel) ?_; walk_at "go")
        refine ⟨rfl, ?_⟩
        walk_at "go"
        by_cases c0 : here = 0
        · have har := hL.rel.mpr c0
          rw [if_pos har] at hff
          subst c0
          rw [show decide (V.int ((0 : Nat) : Int) = V.int 0) = true from rfl]
          walk_at "go"
          (refine w_ixT (SqT.of (g4 _ _ ht)) rfl ?_; walk_at "go")
          refine ⟨B, F, nm, kn, nn, L, ar, 0, m, R, rfl, hL.same g4, fun v5 H5 e5 hv5 => ?_⟩
          have g5 := g4.trans e5
          have hL5 := hL.same g5
          walk_at "go"
          cases hh : heardF L nn ar with
          | some f =>
            rw [hh] at hv5
            obtain ⟨t5, rfl, ht5⟩ := hv5
            rw [show decide (V.ref t5 = V.non) = false from rfl]
            walk_at "go"
            refine q _ _ g5 ?_
            rw [hff]
            have : ckCount L (.rounds nn rs w6) ar = some f := by
              unfold heardF at hh
              show (match quest L nn ar with | .inl f => some f | .inr q => fitN q) = some f
              cases e : quest L nn ar with
              | inl g => rw [e] at hh; exact hh
              | inr r => rw [e] at hh; cases hh
            rw [this]
            exact ⟨t5, rfl, ht5⟩
          | none =>
            rw [hh] at hv5
            have hv5 : v5 = .non := hv5
            subst hv5
            rw [show decide (V.non = V.non) = true from rfl]
            walk_at "go"
            obtain ⟨kvs, t6, rv, k6, r6, hkn, h1, ht6, hdr, hqu, hq6, hrn⟩ := heard_kn hL5 hh
            have hck : ckCount L (.rounds nn rs w6) ar = fitN r6 := by
              show (match quest L nn ar with | .inl f => some f | .inr q => fitN q) = _
              rw [hqu]
            rw [hck] at hff
            refine ⟨_, rfl, F, _, rfl, hL5.known, ?_⟩
            show tOp (rIxT K) (tVar 1) (tC (.int 1)) _ _ _
            walk_at "go"
            (refine w_ixT (SqT.of (g5 _ _ ht)) rfl ?_; walk_at "go")
            refine ⟨kn, _, rfl, (by rw [← h1]; exact DGet.k (k := Sum.inr nn) hkn), ?_⟩
            walk_at "go"
            (refine w_ixT (SqT.of ht6) rfl ?_; walk_at "go")
            have last : ∀ (b : Bool), (fitN r6 = if b then none else some (.fit nn)) → (∀ (v6 : V) (p6 p7 : Addr), H5 p6 = none → (upd H5 p6 (.tup [.str "fit", .str nn])) p7 = none → atI [V.ref p6, .non] (if b then 1 else 0) = some v6 → Q v6 (upd (upd H5 p6 (.tup [.str "fit", .str nn])) p7 (.lst [V.ref p6, .non]))) := fun b hb v6 p6 p7 hp6 hp7 hat => by
              have e6 := Same.new hp6 (.tup [.str "fit", .str nn])
              have e7 := Same.new hp7 (.lst [V.ref p6, .non])
              refine q _ _ (g5.trans (e6.trans e7)) ?_
              rw [hff, hb]
              cases b with
              | true =>
                have : v6 = .non := (Option.some.inj hat).symm
                rw [this] <;> rfl
              | false =>
                have : v6 = .ref p6 := (Option.some.inj hat).symm
                rw [this]
                exact ⟨p6, rfl, e7 _ _ upd_same⟩
            cases hdr with
            | one h _ _ =>
              (refine w_ixT (SqT.of (hL5.bs _ _ h)) rfl ?_; walk_at "go")
              (refine w_sEq false (by decide +kernel) ?_; walk_at "go")
              (refine w_ixT (SqT.of (g5 _ _ ht)) rfl ?_; walk_at "go"; refine ⟨(by show 2 ≤ sizeLine; decide), fun p6 hp6 => ?_⟩; walk_at "go"; refine ⟨(by show 2 ≤ sizeLine; decide), fun p7 hp7 => ?_⟩; walk_at "go"; refine .inr ⟨false, rfl, ?_⟩; refine w_ixL upd_same rfl ?_; walk_at "go"; exact last false (by show some (Flt.fit _) = some (Flt.fit nn); rw [hrn]) _ p6 p7 hp6 hp7 rfl)
            | some h _ _ =>
              (refine w_ixT (SqT.of (hL5.bs _ _ h)) rfl ?_; walk_at "go")
              (refine w_sEq false (by decide +kernel) ?_; walk_at "go")
              (refine w_ixT (SqT.of (g5 _ _ ht)) rfl ?_; walk_at "go"; refine ⟨(by show 2 ≤ sizeLine; decide), fun p6 hp6 => ?_⟩; walk_at "go"; refine ⟨(by show 2 ≤ sizeLine; decide), fun p7 hp7 => ?_⟩; walk_at "go"; refine .inr ⟨false, rfl, ?_⟩; refine w_ixL upd_same rfl ?_; walk_at "go"; exact last false (by show some (Flt.fit _) = some (Flt.fit nn); rw [hrn]) _ p6 p7 hp6 hp7 rfl)
            | @number t7 n7 lo hi w7 wv7 h _ =>
              have hrn : n7 = nn := hrn
              (refine w_ixT (SqT.of (hL5.bs _ _ h)) rfl ?_; walk_at "go")
              (refine w_sEq true (by decide +kernel) ?_; walk_at "go")
              (refine w_ixT (SqT.of (hL5.bs _ _ h)) rfl ?_; walk_at "go")
              by_cases c1 : lo < 0
              · rw [decide_eq_false (show ¬ lo ≥ 0 by omega)]
                walk_at "go"
                (refine w_ixT (SqT.of (g5 _ _ ht)) rfl ?_; walk_at "go"; refine ⟨(by show 2 ≤ sizeLine; decide), fun p6 hp6 => ?_⟩; walk_at "go"; refine ⟨(by show 2 ≤ sizeLine; decide), fun p7 hp7 => ?_⟩; walk_at "go"; refine .inr ⟨false, rfl, ?_⟩; refine w_ixL upd_same rfl ?_; walk_at "go"; exact last false (by show (if lo < 0 then some (Flt.fit n7) else if 4 < hi then some (Flt.fit n7) else none) = some (Flt.fit nn); rw [if_pos c1, hrn]) _ p6 p7 hp6 hp7 rfl)
              · rw [decide_eq_true (show lo ≥ 0 by omega)]
                walk_at "go"
                (refine w_ixT (SqT.of (hL5.bs _ _ h)) rfl ?_; walk_at "go")
                by_cases c2 : 4 < hi
                · rw [decide_eq_false (show ¬ hi ≤ 4 by omega)]
                  walk_at "go"
                  (refine w_ixT (SqT.of (g5 _ _ ht)) rfl ?_; walk_at "go"; refine ⟨(by show 2 ≤ sizeLine; decide), fun p6 hp6 => ?_⟩; walk_at "go"; refine ⟨(by show 2 ≤ sizeLine; decide), fun p7 hp7 => ?_⟩; walk_at "go"; refine .inr ⟨false, rfl, ?_⟩; refine w_ixL upd_same rfl ?_; walk_at "go"; exact last false (by show (if lo < 0 then some (Flt.fit n7) else if 4 < hi then some (Flt.fit n7) else none) = some (Flt.fit nn); rw [if_neg c1, if_pos c2, hrn]) _ p6 p7 hp6 hp7 rfl)
                · rw [decide_eq_true (show hi ≤ 4 by omega)]
                  walk_at "go"
                  (refine w_ixT (SqT.of (g5 _ _ ht)) rfl ?_; walk_at "go"; refine ⟨(by show 2 ≤ sizeLine; decide), fun p6 hp6 => ?_⟩; walk_at "go"; refine ⟨(by show 2 ≤ sizeLine; decide), fun p7 hp7 => ?_⟩; walk_at "go"; refine .inr ⟨true, rfl, ?_⟩; refine w_ixL upd_same rfl ?_; walk_at "go"; exact last true (by show (if lo < 0 then some (Flt.fit n7) else if 4 < hi then some (Flt.fit n7) else none) = none; rw [if_neg c1, if_neg c2]) _ p6 p7 hp6 hp7 rfl)
            | check _ _ _ => cases hq6
            | sect _ _ _ _ => cases hq6
            | rounds _ _ _ _ => cases hq6
        · have har : ar ≠ none := fun z => c0 (hL.rel.mp z)
          rw [if_neg har] at hff
          rw [decide_eq_false (show ¬ V.int (here : Int) = V.int 0 from fun z => c0 (by have := V.int.inj z; omega))]
          walk_at "go"
          refine ⟨(by show 3 ≤ sizeLine; decide), fun p5 hp5 => ?_⟩
          exact fault (f := .count "rounds" 2) g4 hp5 hff
end
end K3
end L19_part
section L20_part
set_option Elab.async false
set_option linter.all false
set_option maxRecDepth 100000
set_option maxHeartbeats 1000000
set_option pp.deepTerms.threshold 5
open PySem PySem.Spec PyProof.Rows L2
/-- go on as far as nothing is open -/
local macro_rules | `(tactic| walk_at "go") => `(tactic| repeat (first
  | with_reducible refine w_seq ?_ | with_reducible refine w_next ?_ | with_reducible refine w_set ?_ | with_reducible refine w_drop ?_ | with_reducible refine w_ret ?_ | with_reducible refine w_retN ?_
  | with_reducible refine w_if ?_ | ((with_reducible refine' w_var ?hv ?_); (case hv => exact rfl)) | with_reducible refine w_c ?_ | with_reducible refine w_nil ?_ | with_reducible refine w_cons ?_ | with_reducible refine w_op ?_ | with_reducible refine w_un ?_
  | with_reducible refine w_test ?_ | with_reducible refine w_tB ?_ | with_reducible refine w_not ?_ | with_reducible refine w_and ?_ | with_reducible refine w_or ?_ | with_reducible refine w_bl ?_
  | with_reducible refine w_andV ?_ | with_reducible refine w_orV ?_ | with_reducible refine w_notV ?_ | with_reducible refine w_ifE ?_ | with_reducible refine w_chain ?_ | with_reducible refine w_i0 ?_
  | with_reducible refine w_call ?_ | with_reducible refine w_callS ?_ | with_reducible refine w_cB ?_ | with_reducible refine w_tup ?_ | with_reducible refine w_lst ?_ | with_reducible refine w_fldV ?_
  | with_reducible refine w_neF ?_ | with_reducible refine w_neT ?_ | with_reducible refine w_notN ?_ | with_reducible refine w_isN ?_ | with_reducible refine w_gname ?_ | with_reducible refine w_gsub ?_ | with_reducible refine w_asg ?_ | with_reducible refine w_sl ?_ | with_reducible refine w_noP ?_ | with_reducible refine w_int1 ?_ | with_reducible refine w_part ?_ | with_reducible refine w_yes ?_ | with_reducible refine w_nT ?_ | with_reducible refine w_nF ?_ | with_reducible refine w_iteT ?_ | with_reducible refine w_iteF ?_))
namespace K3
theorem ckRows_app : ∀ (xs ys : List (Rw × Option Nat)) (L : AL), ckRows L (xs ++ ys) = thenF (ckRows L xs) (ckRows (L ++ alOf xs) ys)
  | [], ys, L => by
    show ckRows L ys = ckRows (L ++ []) ys
    rw [List.append_nil]
  | (r, ar) :: xs, ys, L => by
    show thenF (ckRow L r ar) (ckRows (if r.isN then L ++ [(r.name, r, ar)] else L) (xs ++ ys)) = thenF (thenF (ckRow L r ar) (ckRows (if r.isN then L ++ [(r.name, r, ar)] else L) xs)) (ckRows (L ++ alOf ((r, ar) :: xs)) ys)
    rw [ckRows_app xs ys]
    have e : (if r.isN then L ++ [(r.name, r, ar)] else L) ++ alOf xs = L ++ alOf ((r, ar) :: xs) := by
      unfold alOf
      rw [List.filterMap_cons]
      cases hr : r.isN <;> simp [hr]
    rw [e]
    cases ckRow L r ar <;> rfl
theorem flat_append : ∀ (xs ys : List Rw) (ar : Option Nat) (n : Nat), Rws.flat (xs ++ ys) ar n = Rws.flat xs ar n ++ Rws.flat ys ar (n + Rws.cnt xs)
  | [], ys, ar, n => by rw [List.nil_append, Rws.flat, Rws.cnt]; rfl
  | r :: xs, ys, ar, n => by rw [List.cons_append, Rws.flat, Rws.flat, flat_append xs ys, Rws.cnt, List.append_assoc, Nat.add_assoc]
theorem thenF_assoc (a b c : Option Flt) : thenF (thenF a b) c = thenF a (thenF b c) := by cases a <;> rfl
theorem ckRow_fields (L : AL) (r : Rw) (ar : Option Nat) : ckRow L r ar = thenF (fieldsF L r ar) (ckConds L ar r.conds) := by
  unfold ckRow fieldsF
  simp only [thenF_assoc]
theorem alOf_app (xs ys : List (Rw × Option Nat)) : alOf (xs ++ ys) = alOf xs ++ alOf ys := by unfold alOf; rw [List.filterMap_append]
theorem alOf_len (xs : List (Rw × Option Nat)) : (alOf xs).length ≤ xs.length := List.length_filterMap_le ..
theorem flat_head : ∀ (r : Rw) (ar : Option Nat) (n : Nat), ∃ tl, r.flat ar n = (r, ar) :: tl
  | .sect rs w, ar, n => ⟨_, by rw [Rw.flat]⟩
  | .rounds c rs w, ar, n => ⟨_, by rw [Rw.flat]⟩
  | .one _ _ _, ar, n => ⟨[], by rw [Rw.flat]⟩
  | .some _ _ _, ar, n => ⟨[], by rw [Rw.flat]⟩
  | .number _ _ _ _, ar, n => ⟨[], by rw [Rw.flat]⟩
  | .check _ _ _, ar, n => ⟨[], by rw [Rw.flat]⟩
theorem wh_cdep (r : Rw) : odep r.wh ≤ r.cdep := by
  cases r with
  | check n m w => exact Nat.le_max_right ..
  | _ => exact Nat.le_refl _
/-- what the law looks at in a row -/
theorem dr_info {H : Hp} {v : V} {r : Rw} (h : DR H v r) (ar : Option Nat) (n : Nat) : ∃ (t : Addr) (kd : Str) (rest : List V) (wv : V), v = V.ref t ∧ H t = some (.tup (.str kd :: rest)) ∧ atI (.str kd :: rest) (-1) = some wv ∧ DW H wv r.wh ∧
    ((decide (V.str kd = V.str "check") = true ∧ ∃ z c w mv, r = .check z c w ∧ atI (.str kd :: rest) 2 = some mv ∧ DC H mv c) ∨ (decide (V.str kd = V.str "check") = false ∧ r.mu = [])) ∧
    ((r.isN = true ∧ inV (.str kd) [.str "section", .str "rounds"] = false ∧ decide (V.str kd = V.str "rounds") = false ∧ atI (.str kd :: rest) 1 = some (V.str r.name) ∧ r.isQ = !decide (V.str kd = V.str "check") ∧ r.flat ar n = [(r, ar)] ∧ r.cnt = 1) ∨
     (∃ l xs rs w, r = .sect rs w ∧ kd = "section" ∧ atI (.str kd :: rest) (-2) = some (V.ref l) ∧ H l = some (.lst xs) ∧ DRs H xs rs) ∨
     (∃ l xs c rs w, r = .rounds c rs w ∧ kd = "rounds" ∧ atI (.str kd :: rest) (-2) = some (V.ref l) ∧ H l = some (.lst xs) ∧ DRs H xs rs)) := by
  cases h with
  | one h hl hw => exact ⟨_, _, _, _, rfl, h, rfl, hw, .inr ⟨by decide +kernel, rfl⟩, .inl ⟨rfl, by decide +kernel, by decide +kernel, rfl, (show true = !decide (V.str "one" = V.str "check") by decide +kernel), by unfold Rw.flat; rfl, by unfold Rw.cnt; rfl⟩⟩
  | some h hl hw => exact ⟨_, _, _, _, rfl, h, rfl, hw, .inr ⟨by decide +kernel, rfl⟩, .inl ⟨rfl, by decide +kernel, by decide +kernel, rfl, (show true = !decide (V.str "some" = V.str "check") by decide +kernel), by unfold Rw.flat; rfl, by unfold Rw.cnt; rfl⟩⟩
  | number h hw => exact ⟨_, _, _, _, rfl, h, rfl, hw, .inr ⟨by decide +kernel, rfl⟩, .inl ⟨rfl, by decide +kernel, by decide +kernel, rfl, (show true = !decide (V.str "number" = V.str "check") by decide +kernel), by unfold Rw.flat; rfl, by unfold Rw.cnt; rfl⟩⟩
  | check h hm hw => exact ⟨_, _, _, _, rfl, h, rfl, hw, .inl ⟨by decide +kernel, _, _, _, _, rfl, rfl, hm⟩, .inl ⟨rfl, by decide +kernel, by decide +kernel, rfl, (show false = !decide (V.str "check" = V.str "check") by decide +kernel), by unfold Rw.flat; rfl, by unfold Rw.cnt; rfl⟩⟩
  | sect h hl hr hw => exact ⟨_, _, _, _, rfl, h, rfl, hw, .inr ⟨by decide +kernel, rfl⟩, .inr (.inl ⟨_, _, _, _, rfl, rfl, rfl, hl, hr⟩)⟩
  | rounds h hl hr hw => exact ⟨_, _, _, _, rfl, h, rfl, hw, .inr ⟨by decide +kernel, rfl⟩, .inr (.inr ⟨_, _, _, _, _, rfl, rfl, rfl, hl, hr⟩)⟩
theorem must_join {K : PySem.W.Frag} {n : Nat} {b : Bool} {σ : L2.St} {H : Hp} {t : Addr} {Qr : VK} {r : Rw} {items : List V} (hσ : σ[3]? = some (some (V.ref t))) (ht : H t = some (.tup items)) (hB : RwB n r)
    (hm : (b = true ∧ ∃ z c w mv, r = .check z c w ∧ atI items 2 = some mv ∧ DC H mv c) ∨ (b = false ∧ r.mu = []))
    (k : ∀ p H' ms cs, Same H H' → H' p = some (.lst ms) → Paired (DW H') ms cs → cs.flatMap owh = r.mu → ms.length ≤ 1 → (∀ c ∈ cs, odep c < n ∧ (owh c).length ≤ 1000) → Qr (.ref p) H') :
    if b = true then tLst (tCons (tOp (rIxT K) (tVar 3) (tC (.int 2))) tNil) σ H Qr else tLst tNil σ H Qr := by
  rcases hm with ⟨rfl, z, c, w, mv, rfl, hat, hdc⟩ | ⟨rfl, hmu⟩
  · refine iteT ?_
    walk_at "go"
    refine w_var hσ ?_
    walk_at "go"
    refine w_ixT (SqT.of ht) hat ?_
    walk_at "go"
    refine ⟨(by show 1 ≤ sizeLine; decide), fun p hp => ?_⟩
    have e := Same.new hp (.lst [mv])
    refine k p _ [mv] [some c] e upd_same (.cons (.some (hdc.same e)) .nil) (by show c.simp ++ [] = c.simp; rw [List.append_nil]) (Nat.le_refl 1) fun c' hc' => ?_
    rw [List.mem_singleton.mp hc']
    exact ⟨Nat.lt_of_le_of_lt (Nat.le_max_left ..) hB.cd, hB.c2⟩
  · refine iteF ?_
    walk_at "go"
    refine ⟨Nat.zero_le _, fun p hp => ?_⟩
    have e := Same.new hp (.lst [])
    exact k p _ [] [] e upd_same .nil (by rw [hmu]; rfl) (Nat.zero_le 1) fun c' hc' => by cases hc'
theorem KnE.re {B H H' : Hp} {F nm kn : Addr} {ar ar' : Option Nat} {here here' n n' R R' : Nat} (up : ∀ b o, b ≠ F → b ≠ nm → b ≠ kn → H b = some o → H' b = some o) (tF : ∀ xs, H F ≠ some (.tup xs)) (tn : ∀ xs, H nm ≠ some (.tup xs)) (tk : ∀ xs, H kn ≠ some (.tup xs))
    (rl : ∀ a h, Rl ar here n R a h → Rl ar' here' n' R' a h) {kv : Key × V} {e : Str × Rw × Option Nat} (h : KnE B H ar here n R kv e) : KnE B H' ar' here' n' R' kv e := by
  obtain ⟨h0, t, v, hh, h1, h2, h3, h4⟩ := h
  exact ⟨h0, t, v, hh, h1, up _ _ (fun z => tF _ (by rw [← z]; exact h2)) (fun z => tn _ (by rw [← z]; exact h2)) (fun z => tk _ (by rw [← z]; exact h2)) h2, h3, rl _ _ h4⟩
theorem LFs.tF {B H : Hp} {F nm kn : Addr} {L : AL} {ar : Option Nat} {here n R : Nat} (h : LFs B H F nm kn L ar here n R) : ∀ xs, H F ≠ some (.tup xs) := fun xs z => by rw [h.f] at z; cases z
theorem LFs.tn {B H : Hp} {F nm kn : Addr} {L : AL} {ar : Option Nat} {here n R : Nat} (h : LFs B H F nm kn L ar here n R) : ∀ xs, H nm ≠ some (.tup xs) := fun xs z => by rw [h.nms] at z; cases z
theorem LFs.tk {B H : Hp} {F nm kn : Addr} {L : AL} {ar : Option Nat} {here n R : Nat} (h : LFs B H F nm kn L ar here n R) : ∀ xs, H kn ≠ some (.tup xs) := fun xs z => by obtain ⟨kvs, h1, _⟩ := h.kns; rw [h1] at z; cases z
theorem LFs.nF {B H : Hp} {F nm kn : Addr} {L : AL} {ar : Option Nat} {here n R : Nat} (h : LFs B H F nm kn L ar here n R) : nm ≠ F := fun z => by have := h.nms; rw [z, h.f] at this; cases this
theorem LFs.nk {B H : Hp} {F nm kn : Addr} {L : AL} {ar : Option Nat} {here n R : Nat} (h : LFs B H F nm kn L ar here n R) : nm ≠ kn := fun z => by obtain ⟨kvs, h1, _⟩ := h.kns; have := h.nms; rw [z, h1] at this; cases this
/-- other numbers, the rounds counted on -/
theorem LFs.re {B H H' : Hp} {F nm kn : Addr} {L : AL} {ar ar' : Option Nat} {here here' n n' R R' : Nat} (h : LFs B H F nm kn L ar here n R) (hFk : F ≠ kn) (up : ∀ b o, b ≠ F → H b = some o → H' b = some o)
    (f : H' F = some (.dK [(Sum.inr "names", .ref nm), (Sum.inr "known", .ref kn), (Sum.inr "rounds", .int (R' : Int))])) (rl : ∀ a k, Rl ar here n R a k → Rl ar' here' n' R' a k) (rel : ar' = none ↔ here' = 0) (bs : Same B H') : LFs B H' F nm kn L ar' here' n' R' := by
  obtain ⟨kvs, h1, h2⟩ := h.kns
  exact ⟨f, up _ _ h.nF h.nms, ⟨kvs, up _ _ (fun z => hFk z.symm) h1, L2.Paired.mapP h2 fun _ _ z => KnE.re (F := F) (nm := nm) (kn := kn) (fun b o h1 _ _ => up b o h1) h.tF h.tn h.tk rl z⟩, rel, h.own, h.nd, bs⟩
theorem nodup_snoc {α : Type} {l : List α} {z : α} (h : l.Nodup) (hz : z ∉ l) : (l ++ [z]).Nodup := by
  rw [List.nodup_append]
  exact ⟨h, by simp, fun a ha b hb => by rw [List.mem_singleton.mp hb]; exact fun q => hz (q ▸ ha)⟩
/-- one more that is named -/
theorem LFs.add {B H H' : Hp} {F nm kn : Addr} {L : AL} {ar : Option Nat} {here n R : Nat} {r : Rw} (h : LFs B H F nm kn L ar here n R) (hFk : F ≠ kn) (up : ∀ b o, b ≠ nm → b ≠ kn → H b = some o → H' b = some o) (hn : r.isN = true) (hl : look L r.name = none)
    (nms : H' nm = some (.lst ((L.map fun e => V.str e.1) ++ [V.str r.name]))) (kns : ∃ kvs, H' kn = some (.dK kvs) ∧ Paired (KnE B H' ar here (n + 1) R) kvs (qL (L ++ [(r.name, r, ar)]))) (bs : Same B H') : LFs B H' F nm kn (L ++ [(r.name, r, ar)]) ar here (n + 1) R := by
  refine ⟨up _ _ (fun z => h.nF z.symm) hFk h.f, by rw [nms, List.map_append]; rfl, kns, h.rel, fun e he => ?_, ?_, bs⟩
  · rcases List.mem_append.mp he with he | he
    · exact h.own e he
    · rw [List.mem_singleton.mp he]
      exact ⟨rfl, hn⟩
  · rw [List.map_append]
    refine nodup_snoc h.nd fun z => ?_
    have := look_isSome r.name L
    rw [hl, decide_eq_true z] at this
    cases this
theorem Rl.up {ar : Option Nat} {here n n' R R' : Nat} (hn : n ≤ n') (hR : R ≤ R') (a : Option Nat) (h : Nat) (x : Rl ar here n R a h) : Rl ar here n' R' a h := ⟨x.1, x.2.1, fun p hp => Nat.lt_of_lt_of_le (x.2.2.1 p hp) hn, Nat.le_trans x.2.2.2 hR⟩
theorem Rl.enter {n R : Nat} (a : Option Nat) (h : Nat) (x : Rl none 0 n R a h) : Rl (some n) (R + 1) (n + 1) (R + 1) a h :=
  ⟨x.1, ⟨fun z => absurd (x.2.2.1 n z) (Nat.lt_irrefl n), fun z => absurd x.2.2.2 (by omega)⟩, fun p hp => Nat.lt_succ_of_lt (x.2.2.1 p hp), Nat.le_succ_of_le x.2.2.2⟩
theorem Rl.leave {ar : Option Nat} {here n R : Nat} (a : Option Nat) (h : Nat) (x : Rl ar here n R a h) : Rl none 0 n R a h := ⟨x.1, x.1, x.2.2.1, x.2.2.2⟩
theorem qL_app (L M : AL) : qL (L ++ M) = qL L ++ qL M := by unfold qL; rw [List.filter_append]
theorem dget_known {H : Hp} {F nm kn : Addr} {R : Nat} (h : H F = some (.dK [(Sum.inr "names", .ref nm), (Sum.inr "known", .ref kn), (Sum.inr "rounds", .int (R : Int))])) : DGet H F (.str "known") (some (.ref kn)) := by
  have e : valV [((Sum.inr "names" : Key), V.ref nm), (Sum.inr "known", .ref kn), (Sum.inr "rounds", .int (R : Int))] (Sum.inr "known") = some (.ref kn) := by
    rw [valV_neg (show ¬ (Sum.inr ("names" : Str) : Key) = (Sum.inr ("known" : Str) : Key) by decide), valV_pos (show (Sum.inr ("known" : Str) : Key) = (Sum.inr ("known" : Str) : Key) from rfl)]
  rw [← e]
  exact DGet.k (k := Sum.inr "known") h
theorem put_rounds (nm kn : Addr) (a b : V) : putK [((Sum.inr "names" : Key), V.ref nm), (Sum.inr "known", .ref kn), (Sum.inr "rounds", a)] (Sum.inr ("rounds" : Str)) b = [((Sum.inr "names" : Key), V.ref nm), (Sum.inr "known", .ref kn), (Sum.inr "rounds", b)] := by
  have h1 : ¬ (Sum.inr ("names" : Str) : Key) = (Sum.inr ("rounds" : Str) : Key) := by decide
  have h2 : ¬ (Sum.inr ("known" : Str) : Key) = (Sum.inr ("rounds" : Str) : Key) := by decide
  unfold putK
  simp [h1, h2]
def AmissEnd (B H : Hp) (F nm kn : Addr) (L : AL) (ar : Option Nat) (here m R : Nat) (rs : List Rw) (Q : VK) : Prop := match ckRows L (Rws.flat rs ar m) with
  | some ft => ∀ v H', BM [F, nm, kn] H H' → FV H' v (some ft) → Q v H'
  | none => ∀ H' R', BM [F, nm, kn] H H' → R ≤ R' → LFs B H' F nm kn (L ++ alOf (Rws.flat rs ar m)) ar here (m + Rws.cnt rs) R' → Q .non H'
def spAmiss (K : PySem.W.Frag) (n d : Nat) : Sp := fun vs H Q _ => ∃ (B : Hp) (F nm kn l : Addr) (xs : List V) (rs : List Rw) (L : AL) (ar : Option Nat) (here m R : Nat), vs = [.ref F, .ref l, .int (here : Int)] ∧ LFs B H F nm kn L ar here m R ∧ F ≠ kn ∧ B F = none ∧ B nm = none ∧ B kn = none ∧
  B l = some (.lst xs) ∧ DRs B xs rs ∧ Rws.dep rs < d ∧ (∀ e ∈ Rws.flat rs ar m, RwB n e.1) ∧ (∀ p, ar = some p → p < m) ∧ here ≤ R ∧ L.length + Rws.cnt rs ≤ 1000 ∧ AmissEnd B H F nm kn L ar here m R rs Q
section
variable {P : Program} {w : World} {K : PySem.W.Frag} {mg : Str → Option Value} {base : Heap}
theorem sc_amiss : FnScope ["_law_f", "_law_rows_here", "_law_here", "_law_row", "_law_fault", "_law_must", "_law_inside"] ["_law_f", "_law_rows_here", "_law_here"] (defScope s__law_amiss) := ⟨rfl, rfl, rfl, by decide +kernel, rfl, by decide +kernel, by decide +kernel⟩
theorem ok_amiss (T : Tx K mg) (n d : Nat) : Ok P w K mg base (d + (n + 3)) (He.ga K "_law_amiss") ["_law_f", "_law_rows_here", "_law_here"] (spAmiss K n d) := by
  induction d with
  | zero =>
    obtain ⟨fd, F⟩ := T.f__law_amiss
    exact ⟨fd, ok_none' fun vs H Q E ⟨_, _, _, _, _, _, _, _, _, _, _, _, _, _, _, _, _, _, _, _, h, _⟩ => absurd h (Nat.not_lt_zero _), F.bindsN fun _ _ _ _ _ _ us hl => match us, hl with | [_, _, _], _ => rfl, F.kp⟩
  | succ d Oa =>
  obtain ⟨fd, F⟩ := T.f__law_amiss
  rw [show d + 1 + (n + 3) = d + (n + 3) + 1 by omega]
  refine ⟨fd, F.ok (k := d + (n + 3)) sc_amiss (fun vs H Q E h => ?_) (fun cdv A outer s H vs Q E hr h => ?_), F.bindsN fun _ _ _ _ _ _ us hl => match us, hl with | [_, _, _], _ => rfl, F.kp⟩
  · obtain ⟨B, F, nm, kn, l, xs, rs, L, ar, here, m, R, rfl, _⟩ := h
    rfl
  obtain ⟨B, F, nm, kn, l, xs, rs, L, ar, here, m, R, rfl, hL, hFk, hBF, hBn, hBk, hl, hrs, hd, hB, hp, hR, hc, q⟩ := h
  refine ⟨_, pss_cons (ps_for (passes_of rfl) rfl (pi_list (pv 1)) (pg_name (i := 3) sc_amiss.nd rfl (Or.inl rfl)) (pss_cons (ps_set (i := 4) sc_amiss.nd rfl (Or.inl rfl) (pe_f (ok_fieldsA T) (hr.mono (by omega)) T.g__law_fields_amiss (pa_cons (pv 0) (pa_cons (pv 3) (pa_cons (pv 2) pa_nil)))))
      (pss_cons (ps_set (i := 5) sc_amiss.nd rfl (Or.inl rfl) (pe_ifExp (pt_cmpR op_eq (pe_ix ix_tup (pv 3) pe_int (fun _ _ => rfl)) pe_str (nomark _)) (pe_lst (pa_cons (pe_ix ix_tup (pv 3) pe_int (fun _ _ => rfl)) pa_nil)) (pe_lst pa_nil)))
      (pss_cons (ps_if (pt_cmp (pc_isN (pv 4))) (pss_one (ps_set (i := 4) sc_amiss.nd rfl (Or.inl rfl) (pe_f (ok_condsA T n) (hr.mono (by omega)) T.g__law_conditions_amiss (pa_cons (pv 0) (pa_cons (pe_op op_cat (pe_lst (pa_cons (pe_ix ix_tup (pv 3) (pe_un un_neg pe_int) (fun _ _ => rfl)) pa_nil)) (pv 5)) (pa_cons (pv 2) pa_nil)))))) pss_nil)
      (pss_cons (ps_if (pt_cmp (pc_notN (pv 4))) (pss_one (ps_ret (pv 4))) pss_nil)
      (pss_cons (ps_set (i := 6) sc_amiss.nd rfl (Or.inl rfl) (pv 2))
      (pss_cons (ps_if (pt_cmpR op_eq (pe_ix ix_tup (pv 3) pe_int (fun _ _ => rfl)) pe_str (nomark _)) (pss_cons (ps_dput (hu_of hr) (pv 0) pe_str (pe_op op_add (pe_dget (hu_of hr) (pv 0) pe_str (fun _ _ => rfl)) pe_int) rfl)
      (pss_one (ps_set (i := 6) sc_amiss.nd rfl (Or.inl rfl) (pe_dget (hu_of hr) (pv 0) pe_str (fun _ _ => rfl))))) pss_nil)
      (pss_one (ps_if (pt_cmpR op_in_seq (pe_ix ix_tup (pv 3) pe_int (fun _ _ => rfl)) (pe_lst (pa_cons pe_str (pa_cons pe_str pa_nil))) (by rfl)) (pss_cons (ps_set (i := 4) sc_amiss.nd rfl (Or.inl rfl) (pe_f Oa hr T.g__law_amiss (pa_cons (pv 0) (pa_cons (pe_ix ix_tup (pv 3) (pe_un un_neg pe_int) (fun _ _ => rfl)) (pa_cons (pv 6) pa_nil)))))
      (pss_one (ps_if (pt_cmp (pc_notN (pv 4))) (pss_one (ps_ret (pv 4))) pss_nil))) (pss_cons (ps_expr (pe_bm PySem.F.plainAttrs_list PySem.F.slot_list_append PySem.F.type_list_append mt_append (pe_dget (hu_of hr) (pv 0) pe_str (fun _ _ => rfl)) (pa_cons (pe_ix ix_tup (pv 3) pe_int (fun _ _ => rfl)) pa_nil)))
      (pss_one (ps_if (pt_cmpR op_ne (pe_ix ix_tup (pv 3) pe_int (fun _ _ => rfl)) pe_str (nomark _)) (pss_one (ps_dput (hu_of hr) (pe_dget (hu_of hr) (pv 0) pe_str (fun _ _ => rfl)) (pe_ix ix_tup (pv 3) pe_int (fun _ _ => rfl)) (pe_tup (pa_cons (pv 3) (pa_cons (pv 2) pa_nil))) rfl)) pss_nil))))))))))))
      (pss_one (ps_ret pe_non)), ?_⟩
  have lr := hrs.len
  walk_at "go"
  refine ⟨_, rfl, l, rfl, ⟨_, SqL.of (hL.bs _ _ hl)⟩, ?_⟩
  refine for_list (K := K) (a := l) (xs := xs) (fun (i : Nat) σ H' => ∃ (o3 o4 o5 o6 : Option V) (R' : Nat), σ = [some (.ref F), some (.ref l), some (.int (here : Int)), o3, o4, o5, o6] ∧ BM [F, nm, kn] H H' ∧ R ≤ R' ∧ LFs B H' F nm kn (L ++ alOf (Rws.flat (rs.take i) ar m)) ar here (m + Rws.cnt (rs.take i)) R' ∧ ckRows L (Rws.flat (rs.take i) ar m) = none)
    ⟨none, none, none, none, R, rfl, BM.refl _ _, Nat.le_refl _, by rw [List.take_zero, Rws.flat, Rws.cnt]; show LFs B H F nm kn (L ++ []) ar here m R; rw [List.append_nil]; exact hL, by rw [List.take_zero, Rws.flat]; rfl⟩ (fun i σ H' _ ⟨_, _, _, _, _, _, _, _, hLi, _⟩ => SqL.of (hLi.bs _ _ hl)) ?_ ?_
  · rintro i x σ H1 hxi ⟨o3, o4, o5, o6, R1, rfl, b1, hR1, hL1, hck⟩
    obtain ⟨r, hri, hdr⟩ := hrs.get hxi
    have rm := one_of hri
    have hfl : Rws.flat (rs.take (i + 1)) ar m = Rws.flat (rs.take i) ar m ++ r.flat ar (m + Rws.cnt (rs.take i)) := by rw [List.take_add_one, hri]; exact Rws.flat_app r ar _ m
    have hcn : Rws.cnt (rs.take (i + 1)) = Rws.cnt (rs.take i) + r.cnt := by rw [List.take_add_one, hri]; exact Rws.cnt_app r _
    have hall : Rws.flat rs ar m = Rws.flat (rs.take (i + 1)) ar m ++ Rws.flat (rs.drop (i + 1)) ar (m + Rws.cnt (rs.take (i + 1))) := by rw [← flat_append, List.take_append_drop]
    have hlen1 : (L ++ alOf (Rws.flat (rs.take i) ar m)).length + r.cnt ≤ 1000 := by
      have a1 := alOf_len (Rws.flat (rs.take i) ar m)
      rw [Rws.flat_len] at a1
      have a2 := Rws.cnt_take rs (i + 1)
      rw [hcn] at a2
      rw [List.length_append]
      omega
    have hBr : ∀ e ∈ r.flat ar (m + Rws.cnt (rs.take i)), RwB n e.1 := fun e he => hB e (by rw [hall, hfl]; exact List.mem_append_left _ (List.mem_append_right _ he))
    have hpm : ∀ p, ar = some p → p < m + Rws.cnt (rs.take i) := fun p z => by have := hp p z; omega
    have fullA : ∀ f, ckRows (L ++ alOf (Rws.flat (rs.take i) ar m)) (r.flat ar (m + Rws.cnt (rs.take i))) = some f → ckRows L (Rws.flat rs ar m) = some f := fun f hf => by rw [hall, ckRows_app, hfl, ckRows_app, hck, hf]; rfl
    have goodA : ckRows (L ++ alOf (Rws.flat (rs.take i) ar m)) (r.flat ar (m + Rws.cnt (rs.take i))) = none → ckRows L (Rws.flat (rs.take (i + 1)) ar m) = none := fun hf => by rw [hfl, ckRows_app, hck, hf]; rfl
    have halA : L ++ alOf (Rws.flat (rs.take (i + 1)) ar m) = L ++ alOf (Rws.flat (rs.take i) ar m) ++ alOf (r.flat ar (m + Rws.cnt (rs.take i))) := by rw [hfl, alOf_app, ← List.append_assoc]
    have hcnA : m + Rws.cnt (rs.take (i + 1)) = m + Rws.cnt (rs.take i) + r.cnt := by rw [hcn]; omega
    clear hfl hall hcn
    generalize m + Rws.cnt (rs.take i) = m1 at *
    generalize L ++ alOf (Rws.flat (rs.take i) ar m) = L1 at *
    obtain ⟨tl, htl⟩ := flat_head r ar m1
    have hBr0 : RwB n r := hBr (r, ar) (by rw [htl]; exact List.mem_cons_self ..)
    obtain ⟨t, kd, rest, wv, rfl, ht, hwv, hdw, hmu, hkind⟩ := dr_info hdr ar m1
    have ret : ∀ f v H', BM [F, nm, kn] H H' → FV H' v (some f) → ckRows L1 (r.flat ar m1) = some f → Q v H' := fun f v H' hb hv hf => by
      have := fullA f hf
      unfold AmissEnd at q
      rw [this] at q
      exact q v H' hb hv
    walk_at "go"
    refine ⟨n, B, F, nm, kn, .ref t, r, L1, ar, here, m1, R1, rfl, hL1, hdr.same hL1.bs, hBr0, fun v2 H2 e2 hv2 => ?_⟩
    have hL2 := hL1.same e2
    walk_at "go"
    (refine w_ixT (SqT.of (hL2.bs _ _ ht)) (atI_nat (j := 0) rfl) ?_; walk_at "go")
    refine ⟨rfl, ?_⟩
    walk_at "go"
    refine must_join (n := n) (r := r) rfl (hL2.bs _ _ ht) hBr0 (hmu.imp (fun ⟨a, z, c, w, mv, h1, h2, h3⟩ => ⟨a, z, c, w, mv, h1, h2, h3.same hL2.bs⟩) id) fun p3 H3 ms cs e3 hp3 hms hcs hml hcb => ?_
    have hL3 := hL2.same e3
    have b3 := b1.trans (BM.of (M := [F, nm, kn]) (e2.trans e3))
    walk_at "go"
    cases hf : fieldsF L1 r ar with
    | some f =>
      rw [hf] at hv2
      obtain ⟨t2, rfl, ht2⟩ := hv2
      rw [show decide (V.ref t2 = V.non) = false from rfl]
      walk_at "go"
      rw [show (!decide (V.ref t2 = V.non)) = true from rfl]
      walk_at "go"
      exact ret f _ _ b3 ⟨t2, rfl, e3 _ _ ht2⟩ (by rw [htl]; show thenF (ckRow L1 r ar) _ = _; rw [ckRow_fields, hf]; rfl)
    | none =>
      rw [hf] at hv2
      have hv2 : v2 = .non := hv2
      subst hv2
      rw [show decide (V.non = V.non) = true from rfl]
      walk_at "go"
      refine ⟨1, rfl, ?_⟩
      (refine w_ixT (SqT.of (hL3.bs _ _ ht)) hwv ?_; walk_at "go")
      refine ⟨(by show 1 ≤ sizeLine; decide), fun p4 hp4 => ?_⟩
      have e4 := Same.new hp4 (.lst [wv])
      walk_at "go"
      refine ⟨p4, p3, _, _, rfl, rfl, upd_same, e4 _ _ hp3, Nat.le_trans (show 1 + ms.length ≤ 2 by omega) (by decide), fun p5 hp5 => ?_⟩
      have e5 := e4.trans (Same.new hp5 (.lst ([wv] ++ ms)))
      have hp5' : (upd (upd H3 p4 (.lst [wv])) p5 (.lst ([wv] ++ ms))) p5 = some (.lst (wv :: ms)) := upd_same
      generalize upd (upd H3 p4 (.lst [wv])) p5 (.lst ([wv] ++ ms)) = H5 at e5 hp5' ⊢
      have hL5 := hL3.same e5
      walk_at "go"
      refine ⟨B, F, nm, kn, p5, wv :: ms, r.wh :: cs, L1, ar, here, m1, R1, rfl, hL5, hp5', .cons (hdw.same hL5.bs) (L2.Paired.mapP hms fun _ _ z => z.same e5), fun c hc => ?_, fun v6 H6 e6 hv6 => ?_⟩
      · rcases List.mem_cons.mp hc with rfl | hc
        · exact ⟨Nat.lt_of_le_of_lt (wh_cdep r) hBr0.cd, hBr0.c1⟩
        · exact hcb c hc
      have econds : (r.wh :: cs).flatMap owh = r.conds := by rw [List.flatMap_cons, hcs]; rfl
      rw [econds] at hv6
      have hL6 := hL5.same e6
      have b6 := b3.trans (BM.of (M := [F, nm, kn]) (e5.trans e6))
      walk_at "go"
      cases hcc : ckConds L1 ar r.conds with
      | some f =>
        rw [hcc] at hv6
        obtain ⟨t2, rfl, ht2⟩ := hv6
        rw [show (!decide (V.ref t2 = V.non)) = true from rfl]
        walk_at "go"
        exact ret f _ _ b6 ⟨t2, rfl, ht2⟩ (by rw [htl]; show thenF (ckRow L1 r ar) _ = _; rw [ckRow_fields, hf, hcc]; rfl)
      | none =>
        rw [hcc] at hv6
        have hv6 : v6 = .non := hv6
        subst hv6
        rw [show (!decide (V.non = V.non)) = false from rfl]
        have hrow : ckRow L1 r ar = none := by rw [ckRow_fields, hf, hcc]; rfl
        walk_at "go"
        (refine w_ixT (SqT.of (hL6.bs _ _ ht)) (atI_nat (j := 0) rfl) ?_; walk_at "go")
        rcases hkind with ⟨hn, hin, hnr, hnm, hq, hflat, hcnt⟩ | ⟨l5, ys, rs5, w5, rfl, rfl, hl2, hl5, hrs5⟩ | ⟨l5, ys, c5, rs5, w5, rfl, rfl, hl2, hl5, hrs5⟩
        · refine w_sEq false hnr ?_
          walk_at "go"
          (refine w_ixT (SqT.of (hL6.bs _ _ ht)) (atI_nat (j := 0) rfl) ?_; walk_at "go")
          refine ⟨(by show 2 ≤ sizeLine; decide), fun p7 hp7 => ?_⟩
          refine ⟨p7, _, rfl, .inl (SqL.of upd_same), rfl, rfl, ?_⟩
          have e7 := Same.new hp7 (.lst [V.str "section", .str "rounds"])
          walk_at "go"
          generalize upd H6 p7 _ = H7 at e7 ⊢
          rw [show inV (.str kd) [V.str "section", .str "rounds"] = false from hin]
          have hL7 := hL6.same e7
          have b7 := b6.trans (BM.of (M := [F, nm, kn]) e7)
          walk_at "go"
          have hlk := ckRow_new hrow hn
          have hl1 : L1.length ≤ 1000 := by omega
          refine ⟨_, rfl, F, _, rfl, hL7.names, .inl ⟨rfl, _, SqL.of hL7.nms⟩, ?_⟩
          walk_at "go"
          (refine w_ixT (SqT.of (hL7.bs _ _ ht)) hnm ?_; walk_at "go")
          refine ⟨nm, _, _, rfl, rfl, hL7.nms, Nat.lt_of_le_of_lt (show (L1.map fun e => V.str e.1).length ≤ 1000 by rw [List.length_map]; exact hl1) (by decide), ?_⟩
          have bs8 : Same B (upd H7 nm (.lst ((L1.map fun e => V.str e.1) ++ [.str r.name]))) := hL7.bs.mut hBn
          have b8 : BM [F, nm, kn] H (upd H7 nm (.lst ((L1.map fun e => V.str e.1) ++ [.str r.name]))) := b7.trans (BM.upd (by simp) _)
          have up8 : ∀ b o, b ≠ nm → H7 b = some o → (upd H7 nm (.lst ((L1.map fun e => V.str e.1) ++ [.str r.name]))) b = some o := fun b o hb h => by rw [upd_ne hb]; exact h
          have nms8 : (upd H7 nm (.lst ((L1.map fun e => V.str e.1) ++ [.str r.name]))) nm = some (.lst ((L1.map fun e => V.str e.1) ++ [.str r.name])) := upd_same
          generalize upd H7 nm (.lst ((L1.map fun e => V.str e.1) ++ [.str r.name])) = H8 at bs8 b8 up8 nms8 ⊢
          walk_at "go"
          (refine w_ixT (SqT.of (bs8 _ _ ht)) (atI_nat (j := 0) rfl) ?_; walk_at "go")
          refine ⟨rfl, ?_⟩
          walk_at "go"
          rw [← hq]
          obtain ⟨kvs, hkn, hpk⟩ := hL7.kns
          have hkn8 := up8 _ _ hL7.nk.symm hkn
          have hck1 : ckRows L1 (r.flat ar m1) = none := by rw [hflat]; show thenF (ckRow L1 r ar) none = none; rw [hrow] <;> rfl
          have hal : alOf (r.flat ar m1) = [(r.name, r, ar)] := by rw [hflat]; unfold alOf; rw [List.filterMap_cons]; simp [hn]
          cases hqq : r.isQ with
          | false =>
            walk_at "go"
            refine ⟨_, _, _, _, R1, rfl, b8, hR1, ?_, goodA hck1⟩
            rw [halA, hal, hcnA, hcnt]
            refine hL7.add hFk (fun b o h1 _ h => up8 b o h1 h) hn hlk nms8 ⟨kvs, hkn8, ?_⟩ bs8
            have eq : qL (L1 ++ [(r.name, r, ar)]) = qL L1 := by rw [qL_app]; unfold qL; simp [hqq]
            rw [eq]
            exact L2.Paired.mapP hpk fun _ _ z => KnE.re (F := F) (nm := nm) (kn := kn) (fun b o _ h1 _ h => up8 b o h1 h) hL7.tF hL7.tn hL7.tk (Rl.up (Nat.le_succ _) (Nat.le_refl _)) z
          | true =>
            walk_at "go"
            refine ⟨_, rfl, _, rfl, (by show 2 ≤ sizeLine; decide), fun t2 ht2 => ?_⟩
            have e9 : Same H8 (upd H8 t2 (.tup [.ref t, .int (here : Int)])) := Same.new ht2 _
            have ht2' : (upd H8 t2 (.tup [.ref t, .int (here : Int)])) t2 = some (.tup [.ref t, .int (here : Int)]) := upd_same
            generalize upd H8 t2 (.tup [.ref t, .int (here : Int)]) = H9 at e9 ht2' ⊢
            have hF9 := e9 _ _ (up8 _ _ hL7.nF.symm hL7.f)
            refine ⟨_, rfl, F, _, rfl, dget_known hF9, ?_⟩
            show tOp (rIxT K) (tVar 3) (tC (.int 1)) _ _ _
            walk_at "go"
            (refine w_ixT (SqT.of ((bs8.trans e9) _ _ ht)) hnm ?_; walk_at "go")
            have hkn9 := e9 _ _ hkn8
            have lk : kvs.length ≤ 1000 := by
              rw [hpk.length]
              exact Nat.le_trans (List.length_filter_le ..) hl1
            refine ⟨kn, _, rfl, DPut.k (k := Sum.inr r.name) hkn9 (Nat.lt_of_le_of_lt lk (by decide)), ?_⟩
            have hval : valV kvs (Sum.inr r.name) = none := by
              rcases look_kn r.name hL7.nd hpk with ⟨h1, _⟩ | ⟨_, _, _, _, _, _, h2, _⟩
              · exact h1
              · rw [hlk] at h2; cases h2
            have hput : putK kvs (Sum.inr r.name) (.ref t2) = kvs ++ [(Sum.inr r.name, .ref t2)] := by
              unfold putK
              rw [valV_any, hval, if_neg (by decide)]
            rw [hput]
            have up10 : ∀ b o, b ≠ nm → b ≠ kn → H7 b = some o → (upd H9 kn (.dK (kvs ++ [(Sum.inr r.name, .ref t2)]))) b = some o := fun b o h1 h2 h => by rw [upd_ne h2]; exact e9 _ _ (up8 b o h1 h)
            refine ⟨_, _, _, _, R1, rfl, (b8.trans (BM.of e9)).trans (BM.upd (by simp) _), hR1, ?_, goodA hck1⟩
            rw [halA, hal, hcnA, hcnt]
            refine hL7.add hFk up10 hn hlk (by rw [upd_ne hL7.nk]; exact e9 _ _ nms8) ⟨_, upd_same, ?_⟩ ((bs8.trans e9).mut hBk)
            have eq : qL (L1 ++ [(r.name, r, ar)]) = qL L1 ++ [(r.name, r, ar)] := by rw [qL_app]; unfold qL; simp [hqq]
            rw [eq]
            refine K3.Paired.app (L2.Paired.mapP hpk fun _ _ z => KnE.re (F := F) (nm := nm) (kn := kn) (fun b o _ h1 h2 h => up10 b o h1 h2 h) hL7.tF hL7.tn hL7.tk (Rl.up (Nat.le_succ _) (Nat.le_refl _)) z) (.cons ⟨rfl, t2, .ref t, here, rfl, ?_, hdr, hL7.rel, Iff.intro (fun _ => rfl) (fun _ => rfl), fun p z => Nat.lt_succ_of_lt (hpm p z), Nat.le_trans hR hR1⟩ .nil)
            rw [upd_ne (fun z => by rw [z, hkn8] at ht2; cases ht2)]
            exact ht2'
        · refine w_sEq false (by decide +kernel) ?_
          walk_at "go"
          (refine w_ixT (SqT.of (hL6.bs _ _ ht)) (atI_nat (j := 0) rfl) ?_; walk_at "go")
          refine ⟨(by show 2 ≤ sizeLine; decide), fun p7 hp7 => ?_⟩
          refine ⟨p7, _, rfl, .inl (SqL.of upd_same), rfl, rfl, ?_⟩
          have e7 := Same.new hp7 (.lst [V.str "section", .str "rounds"])
          walk_at "go"
          generalize upd H6 p7 _ = H7 at e7 ⊢
          rw [show inV (.str "section") [V.str "section", .str "rounds"] = true by decide +kernel]
          have hL7 := hL6.same e7
          have b7 := b6.trans (BM.of (M := [F, nm, kn]) e7)
          walk_at "go"
          refine ⟨2, rfl, ?_⟩
          (refine w_ixT (SqT.of (hL7.bs _ _ ht)) hl2 ?_; walk_at "go")
          have b1d := dep_mem rm
          rw [Rw.dep] at b1d
          rw [Rw.cnt] at hlen1
          have hflat : (Rw.sect rs5 w5).flat ar m1 = (Rw.sect rs5 w5, ar) :: Rws.flat rs5 ar (m1 + 1) := by rw [Rw.flat]
          have hck1 : ckRows L1 ((Rw.sect rs5 w5).flat ar m1) = ckRows L1 (Rws.flat rs5 ar (m1 + 1)) := by
            rw [hflat]
            show thenF (ckRow L1 (.sect rs5 w5) ar) (ckRows L1 (Rws.flat rs5 ar (m1 + 1))) = _
            rw [hrow] <;> rfl
          have hal : alOf ((Rw.sect rs5 w5).flat ar m1) = alOf (Rws.flat rs5 ar (m1 + 1)) := by rw [hflat]; unfold alOf; rw [List.filterMap_cons]; rfl
          refine ⟨B, F, nm, kn, l5, ys, rs5, L1, ar, here, m1 + 1, R1, rfl, hL7.re hFk (fun b o _ h => h) hL7.f (Rl.up (Nat.le_succ _) (Nat.le_refl _)) hL7.rel hL7.bs, hFk, hBF, hBn, hBk, hl5, hrs5, by omega, fun e he => hBr e (by rw [hflat]; exact List.mem_cons_of_mem _ he), fun p z => Nat.lt_succ_of_lt (hpm p z), by omega, by omega, ?_⟩
          unfold AmissEnd
          cases hi : ckRows L1 (Rws.flat rs5 ar (m1 + 1)) with
          | some f =>
            intro v8 H8 b8 hv8
            obtain ⟨t8, rfl, ht8⟩ := hv8
            walk_at "go"
            rw [show (!decide (V.ref t8 = V.non)) = true from rfl]
            walk_at "go"
            exact ret f _ _ (b7.trans b8) ⟨t8, rfl, ht8⟩ (by rw [hck1, hi])
          | none =>
            intro H8 R8 b8 hR8 hL8
            walk_at "go"
            rw [show (!decide (V.non = V.non)) = false from rfl]
            walk_at "go"
            refine ⟨_, _, _, _, R8, rfl, b7.trans b8, by omega, ?_, goodA (by rw [hck1, hi])⟩
            rw [halA, hal, hcnA, Rw.cnt, show m1 + (1 + Rws.cnt rs5) = m1 + 1 + Rws.cnt rs5 by omega]
            exact hL8
        · refine w_sEq true (by decide +kernel) ?_
          walk_at "go"
          have har : ar = none := by
            rw [fields_rounds] at hf
            by_cases c : rs5.length = 0
            · rw [if_pos c] at hf; cases hf
            · rw [if_neg c] at hf
              by_cases c2 : ar = none
              · exact c2
              · rw [if_neg c2] at hf; cases hf
          subst har
          have hh : here = 0 := hL6.rel.mp rfl
          subst hh
          refine ⟨_, rfl, F, _, rfl, hL6.rounds, _, _, rfl, rfl, ?_⟩
          refine ⟨_, rfl, F, _, rfl, DPut.k (k := Sum.inr ("rounds" : Str)) hL6.f (by show 3 < sizeLine; decide), ?_⟩
          rw [put_rounds]
          have bs8 : Same B (upd H6 F (.dK [(Sum.inr "names", .ref nm), (Sum.inr "known", .ref kn), (Sum.inr "rounds", .int ((R1 : Int) + 1))])) := hL6.bs.mut hBF
          have b8 : BM [F, nm, kn] H (upd H6 F (.dK [(Sum.inr "names", .ref nm), (Sum.inr "known", .ref kn), (Sum.inr "rounds", .int ((R1 : Int) + 1))])) := b6.trans (BM.upd (by simp) _)
          have hL8 : LFs B (upd H6 F (.dK [(Sum.inr "names", .ref nm), (Sum.inr "known", .ref kn), (Sum.inr "rounds", .int ((R1 : Int) + 1))])) F nm kn L1 (some m1) (R1 + 1) (m1 + 1) (R1 + 1) :=
            hL6.re hFk (fun b o hb h => by rw [upd_ne hb]; exact h) upd_same Rl.enter ⟨fun z => (by cases z), fun z => (by omega)⟩ bs8
          generalize upd H6 F (.dK [(Sum.inr "names", .ref nm), (Sum.inr "known", .ref kn), (Sum.inr "rounds", .int ((R1 : Int) + 1))]) = H8 at bs8 b8 hL8 ⊢
          walk_at "go"
          refine ⟨_, rfl, F, _, rfl, hL8.rounds, ?_⟩
          walk_at "go"
          (refine w_ixT (SqT.of (bs8 _ _ ht)) (atI_nat (j := 0) rfl) ?_; walk_at "go")
          refine ⟨(by show 2 ≤ sizeLine; decide), fun p7 hp7 => ?_⟩
          refine ⟨p7, _, rfl, .inl (SqL.of upd_same), rfl, rfl, ?_⟩
          have e7 := Same.new hp7 (.lst [V.str "section", .str "rounds"])
          walk_at "go"
          generalize upd H8 p7 _ = H9 at e7 ⊢
          rw [show inV (.str "rounds") [V.str "section", .str "rounds"] = true by decide +kernel]
          have hL9 := hL8.same e7
          have b9 := b8.trans (BM.of (M := [F, nm, kn]) e7)
          walk_at "go"
          refine ⟨2, rfl, ?_⟩
          (refine w_ixT (SqT.of (hL9.bs _ _ ht)) hl2 ?_; walk_at "go")
          have b1d := dep_mem rm
          rw [Rw.dep] at b1d
          rw [Rw.cnt] at hlen1
          have hflat : (Rw.rounds c5 rs5 w5).flat none m1 = (Rw.rounds c5 rs5 w5, none) :: Rws.flat rs5 (some m1) (m1 + 1) := by rw [Rw.flat]
          have hck1 : ckRows L1 ((Rw.rounds c5 rs5 w5).flat none m1) = ckRows L1 (Rws.flat rs5 (some m1) (m1 + 1)) := by
            rw [hflat]
            show thenF (ckRow L1 (.rounds c5 rs5 w5) none) (ckRows L1 (Rws.flat rs5 (some m1) (m1 + 1))) = _
            rw [hrow] <;> rfl
          have hal : alOf ((Rw.rounds c5 rs5 w5).flat none m1) = alOf (Rws.flat rs5 (some m1) (m1 + 1)) := by rw [hflat]; unfold alOf; rw [List.filterMap_cons]; rfl
          refine ⟨B, F, nm, kn, l5, ys, rs5, L1, some m1, R1 + 1, m1 + 1, R1 + 1, rfl, hL9, hFk, hBF, hBn, hBk, hl5, hrs5, by omega, fun e he => hBr e (by rw [hflat]; exact List.mem_cons_of_mem _ he), fun p z => by cases z; exact Nat.lt_succ_self _, Nat.le_refl _, by omega, ?_⟩
          unfold AmissEnd
          cases hi : ckRows L1 (Rws.flat rs5 (some m1) (m1 + 1)) with
          | some f =>
            intro v8 H8' b8' hv8
            obtain ⟨t8, rfl, ht8⟩ := hv8
            walk_at "go"
            rw [show (!decide (V.ref t8 = V.non)) = true from rfl]
            walk_at "go"
            exact ret f _ _ (b9.trans b8') ⟨t8, rfl, ht8⟩ (by rw [hck1, hi])
          | none =>
            intro H10 R8 b10 hR8 hL10
            walk_at "go"
            rw [show (!decide (V.non = V.non)) = false from rfl]
            walk_at "go"
            refine ⟨_, _, _, _, R8, rfl, b9.trans b10, by omega, ?_, goodA (by rw [hck1, hi])⟩
            rw [halA, hal, hcnA, Rw.cnt, show m1 + (1 + Rws.cnt rs5) = m1 + 1 + Rws.cnt rs5 by omega]
            exact hL10.re hFk (fun b o _ h => h) hL10.f Rl.leave ⟨fun _ => rfl, fun _ => rfl⟩ hL10.bs
  · rintro σ H1 ⟨o3, o4, o5, o6, R1, rfl, b1, hR1, hL1, hck⟩
    rw [lr, List.take_length] at hL1 hck
    walk_at "go"
    unfold AmissEnd at q
    rw [hck] at q
    exact q H1 R1 b1 hR1 hL1
end
end K3
end L20_part
section L21_part
set_option Elab.async false
set_option linter.all false
set_option maxRecDepth 100000
set_option maxHeartbeats 1000000
set_option pp.deepTerms.threshold 5
open PySem PySem.Spec PyProof.Rows L2
/-- go on as far as nothing is open -/
local macro_rules | `(tactic| walk_at "go") => `(tactic| repeat (first
  | with_reducible refine w_seq ?_ | with_reducible refine w_next ?_ | with_reducible refine w_set ?_ | with_reducible refine w_drop ?_ | with_reducible refine w_ret ?_ | with_reducible refine w_retN ?_
  | with_reducible refine w_if ?_ | ((with_reducible refine' w_var ?hv ?_); (case hv => exact rfl)) | with_reducible refine w_c ?_ | with_reducible refine w_nil ?_ | with_reducible refine w_cons ?_ | with_reducible refine w_op ?_ | with_reducible refine w_un ?_
  | with_reducible refine w_test ?_ | with_reducible refine w_tB ?_ | with_reducible refine w_not ?_ | with_reducible refine w_and ?_ | with_reducible refine w_or ?_ | with_reducible refine w_bl ?_
  | with_reducible refine w_andV ?_ | with_reducible refine w_orV ?_ | with_reducible refine w_notV ?_ | with_reducible refine w_ifE ?_ | with_reducible refine w_chain ?_ | with_reducible refine w_i0 ?_
  | with_reducible refine w_call ?_ | with_reducible refine w_callS ?_ | with_reducible refine w_cB ?_ | with_reducible refine w_tup ?_ | with_reducible refine w_lst ?_ | with_reducible refine w_fldV ?_
  | with_reducible refine w_neF ?_ | with_reducible refine w_neT ?_ | with_reducible refine w_notN ?_ | with_reducible refine w_isN ?_ | with_reducible refine w_gname ?_ | with_reducible refine w_gsub ?_ | with_reducible refine w_asg ?_ | with_reducible refine w_sl ?_ | with_reducible refine w_noP ?_ | with_reducible refine w_int1 ?_ | with_reducible refine w_part ?_ | with_reducible refine w_yes ?_ | with_reducible refine w_nT ?_ | with_reducible refine w_nF ?_ | with_reducible refine w_iteT ?_ | with_reducible refine w_iteF ?_))
namespace K3
theorem qL_names : ∀ F : List (Rw × Option Nat), (qL (alOf F)).map (fun e => V.str e.1) = (qsOf F).map fun r => V.str r.name
  | [] => rfl
  | (r, ar) :: F => by
    have ih := qL_names F
    have e1 : alOf ((r, ar) :: F) = (if r.isN then [(r.name, r, ar)] else []) ++ alOf F := by
      unfold alOf
      rw [List.filterMap_cons]
      cases hn : r.isN <;> simp [hn]
    have e2 : qsOf ((r, ar) :: F) = (if r.isQ then [r] else []) ++ qsOf F := by
      unfold qsOf
      rw [List.filterMap_cons]
      cases hn : r.isQ <;> simp [hn]
    rw [e1, e2, qL_app, List.map_append, List.map_append, ih]
    congr 1
    cases hq : r.isQ with
    | true =>
      rw [isQ_isN hq]
      unfold qL
      simp [hq]
    | false =>
      cases hn : r.isN <;> · unfold qL; simp [hq]
theorem kn_keys {B H : Hp} {ar : Option Nat} {here n R : Nat} : ∀ {kvs : List (Key × V)} {M : AL}, Paired (KnE B H ar here n R) kvs M → kvs.map (fun kv => kV kv.1) = M.map fun e => V.str e.1
  | _, _, .nil => rfl
  | _, _, .cons (a := kv) (b := e) h t => by
    rw [List.map_cons, List.map_cons, kn_keys t, h.1] <;> rfl
theorem merge3 (a b c : V) : mergeK [] [((Sum.inr "names" : Key), a), (Sum.inr "known", b), (Sum.inr "rounds", c)] = [((Sum.inr "names" : Key), a), (Sum.inr "known", b), (Sum.inr "rounds", c)] := by
  have h1 : ¬ (Sum.inr ("names" : Str) : Key) = (Sum.inr ("known" : Str) : Key) := by decide
  have h2 : ¬ (Sum.inr ("names" : Str) : Key) = (Sum.inr ("rounds" : Str) : Key) := by decide
  have h3 : ¬ (Sum.inr ("known" : Str) : Key) = (Sum.inr ("rounds" : Str) : Key) := by decide
  unfold mergeK putK
  simp [h1, h2, h3]
def DueV (H : Hp) (v : V) (rs : List Rw) : Prop := match formF rs with
  | some ft => ∃ t, v = .ref t ∧ H t = some (.tup (fV ft))
  | none => ∃ t k, v = .ref t ∧ H t = some (.tup [.str "told", .ref k]) ∧ H k = some (.lst ((qsOf (Rws.flat rs none 0)).map fun r => V.str r.name))
theorem DueV.same {H H' : Hp} (e : Same H H') {v : V} {rs : List Rw} (h : DueV H v rs) : DueV H' v rs := by
  unfold DueV at h ⊢
  cases hf : formF rs with
  | some ft =>
    rw [hf] at h
    obtain ⟨t, h1, h2⟩ := h
    exact ⟨t, h1, e _ _ h2⟩
  | none =>
    rw [hf] at h
    obtain ⟨t, k, h1, h2, h3⟩ := h
    exact ⟨t, k, h1, e _ _ h2, e _ _ h3⟩
def spDue (K : PySem.W.Frag) (n d : Nat) : Sp := fun vs H Q _ => ∃ (l : Addr) (xs : List V) (rs : List Rw), vs = [.ref l] ∧ H l = some (.lst xs) ∧ DRs H xs rs ∧ Rws.dep rs < d ∧ (∀ e ∈ Rws.flat rs none 0, RwB n e.1) ∧ Rws.cnt rs ≤ 1000 ∧ ∀ v H', Same H H' → DueV H' v rs → Q v H'
/-- what is new and changes, changes nothing that was there -/
theorem BM.news {M : List Addr} {H H1 H2 : Hp} (e : Same H H1) (b : BM M H1 H2) (h : ∀ p ∈ M, H p = none) : Same H H2 := fun p o hp => b.at (e _ _ hp) fun z => by rw [h p z] at hp; cases hp
section
variable {P : Program} {w : World} {K : PySem.W.Frag} {mg : Str → Option Value} {base : Heap}
theorem sc_due : FnScope ["_law_rows_here", "_law_many", "_law_f", "_law_fault"] ["_law_rows_here"] (defScope s__law_due) := ⟨rfl, rfl, rfl, by decide +kernel, rfl, by decide +kernel, by decide +kernel⟩
theorem ok_due (T : Tx K mg) (n d : Nat) : Ok P w K mg base (d + (n + 3) + 1) (He.ga K "_law_due") ["_law_rows_here"] (spDue K n d) := by
  obtain ⟨fd, F⟩ := T.f__law_due
  refine ⟨fd, F.ok (k := d + (n + 3)) sc_due (fun vs H Q E h => ?_) (fun cdv A outer s H vs Q E hr h => ?_), F.bindsN fun _ _ _ _ _ _ us hl => match us, hl with | [_], _ => rfl, F.kp⟩
  · obtain ⟨l, xs, rs, rfl, _⟩ := h
    rfl
  obtain ⟨l, xs, rs, rfl, hl, hrs, hd, hB, hc, q⟩ := h
  refine ⟨_, pss_cons (ps_set (i := 1) sc_due.nd rfl (Or.inl rfl) (pe_callB call_len_seq (by rfl) T.z_len PySem.boot_len (pa_cons (pe_f (ok_all T d) (hr.mono (by omega)) T.g__law_all (pa_cons (pv 0) pa_nil)) pa_nil)))
      (pss_cons (ps_set (i := 2) sc_due.nd rfl (Or.inl rfl) (pe_disp (pps_cons pe_str (pe_lst pa_nil) (pps_cons pe_str pe_dnewK (pps_cons pe_str pe_int pps_nil))) (by rfl) (by rfl) (fun z => by cases z) (by decide)))
      (pss_cons (ps_set (i := 3) sc_due.nd rfl (Or.inl rfl) (pe_tup (pa_cons pe_str (pa_cons pe_str (pa_cons (pv 1) pa_nil)))))
      (pss_cons (ps_if (pt_chain op_le op_le pe_int (pv 1) pe_int) (pss_one (ps_set (i := 3) sc_due.nd rfl (Or.inl rfl) (pe_f (ok_amiss T n d) hr T.g__law_amiss (pa_cons (pv 2) (pa_cons (pv 0) (pa_cons pe_int pa_nil)))))) pss_nil)
      (pss_one (ps_ret (pe_orT (pv 3) (pe_one (pe_tup (pa_cons pe_str (pa_cons (pe_callTy (call_listD rfl) (by rfl) T.z_list (by decide +kernel) (pa_cons (pe_dget (hu_of hr) (pv 2) pe_str (fun _ _ => rfl)) pa_nil)) pa_nil)))))))))), ?_⟩
  walk_at "go"
  refine ⟨l, xs, rs, H, rfl, Same.refl _, hl, hrs, hd, hc, fun p H1 ys hp e1 hp1 hy => ?_⟩
  walk_at "go"
  refine ⟨p, ys, rfl, .inl (SqL.of hp1), ?_⟩
  rw [hy.len, Rws.all_len]
  walk_at "go"
  intro F hF
  refine ⟨Nat.zero_le _, fun nm hnm => ?_⟩
  intro kn hkn
  have nmF : nm ≠ F := fun z => by rw [z, upd_same] at hnm; cases hnm
  have knF : kn ≠ F := fun z => by rw [z, upd_ne nmF.symm, upd_same] at hkn; cases hkn
  have knm : kn ≠ nm := fun z => by rw [z, upd_same] at hkn; cases hkn
  refine ⟨by rw [upd_ne knF.symm, upd_ne nmF.symm]; exact upd_same, [(Sum.inr "names", .ref nm), (Sum.inr "known", .ref kn), (Sum.inr "rounds", .int 0)], rfl, (by show 3 ≤ 15; decide), ?_⟩
  rw [merge3]
  have hnm1 : H1 nm = none := by rw [upd_ne nmF] at hnm; exact hnm
  have hkn1 : H1 kn = none := by rw [upd_ne knm, upd_ne knF] at hkn; exact hkn
  have e2 : Same H1 (upd (upd (upd (upd H1 F (.dK [])) nm (.lst [])) kn (.dK [])) F (.dK [(Sum.inr "names", .ref nm), (Sum.inr "known", .ref kn), (Sum.inr "rounds", .int 0)])) := ((((Same.refl H1).mut hF).mut hnm1).mut hkn1).mut hF
  have hL : LFs H (upd (upd (upd (upd H1 F (.dK [])) nm (.lst [])) kn (.dK [])) F (.dK [(Sum.inr "names", .ref nm), (Sum.inr "known", .ref kn), (Sum.inr "rounds", .int 0)])) F nm kn [] none 0 0 0 :=
    ⟨upd_same, by rw [upd_ne nmF, upd_ne knm.symm, upd_same] <;> rfl, ⟨[], by rw [upd_ne knF, upd_same], .nil⟩, ⟨fun _ => rfl, fun _ => rfl⟩, fun e he => (by cases he), List.nodup_nil, e1.trans e2⟩
  generalize upd (upd (upd (upd H1 F (.dK [])) nm (.lst [])) kn (.dK [])) F (.dK [(Sum.inr "names", .ref nm), (Sum.inr "known", .ref kn), (Sum.inr "rounds", .int 0)]) = H2 at e2 hL ⊢
  walk_at "go"
  refine ⟨(by show 3 ≤ sizeLine; decide), fun p3 hp3 => ?_⟩
  have e3 : Same H2 (upd H2 p3 (.tup [.str "count", .str "rows", .int (Rws.cnt rs : Nat)])) := Same.new hp3 _
  have hp3' : (upd H2 p3 (.tup [.str "count", .str "rows", .int (Rws.cnt rs : Nat)])) p3 = some (.tup [.str "count", .str "rows", .int (Rws.cnt rs : Nat)]) := upd_same
  generalize upd H2 p3 (.tup [.str "count", .str "rows", .int (Rws.cnt rs : Nat)]) = H3 at e3 hp3' ⊢
  have hL3 := hL.same e3
  have g3 := e1.trans (e2.trans e3)
  have hHF := e1.free hF
  have hHn := e1.free hnm1
  have hHk := e1.free hkn1
  have tru : ∀ {H' : Hp} {t : Addr} {a : V} {r : List V}, H' t = some (.tup (a :: r)) → TruV K (.ref t) H' true := fun h => .inr (.inl ⟨_, SqT.of h, rfl⟩)
  have bad : ¬ (1 ≤ Rws.cnt rs ∧ Rws.cnt rs ≤ 40) → ∃ k, TruV K (.ref p3) H3 k ∧ (if k = true then Q (.ref p3) H3 else False) := fun c =>
    ⟨true, tru hp3', iteT (q _ _ g3 (by unfold DueV formF; rw [if_neg c]; exact ⟨p3, rfl, hp3'⟩))⟩
  walk_at "go"
  by_cases c1 : (1 : Int) ≤ (Rws.cnt rs : Int)
  · rw [decide_eq_true c1]
    walk_at "go"
    by_cases c2 : (Rws.cnt rs : Int) ≤ 40
    · rw [decide_eq_true c2]
      walk_at "go"
      have ef : formF rs = ckRows [] (Rws.flat rs none 0) := if_pos ⟨by omega, by omega⟩
      refine ⟨H, F, nm, kn, l, xs, rs, [], none, 0, 0, 0, rfl, hL3, knF.symm, hHF, hHn, hHk, hl, hrs, hd, hB, fun p z => (by cases z), Nat.le_refl _, by show 0 + Rws.cnt rs ≤ 1000; omega, ?_⟩
      unfold AmissEnd
      have ns : ∀ p ∈ [F, nm, kn], H p = none := fun p hp => by
        rcases List.mem_cons.mp hp with rfl | hp
        · exact hHF
        · rcases List.mem_cons.mp hp with rfl | hp
          · exact hHn
          · rw [List.mem_singleton.mp hp]; exact hHk
      cases hck : ckRows [] (Rws.flat rs none 0) with
      | some f =>
        intro v H4 b4 hv4
        obtain ⟨t4, rfl, ht4⟩ := hv4
        walk_at "go"
        have ht4c : ∃ a r, H4 t4 = some (.tup (a :: r)) := by cases f <;> exact ⟨_, _, ht4⟩
        obtain ⟨a4, r4, ht4'⟩ := ht4c
        refine ⟨_, rfl, true, tru ht4', ?_⟩
        walk_at "go"
        exact q _ _ (BM.news g3 b4 ns) (by unfold DueV; rw [ef, hck]; exact ⟨t4, rfl, ht4⟩)
      | none =>
        intro H4 R4 b4 _ hL4
        walk_at "go"
        refine ⟨_, rfl, false, rfl, ?_⟩
        walk_at "go"
        obtain ⟨kvs, hkn4, hp4⟩ := hL4.kns
        refine ⟨_, rfl, F, _, rfl, hL4.known, ?_⟩
        walk_at "go"
        refine ⟨kn, kvs, rfl, .inl hkn4, fun p5 hp5 => ?_⟩
        walk_at "go"
        refine ⟨(by show 2 ≤ sizeLine; decide), fun p6 hp6 => ?_⟩
        have e5 := Same.new hp5 (.lst (kvs.map fun kv => kV kv.1))
        have e6 := Same.new hp6 (.tup [.str "told", .ref p5])
        refine q _ _ ((BM.news g3 b4 ns).trans (e5.trans e6)) ?_
        unfold DueV
        rw [ef, hck]
        refine ⟨p6, p5, rfl, upd_same, ?_⟩
        have hk := kn_keys hp4
        rw [List.nil_append] at hk
        rw [← qL_names, ← hk]
        exact e6 _ _ upd_same
    · rw [decide_eq_false c2]
      walk_at "go"
      obtain ⟨k, hk1, hk2⟩ := bad (by omega)
      refine ⟨_, rfl, true, tru hp3', ?_⟩
      walk_at "go"
      exact q _ _ g3 (by unfold DueV formF; rw [if_neg (by omega)]; exact ⟨p3, rfl, hp3'⟩)
  · rw [decide_eq_false c1]
    walk_at "go"
    refine ⟨_, rfl, true, tru hp3', ?_⟩
    walk_at "go"
    exact q _ _ g3 (by unfold DueV formF; rw [if_neg (by omega)]; exact ⟨p3, rfl, hp3'⟩)
end
end K3
end L21_part
section L22_part
set_option Elab.async false
set_option linter.all false
set_option maxRecDepth 100000
set_option maxHeartbeats 1000000
set_option pp.deepTerms.threshold 5
open PySem PySem.Spec PyProof.Rows L2
/-- go on as far as nothing is open -/
local macro_rules | `(tactic| walk_at "go") => `(tactic| repeat (first
  | with_reducible refine w_seq ?_ | with_reducible refine w_next ?_ | with_reducible refine w_set ?_ | with_reducible refine w_drop ?_ | with_reducible refine w_ret ?_ | with_reducible refine w_retN ?_
  | with_reducible refine w_if ?_ | ((with_reducible refine' w_var ?hv ?_); (case hv => exact rfl)) | with_reducible refine w_c ?_ | with_reducible refine w_nil ?_ | with_reducible refine w_cons ?_ | with_reducible refine w_op ?_ | with_reducible refine w_un ?_
  | with_reducible refine w_test ?_ | with_reducible refine w_tB ?_ | with_reducible refine w_not ?_ | with_reducible refine w_and ?_ | with_reducible refine w_or ?_ | with_reducible refine w_bl ?_
  | with_reducible refine w_andV ?_ | with_reducible refine w_orV ?_ | with_reducible refine w_notV ?_ | with_reducible refine w_ifE ?_ | with_reducible refine w_chain ?_ | with_reducible refine w_i0 ?_
  | with_reducible refine w_call ?_ | with_reducible refine w_callS ?_ | with_reducible refine w_cB ?_ | with_reducible refine w_tup ?_ | with_reducible refine w_lst ?_ | with_reducible refine w_fldV ?_
  | with_reducible refine w_neF ?_ | with_reducible refine w_neT ?_ | with_reducible refine w_notN ?_ | with_reducible refine w_isN ?_ | with_reducible refine w_gname ?_ | with_reducible refine w_gsub ?_ | with_reducible refine w_asg ?_ | with_reducible refine w_sl ?_ | with_reducible refine w_noP ?_ | with_reducible refine w_int1 ?_ | with_reducible refine w_part ?_ | with_reducible refine w_yes ?_ | with_reducible refine w_nT ?_ | with_reducible refine w_nF ?_ | with_reducible refine w_iteT ?_ | with_reducible refine w_iteF ?_))
namespace K3
/-! ### rules of its own: a making whose __init__ raises, at the slots; what a caught error tells -/
section
variable {X : Cx} {CX : CXT} {k : Nat} {f C : Addr} {fd : FuncData} {ps : List Str} {sp : Sp} {E : L2.St → XK} {x : Str} {p pos : Pos} {e : Expr} {es : List Expr} {t : TA}
def tMakeS (C : Addr) (sp : Sp) (E : L2.St → XK) (t : TA) : TE := fun σ H Q => t σ H fun vs H1 => ∀ x dx, H1 x = none → H1 dx = none → dx ≠ x → sp (.ref x :: vs) (upd (upd H1 dx (.own x)) x (.ins C dx [])) (fun v H2 => v = .non ∧ Q (.ref x) H2) (E σ)
theorem make_at {pins : List (Addr × Obj)} {σ : L2.St} {H : Hp} {s : Shared} {Q : VK} {us : List Value} {vs : List V} (M : Mk X.K C f) (F : FnOk X.prog X.w X.K X.mg X.base CX k f fd ps sp) (hr : Room (k + 1) X.A) (hb : Binds X.K fd ps []) (hx : PassesAt CX X σ (E σ)) (I : Inv X pins σ H s) (r : Vals vs us)
    (h : ∀ x dx, H x = none → H dx = none → dx ≠ x → sp (.ref x :: vs) (upd (upd H dx (.own x)) x (.ins C dx [])) (fun v H2 => v = .non ∧ Q (.ref x) H2) (E σ)) : wpAny (model X.prog X.w) X.A (call (.ref C) us) (EP X pins σ Q) X.xe s := by
  let new : Addr := s.heap.objs.size + 1
  have told := h new s.heap.objs.size (I.hok.fresh (Nat.le_succ _)) (I.hok.fresh (Nat.le_refl _)) (Nat.ne_of_lt (Nat.lt_succ_self _))
  have J := Inv.made (C := C) I
  have many : (Value.ref new :: us ++ []).length = ps.length := by
    rw [List.append_nil]
    have z := (Paired.cons (show RelV (V.ref new) (Value.ref new) from rfl) r : Vals (V.ref new :: vs) (Value.ref new :: us)).length
    rw [F.len _ _ _ _ told] at z
    exact z.symm
  have bound := hb _ (Value.ref new :: us) J.kIn many
  rw [List.append_nil] at bound
  have went := F.run _ X.stack _ _ ⟨Value.ref new :: us, []⟩ (Value.ref new :: us) _ _ (E σ) (hr.make C us []) (J.env0.make C us []) bound (Paired.cons (show RelV (V.ref new) (Value.ref new) from rfl) r) told
  refine wpAny_call (make_map (f := f) I.kIn M.makes M.init (beq_iff_eq.mp M.fn) (codeAny_mono went fun r s' got => ?_))
  rcases r with e | (_ | _ | _ | u)
  · exact hx pins _ _ e s' J got
  · exact False.elim got
  · exact False.elim got
  · exact False.elim got
  · obtain ⟨v, H', J', rv, ev, q⟩ := J.after got
    subst ev
    exact ⟨rv, V.ref new, H', J', rfl, q⟩
theorem pe_makeS (M : Mk X.K C f) (F : FnOk X.prog X.w X.K X.mg X.base CX k f fd ps sp) (hr : Room (k + 1) X.A) (hg : Gl X x) (hm : X.mg x = some (.ref C)) (hb : Binds X.K fd ps []) (hx : ∀ σ, PassesAt CX X σ (E σ)) (ha : PA X (e :: es) t) (hdb : (x == ("__debug__" : Str)) = false := by decide)
    (he : starEach (e :: es) X.env = (false, eval e X.env) :: starEach es X.env := by rfl) (hpl : (backTo pos (starEach es X.env)).any (·.1) = false := by rfl) : PE X (.Call (.Name x p) (e :: es) [] pos) (tMakeS C sp E t) := ⟨fun pins s σ H Q I h =>
  wpAny_Call_Name_kw (ld_glob I hg hm (PySem.W.callWith_K (h₀ := X.base) I.ok.mod.kin M.kp (thn (ha.run pos pins s σ H _ I h) fun _ _ ⟨_, _, J, r, q⟩ => ⟨J.kIn, make_at M F hr hb (hx σ) J r q⟩) he hpl) hdb)⟩
theorem w_makeS {σ : L2.St} {H : Hp} {Q : VK} (h : t σ H fun vs H1 => ∀ x dx, H1 x = none → H1 dx = none → dx ≠ x → sp (.ref x :: vs) (upd (upd H1 dx (.own x)) x (.ins C dx [])) (fun v H2 => v = .non ∧ Q (.ref x) H2) (E σ)) : tMakeS C sp E t σ H Q := h
end
/-- the object of a caught error that has a dict -/
theorem inst_at {X : Cx} {a D dd : Addr} {oe : Obj} {pn pins : List (Addr × Obj)} {σ : L2.St} {H : Hp} {s : Shared} {fs : List (Str × V)} (hz : Zc (.ref D) (some dd) oe) (hf : ∃ vs, oe.data = .fields vs) (I : Inv (X.suite a ((a, oe) :: pn)) pins σ H s) (ed : H dd = some (.xd fs)) :
    ∃ od, PySem.W.InstAt s.heap a oe D (some od) ∧ (∀ n v, fs.lookup n = some v → ∃ u, PySem.W.lookIn n od = some (some u) ∧ RelV v u) := by
  have pin := (I.pin (a, oe) (List.mem_append_left _ List.mem_cons_self)).1
  obtain ⟨vs, dat⟩ := hf
  have obj : ObjOk X.prog X.w H s.heap dd (.xd fs) := I.hok dd _ ed
  obtain ⟨names, ns, rel⟩ := obj
  obtain ⟨od, at_, look_⟩ := lookIn_ns ns
  refine ⟨od, ⟨pin, hz.1, by unfold PySem.W.notCls; rw [dat] <;> rfl, by rw [hz.2]; exact at_⟩, fun n v hv => ?_⟩
  obtain ⟨u, hu, ru⟩ := RelO.some_of (v := v) (o := names n) (by rw [← hv]; exact rel n)
  exact ⟨u, by rw [look_, hu], ru⟩
def ErrD (K : PySem.W.Frag) (cls : Value) (d : Option Addr) (D : Addr) (H : Hp) (fs : List (Str × V)) : Prop := cls = .ref D ∧ ∃ dd, d = some dd ∧ H dd = some (.xd fs)
/-- isinstance(e, c), e the caught error -/
def rIsA (K : PySem.W.Frag) (a : Addr) (cls : Value) (d : Option Addr) : List V → Hp → VK → Prop := fun xs H Q => ∃ (D : Addr) (fs : List (Str × V)) (c : V) (cv : Value) (b : Bool), xs = [.ref a, c] ∧ ErrD K cls d D H fs ∧ XfC K D ∧ kclsB K D = true ∧ (∀ u, RelV c u → u = cv) ∧ PySem.W.kitOne K (.ref D) cv = some b ∧ Q (.bl b) H
theorem call_isA {X : Cx} {a : Addr} {cls : Value} {d : Option Addr} {oe : Obj} {pn : List (Addr × Obj)} (gs : getsetB X.K = true) (hz : Zc cls d oe) (hf : ∃ vs, oe.data = .fields vs) : CallR (X.suite a ((a, oe) :: pn)) (.builtin "isinstance") (rIsA X.K a cls d) := by
  intro pins s σ H xs us Q I r ⟨D, fs, c, cv, b, exs, ⟨ecl, dd, edd, hxd⟩, xf, kc, hcv, kit, q⟩
  subst exs ecl edd
  obtain ⟨od, J, _⟩ := inst_at hz hf I hxd
  rcases r with _ | ⟨rx, rr⟩
  rcases rr with _ | ⟨rc, rn⟩
  cases rn
  cases rx
  obtain rfl := hcv _ rc
  obtain ⟨g1, g2⟩ := and2 (show (eqB _ _ && eqB _ _) = true from gs)
  obtain ⟨k1, k2⟩ := and2 (show (eqB _ _ && eqB _ _) = true from kc)
  obtain ⟨cd, hc, _⟩ := PySem.W.any_some xf.hdC
  exact PySem.W.kia_one (PySem.W.kitx_exc (by rw [hc] <;> rfl) xf.ga xf.gg xf.exC (eqB_ok k1) (eqB_ok g1) (eqB_ok g2) (eqB_ok k2)) I.kIn J kit (fun z => nomatch z) fun tk => ⟨.bl b, H, I.kept (t' := tk) fun _ _ z => z, rfl, q⟩
/-- e.n, e the caught error -/
def tXfA (K : PySem.W.Frag) (a : Addr) (cls : Value) (d : Option Addr) (n : Str) (te : TE) : TE := fun σ H Q => te σ H fun x H1 => ∃ (D : Addr) (fs : List (Str × V)) (v : V), x = .ref a ∧ ErrD K cls d D H1 fs ∧ XfC K D ∧ NoAttr K D n ∧ fs.lookup n = some v ∧ Q v H1
theorem pe_xfA {X : Cx} {a : Addr} {oe : Obj} {cls : Value} {d : Option Addr} {pn : List (Addr × Obj)} {e : Expr} {te : TE} {pos : Pos} {n : Str} (hz : Zc cls d oe) (hf : ∃ vs, oe.data = .fields vs) (he : PE (X.suite a ((a, oe) :: pn)) e te) (hb : attributeBase e n X.env (eval e X.env) = eval e X.env := by rfl) :
    PE (X.suite a ((a, oe) :: pn)) (.Attribute e n pos) (tXfA X.K a cls d n te) := ⟨fun pins s σ H Q I h => attr_of hb (thn (he.run pins s σ H _ I h) fun u s1 ⟨x, H1, J, rx, D, fs, v, ex, ⟨ecl, dd, edd, hxd⟩, xf, hno, hl, q⟩ => by
  subst ex ecl edd
  obtain rfl : u = Value.ref a := rx
  obtain ⟨od, at_, look_⟩ := inst_at hz hf J hxd
  obtain ⟨r, hr, rr⟩ := look_ n v hl
  exact HandSPX.exc_get J.kIn at_ xf.ga xf.gg xf.exC (PySem.W.findObj_own xf.hdC hno rfl hr) (handed_of rr) ⟨v, H1, J.tok _, rr, q⟩)⟩
/-- how often a truth stands in a list of truths -/
theorem truths : ∀ {ys : List Bool} {us : List Value} {h : Heap}, Vals (ys.map V.bl) us → ReadsAll h us (ys.map PyData.bool) []
  | [], us, h, r => by cases r; exact .nil
  | b :: ys, us, h, r => by
    rcases r with _ | ⟨rb, rr⟩
    cases rb
    exact .cons (as := []) (.bool b) (truths rr)
theorem all_truths (ys : List Bool) : (ys.map PyData.bool).all Shape.bool.has = true := by
  induction ys with
  | nil => rfl
  | cons b ys ih => rw [List.map_cons, List.all_cons, ih] <;> rfl
def rCntT (K : PySem.W.Frag) : V → List V → Hp → VK → Prop := fun x xs H Q => ∃ (a : Addr) (ys : List Bool) (b : Bool), x = .ref a ∧ xs = [.bl b] ∧ SqL K H a (ys.map V.bl) ∧ Q (.int (countIn (.bool b) (ys.map PyData.bool))) H
theorem mt_countT {X : Cx} : MtR X "list.count" (rCntT X.K) := by
  intro pins s σ H x xs v us Q I rx rxs ⟨a, ys, b, ex, exs, hl, q⟩
  subst ex exs
  cases rx
  obtain ⟨u, rfl, ru⟩ := rxs.one
  cases ru
  obtain ⟨its, vals, ⟨o, n, ho, hc, _, hd⟩, _⟩ := I.list hl
  exact count_list_bools (vs := its) ⟨o, ho, hc, n, hd⟩ (truths (h := s.heap) vals) (all_truths ys) ⟨.int (countIn (.bool b) (ys.map PyData.bool)), H, I.tok _, ⟨s.toks, rfl⟩, q⟩
end K3
end L22_part
section L23_part
set_option Elab.async false
set_option linter.all false
set_option maxRecDepth 100000
set_option maxHeartbeats 1000000
set_option pp.deepTerms.threshold 5
open PySem PySem.Spec PyProof.Rows L2
/-- go on as far as nothing is open -/
local macro_rules | `(tactic| walk_at "go") => `(tactic| repeat (first
  | with_reducible refine w_seq ?_ | with_reducible refine w_next ?_ | with_reducible refine w_set ?_ | with_reducible refine w_drop ?_ | with_reducible refine w_ret ?_ | with_reducible refine w_retN ?_
  | with_reducible refine w_if ?_ | ((with_reducible refine' w_var ?hv ?_); (case hv => exact rfl)) | with_reducible refine w_c ?_ | with_reducible refine w_nil ?_ | with_reducible refine w_cons ?_ | with_reducible refine w_op ?_ | with_reducible refine w_un ?_
  | with_reducible refine w_test ?_ | with_reducible refine w_tB ?_ | with_reducible refine w_not ?_ | with_reducible refine w_and ?_ | with_reducible refine w_or ?_ | with_reducible refine w_bl ?_
  | with_reducible refine w_andV ?_ | with_reducible refine w_orV ?_ | with_reducible refine w_notV ?_ | with_reducible refine w_ifE ?_ | with_reducible refine w_chain ?_ | with_reducible refine w_i0 ?_
  | with_reducible refine w_call ?_ | with_reducible refine w_callS ?_ | with_reducible refine w_cB ?_ | with_reducible refine w_tup ?_ | with_reducible refine w_lst ?_ | with_reducible refine w_fldV ?_
  | with_reducible refine w_neF ?_ | with_reducible refine w_neT ?_ | with_reducible refine w_notN ?_ | with_reducible refine w_isN ?_ | with_reducible refine w_gname ?_ | with_reducible refine w_gsub ?_ | with_reducible refine w_asg ?_ | with_reducible refine w_sl ?_ | with_reducible refine w_noP ?_ | with_reducible refine w_int1 ?_ | with_reducible refine w_part ?_ | with_reducible refine w_yes ?_ | with_reducible refine w_nT ?_ | with_reducible refine w_nF ?_ | with_reducible refine w_iteT ?_ | with_reducible refine w_iteF ?_))
namespace K3
/-- the bounds that the program's checks ask, of rows with bounds -/
theorem wb_bd {w : Option Cd} (h : WB w) : odep w < 4 ∧ (owh w).length ≤ 1000 := ⟨Nat.lt_succ_of_le h.1, Nat.le_trans h.2 (by decide)⟩
mutual
theorem Rw.flat_bd : ∀ (r : Rw) (ar : Option Nat) (n : Nat), RB 100 r → ∀ e ∈ r.flat ar n, RwB 4 e.1
  | .one z os w, ar, n, h, e, he => by
    unfold Rw.flat at he
    unfold RB at h
    rw [List.mem_singleton.mp he]
    exact ⟨(wb_bd h.2.2.2).1, (wb_bd h.2.2.2).2, Nat.zero_le _, Nat.le_trans h.1 (by decide), Nat.le_trans h.2.1 (by decide), fun o ho => Nat.le_trans (h.2.2.1 o ho) (by decide)⟩
  | .some z os w, ar, n, h, e, he => by
    unfold Rw.flat at he
    unfold RB at h
    rw [List.mem_singleton.mp he]
    exact ⟨(wb_bd h.2.2.2).1, (wb_bd h.2.2.2).2, Nat.zero_le _, Nat.le_trans h.1 (by decide), Nat.le_trans h.2.1 (by decide), fun o ho => Nat.le_trans (h.2.2.1 o ho) (by decide)⟩
  | .number z lo hi w, ar, n, h, e, he => by
    unfold Rw.flat at he
    unfold RB at h
    rw [List.mem_singleton.mp he]
    exact ⟨(wb_bd h.2).1, (wb_bd h.2).2, Nat.zero_le _, Nat.le_trans h.1 (by decide), Nat.zero_le _, fun o ho => (by cases ho)⟩
  | .check z m w, ar, n, h, e, he => by
    unfold Rw.flat at he
    unfold RB at h
    rw [List.mem_singleton.mp he]
    exact ⟨Nat.max_lt.mpr ⟨Nat.lt_succ_of_le h.2.1, (wb_bd h.2.2.2).1⟩, (wb_bd h.2.2.2).2, Nat.le_trans h.2.2.1 (by decide), Nat.le_trans h.1 (by decide), Nat.zero_le _, fun o ho => (by cases ho)⟩
  | .sect rs w, ar, n, h, e, he => by
    rw [Rw.flat] at he
    rw [RB] at h
    rcases List.mem_cons.mp he with rfl | he
    · exact ⟨(wb_bd h.2).1, (wb_bd h.2).2, Nat.zero_le _, Nat.zero_le _, Nat.zero_le _, fun o ho => (by cases ho)⟩
    · exact Rws.flat_bd rs ar (n + 1) h.1 e he
  | .rounds z rs w, ar, n, h, e, he => by
    rw [Rw.flat] at he
    rw [RB] at h
    rcases List.mem_cons.mp he with rfl | he
    · exact ⟨(wb_bd h.2.2).1, (wb_bd h.2.2).2, Nat.zero_le _, Nat.le_trans h.1 (by decide), Nat.zero_le _, fun o ho => (by cases ho)⟩
    · exact Rws.flat_bd rs (some n) (n + 1) h.2.1 e he
theorem Rws.flat_bd : ∀ (rs : List Rw) (ar : Option Nat) (n : Nat), RBs 100 rs → ∀ e ∈ Rws.flat rs ar n, RwB 4 e.1
  | [], ar, n, h, e, he => by
    rw [Rws.flat] at he
    cases he
  | r :: rs, ar, n, h, e, he => by
    rw [Rws.flat] at he
    rw [RBs] at h
    rcases List.mem_append.mp he with he | he
    · exact Rw.flat_bd r ar n h.1 e he
    · exact Rws.flat_bd rs ar (n + r.cnt) h.2 e he
end
def spOutl (K : PySem.W.Frag) : Sp := fun vs H Q _ => ∃ (x dx t : Addr) (xs : List V) (a b : V), vs = [.ref x] ∧ H x = some (.ins (He.ga K "Form") dx [("rows", .ref t), ("questions", a), ("repeated", b)]) ∧ SqT K H t xs ∧ ∀ l, H l = none → Q (.ref l) (upd H l (.lst xs))
def spNms (K : PySem.W.Frag) : Sp := fun vs H Q _ => ∃ (x dx d : Addr) (kvs : List (Key × V)) (a b : V), vs = [.ref x] ∧ H x = some (.ins (He.ga K "Form") dx [("rows", a), ("questions", .ref d), ("repeated", b)]) ∧ H d = some (.dK kvs) ∧ ∀ l, H l = none → Q (.ref l) (upd H l (.lst (kvs.map fun kv => kV kv.1)))
section
variable {P : Program} {w : World} {K : PySem.W.Frag} {mg : Str → Option Value} {base : Heap}
theorem sc_outl : FnScope ["self"] ["self"] (defScope s_Form_outline) := ⟨rfl, rfl, rfl, by decide +kernel, rfl, by decide +kernel, by decide +kernel⟩
theorem ok_outl (T : Tx K mg) : Ok P w K mg base 1 (He.ma K (He.ga K "Form") "outline") ["self"] (spOutl K) := by
  obtain ⟨fd, F⟩ := T.f_Form_outline
  refine ⟨fd, F.ok (k := 0) sc_outl (fun vs H Q E h => ?_) (fun cdv A outer s H vs Q E hr h => ?_), F.bindsN fun _ _ _ _ _ _ us hl => match us, hl with | [_], _ => rfl, F.kp⟩
  · obtain ⟨x, dx, t, xs, a, b, rfl, _⟩ := h
    rfl
  obtain ⟨x, dx, t, xs, a, b, rfl, hx, ht, q⟩ := h
  refine ⟨_, pss_one (ps_ret (pe_callTy call_list_of (by rfl) T.z_list (by decide +kernel) (pa_cons (pe_fld (pv 0) rfl) pa_nil))), ?_⟩
  walk_at "go"
  refine ⟨x, _, dx, _, _, rfl, hx, T.cl_Form, T.n_Form_rows, rfl, ?_⟩
  walk_at "go"
  exact ⟨t, xs, rfl, .inr ht, q⟩
theorem sc_nms : FnScope ["self"] ["self"] (defScope s_Form_names) := ⟨rfl, rfl, rfl, by decide +kernel, rfl, by decide +kernel, by decide +kernel⟩
theorem ok_nms (T : Tx K mg) : Ok P w K mg base 1 (He.ma K (He.ga K "Form") "names") ["self"] (spNms K) := by
  obtain ⟨fd, F⟩ := T.f_Form_names
  refine ⟨fd, F.ok (k := 0) sc_nms (fun vs H Q E h => ?_) (fun cdv A outer s H vs Q E hr h => ?_), F.bindsN fun _ _ _ _ _ _ us hl => match us, hl with | [_], _ => rfl, F.kp⟩
  · obtain ⟨x, dx, d, kvs, a, b, rfl, _⟩ := h
    rfl
  obtain ⟨x, dx, d, kvs, a, b, rfl, hx, hd, q⟩ := h
  refine ⟨_, pss_one (ps_ret (pe_callTy (call_listD rfl) (by rfl) T.z_list (by decide +kernel) (pa_cons (pe_fld (pv 0) rfl) pa_nil))), ?_⟩
  walk_at "go"
  refine ⟨x, _, dx, _, _, rfl, hx, T.cl_Form, T.n_Form_questions, rfl, ?_⟩
  walk_at "go"
  exact ⟨d, kvs, rfl, .inl hd, q⟩
end
end K3
end L23_part
section L24_part
set_option Elab.async false
set_option linter.all false
set_option maxRecDepth 100000
set_option maxHeartbeats 1000000
set_option pp.deepTerms.threshold 5
open PySem PySem.Spec PyProof.Rows L2
/-- go on as far as nothing is open -/
local macro_rules | `(tactic| walk_at "go") => `(tactic| repeat (first
  | with_reducible refine w_seq ?_ | with_reducible refine w_next ?_ | with_reducible refine w_set ?_ | with_reducible refine w_drop ?_ | with_reducible refine w_ret ?_ | with_reducible refine w_retN ?_
  | with_reducible refine w_if ?_ | ((with_reducible refine' w_var ?hv ?_); (case hv => exact rfl)) | with_reducible refine w_c ?_ | with_reducible refine w_nil ?_ | with_reducible refine w_cons ?_ | with_reducible refine w_op ?_ | with_reducible refine w_un ?_
  | with_reducible refine w_test ?_ | with_reducible refine w_tB ?_ | with_reducible refine w_not ?_ | with_reducible refine w_and ?_ | with_reducible refine w_or ?_ | with_reducible refine w_bl ?_
  | with_reducible refine w_andV ?_ | with_reducible refine w_orV ?_ | with_reducible refine w_notV ?_ | with_reducible refine w_ifE ?_ | with_reducible refine w_chain ?_ | with_reducible refine w_i0 ?_
  | with_reducible refine w_call ?_ | with_reducible refine w_callS ?_ | with_reducible refine w_cB ?_ | with_reducible refine w_tup ?_ | with_reducible refine w_lst ?_ | with_reducible refine w_fldV ?_
  | with_reducible refine w_neF ?_ | with_reducible refine w_neT ?_ | with_reducible refine w_notN ?_ | with_reducible refine w_isN ?_ | with_reducible refine w_gname ?_ | with_reducible refine w_gsub ?_ | with_reducible refine w_asg ?_ | with_reducible refine w_sl ?_ | with_reducible refine w_noP ?_ | with_reducible refine w_int1 ?_ | with_reducible refine w_part ?_ | with_reducible refine w_yes ?_ | with_reducible refine w_nT ?_ | with_reducible refine w_nF ?_ | with_reducible refine w_iteT ?_ | with_reducible refine w_iteF ?_))
namespace K3
def spSaid (K : PySem.W.Frag) (d : Nat) : Sp := fun vs H Q _ => ∃ (l : Addr) (xs : List V) (rs : List Rw), vs = [.ref l] ∧ H l = some (.lst xs) ∧ DRs H xs rs ∧ RBs 100 rs ∧ Rws.dep rs < d ∧ d ≤ 10 ∧ Rws.cnt rs ≤ 900 ∧ ∀ v H', Same H H' → DueV H' v rs → Q v H'
/-- the name of the class, by which a fault is raised -/
def Flt.cls : Flt → Str
  | .count _ _ => "BadCount" | .name _ => "NoName" | .twice _ => "Twice" | .quest _ => "NoQuestion" | .fit _ => "NoFit"
def Flt.fs : Flt → List (Str × V)
  | .count w n => [("count", .int n), ("what", .str w)] | .name z => [("name", .str z)] | .twice z => [("name", .str z)] | .quest z => [("name", .str z)] | .fit z => [("name", .str z)]
theorem isF_err {K : PySem.W.Frag} {f : Flt} {cls : Value} {d : Option Addr} {H : Hp} (h : IsF K f cls d H) : f.cls ∈ errN ∧ ErrD K cls d (He.ga K f.cls) H f.fs := by
  cases f with
  | count w n => exact ⟨(show ("BadCount" : Str) ∈ errN by decide), h.1, h.2⟩
  | name z => exact ⟨(show ("NoName" : Str) ∈ errN by decide), h.1, h.2⟩
  | twice z => exact ⟨(show ("Twice" : Str) ∈ errN by decide), h.1, h.2⟩
  | quest z => exact ⟨(show ("NoQuestion" : Str) ∈ errN by decide), h.1, h.2⟩
  | fit z => exact ⟨(show ("NoFit" : Str) ∈ errN by decide), h.1, h.2⟩
/-- what the clause of the caught error does -/
def tIsA (K : PySem.W.Frag) (a : Addr) (cls : Value) (d : Option Addr) (v : V) : TE := tCB (rIsA K a cls d) (tCons (tVar 4) (tCons (tC v) tNil))
def tSuite (K : PySem.W.Frag) (a : Addr) (cls : Value) (d : Option Addr) : TS :=
  tSeq (tAsg (tLst (tCons (tIsA K a cls d (.ref (He.ga K "BadCount"))) (tCons (tIsA K a cls d (.ref (He.ga K "NoName"))) (tCons (tIsA K a cls d (.ref (He.ga K "Twice"))) (tCons (tIsA K a cls d (.ref (He.ga K "NoQuestion"))) tNil))))) (gName 5))
  (tSeq (tDrop (tBM K "list" rAppend (tVar 5) (tCons (tIsA K a cls d (.ref (He.ga K "NoFit"))) tNil)))
  (tSeq (tIfS (tOr (tTest (tOp rNe (tBM K "list" (rCntT K) (tVar 5) (tCons (tC (.bl true)) tNil)) (tC (.int 1)))) (tOr (tNot (tB (tIsA K a cls d (.ty "ValueError")))) (tTest (tOp (rNeS K) (tVar 1) (tVar 2))))) (tRet (tTup (tCons (tC (.str "several")) tNil))) tNext)
  (tSeq (tAsg (tOp (rIxL K) (tLst (tCons (tC (.str "count")) (tCons (tC (.str "name")) (tCons (tC (.str "twice")) (tCons (tC (.str "question")) (tCons (tC (.str "fit")) tNil)))))) (tBM K "list" (rIndex K) (tVar 5) (tCons (tC (.bl true)) tNil))) (gName 6))
  (tRet (tIf (tTest (tOp rEq (tVar 6) (tC (.str "count")))) (tTup (tCons (tVar 6) (tCons (tXfA K a cls d "what" (tVar 4)) (tCons (tXfA K a cls d "count" (tVar 4)) tNil)))) (tTup (tCons (tVar 6) (tCons (tXfA K a cls d "name" (tVar 4)) tNil))))))))
section
variable {P : Program} {w : World} {K : PySem.W.Frag} {mg : Str → Option Value} {base : Heap}
theorem sc_said : FnScope ["_law_rows_here", "_law_handed", "_law_kept", "_law_form_here", "e", "_law_kinds", "_law_word", "_law_row"] ["_law_rows_here"] (defScope s__law_said) := ⟨rfl, rfl, rfl, by decide +kernel, rfl, by decide +kernel, by decide +kernel⟩
theorem ErrD.same {cls : Value} {d : Option Addr} {D : Addr} {H H' : Hp} {fs : List (Str × V)} (h : ErrD K cls d D H fs) (e : Same H H') : ErrD K cls d D H' fs := let ⟨h1, dd, h2, h3⟩ := h; ⟨h1, dd, h2, e _ _ h3⟩
theorem w_isA {a : Addr} {cls : Value} {d : Option Addr} {σ : L2.St} {H : Hp} {Q : VK} {x : Str} {fs : List (Str × V)} {c : V} {cv : Value} (b : Bool) (hσ : σ[4]? = some (some (V.ref a))) (hed : ErrD K cls d (He.ga K x) H fs) (EC : ErrC K x) (hcv : ∀ u, RelV c u → u = cv)
    (kit : PySem.W.kitOne K (.ref (He.ga K x)) cv = some b) (q : Q (.bl b) H) : tIsA K a cls d c σ H Q := ⟨_, hσ, He.ga K x, fs, c, cv, b, rfl, hed, EC.f, EC.k, hcv, kit, q⟩
theorem w_xfA {a : Addr} {cls : Value} {d : Option Addr} {σ : L2.St} {H : Hp} {Q : VK} {x n : Str} {fs : List (Str × V)} {v : V} (hσ : σ[4]? = some (some (V.ref a))) (hed : ErrD K cls d (He.ga K x) H fs) (EC : ErrC K x) (hno : NoAttr K (He.ga K x) n) (hl : fs.lookup n = some v) (q : Q v H) :
    tXfA K a cls d n (tVar 4) σ H Q := ⟨_, hσ, He.ga K x, fs, v, rfl, hed, EC.f, hno, hl, q⟩
theorem qe_keys {H : Hp} : ∀ {kvs : List (Key × V)} {qs : List Rw}, Paired (QE K H) kvs qs → kvs.map (fun kv => kV kv.1) = qs.map fun r => V.str r.name
  | _, _, .nil => rfl
  | _, _, .cons (a := kv) (b := r) h t => by
    rw [List.map_cons, List.map_cons, qe_keys t, h.1] <;> rfl
theorem lookup_hit {f : Str} {v : V} {r : List (Str × V)} : ((f, v) :: r).lookup f = some v := by rw [List.lookup_cons, beq_self_eq_true]
theorem lookup_on {f g : Str} {v u : V} {r : List (Str × V)} (h : (f == g) = false) (k : r.lookup f = some u) : ((g, v) :: r).lookup f = some u := by
  rw [List.lookup_cons, h]
  exact k
theorem lookup_no {f g : Str} {v : V} {r : List (Str × V)} (h : (f == g) = false) (k : r.lookup f = none) : ((g, v) :: r).lookup f = none := by
  rw [List.lookup_cons, h]
  exact k
theorem ok_said (T : Tx K mg) (d : Nat) : Ok P w K mg base (d + 14) (He.ga K "_law_said") ["_law_rows_here"] (spSaid K d) := by
  obtain ⟨fd, F⟩ := T.f__law_said
  obtain ⟨fdF, FF, bF, kpF⟩ := (ok_Form (P := P) (w := w) (base := base) T 4).run
  obtain ⟨fdO, FO, bO, kpO⟩ := (ok_outl (P := P) (w := w) (base := base) T).run
  obtain ⟨fdN, FN, bN, kpN⟩ := (ok_nms (P := P) (w := w) (base := base) T).run
  have gs : getsetB K = true := (and2 T.e).1
  refine ⟨fd, F.ok (k := d + 13) sc_said (fun vs H Q E h => ?_) (fun cdv A outer s H vs Q E hr h => ?_), F.bindsN fun _ _ _ _ _ _ us hl => match us, hl with | [_], _ => rfl, F.kp⟩
  · obtain ⟨l, xs, rs, rfl, _⟩ := h
    rfl
  obtain ⟨l, xs, rs, rfl, hl, hrs, hB, hd, hd10, hc, q⟩ := h
  have O := ok_made_row (P := P) (w := w) (base := base) T d
  refine ⟨_, pss_cons (by exact ps_setLc (i := 1) (own := [("_law_row", 7)]) (g := gName 7) (tt := tYes) (te := (tCall (spMadeR K d) [] E0 (tCons (tVar 7) tNil))) (by rfl) sc_said.nd rfl rfl (by rfl) (pi_list (pv 0)) (blkOk_by (own := [("_law_row", 7)]) (N := ["_law_rows_here", "_law_handed", "_law_kept", "_law_form_here", "e", "_law_kinds", "_law_word", "_law_row"]) (sc := defScope s__law_said) (by decide +kernel)) (fun _ _ _ _ _ => pg_name (i := 7) sc_said.nd rfl (Or.inl rfl)) (fun _ _ _ _ _ => pts_nil) (fun _ _ _ _ _ => (pe_f O (hr.mono (by omega)) T.g__law_made_row (pa_cons (pv 7) pa_nil))))
    (pss_cons (ps_set (i := 2) sc_said.nd rfl (Or.inl rfl) (pe_callTy call_list_of (by rfl) T.z_list (by decide +kernel) (pa_cons (pv 1) pa_nil)))
    (pss_cons (ps_try_as (c := .ref (He.ga K "HallError")) (i := 4) (n := "e") (tb := fun W => tAsg (tMakeS (He.ga K "Form") (spForm K 4) (WE W) (tCons (tVar 1) tNil)) (gName 3)) (ts := tSuite K) rfl rfl sc_said.nd rfl rfl ⟨rfl, by decide, Or.inl T.g_HallError⟩ (takes_of rfl rfl rfl rfl)
        (fun W pn xe tk _ => pss_one (ps_set (i := 3) sc_said.nd rfl (Or.inl rfl) (pe_makeS T.mk_Form FF (Room.mono hr (by omega)) (by rfl) T.g_Form bF (fun σ => passAt tk σ) (pa_cons (pv 1) pa_nil))))
        (fun a oe cls dd pn hz hf => by
          have HI : CallR (Cx.suite (cxOf (L2.CX P w) P w K mg base ["_law_rows_here", "_law_handed", "_law_kept", "_law_form_here", "e", "_law_kinds", "_law_word", "_law_row"] "_law_said" (defScope s__law_said) (He.ga K "_law_said") cdv A outer s H E) a ((a, oe) :: pn)) (.builtin "isinstance") (rIsA K a cls dd) := call_isA gs hz hf
          exact pss_cons (ps_set (i := 5) sc_said.nd rfl (Or.inl rfl) (pe_lst (pa_cons (pe_callB HI (by rfl) T.z_isinstance (by decide +kernel) (pa_cons (pv 4) (pa_cons (pe_gref T.g_BadCount) pa_nil))) (pa_cons (pe_callB HI (by rfl) T.z_isinstance (by decide +kernel) (pa_cons (pv 4) (pa_cons (pe_gref T.g_NoName) pa_nil))) (pa_cons (pe_callB HI (by rfl) T.z_isinstance (by decide +kernel) (pa_cons (pv 4) (pa_cons (pe_gref T.g_Twice) pa_nil))) (pa_cons (pe_callB HI (by rfl) T.z_isinstance (by decide +kernel) (pa_cons (pv 4) (pa_cons (pe_gref T.g_NoQuestion) pa_nil))) pa_nil))))))
              (pss_cons (ps_expr (pe_bm PySem.F.plainAttrs_list PySem.F.slot_list_append PySem.F.type_list_append mt_append (pv 5) (pa_cons (pe_callB HI (by rfl) T.z_isinstance (by decide +kernel) (pa_cons (pv 4) (pa_cons (pe_gref T.g_NoFit) pa_nil))) pa_nil)))
              (pss_cons (ps_if (pw_or (pt_cmpR op_ne (pe_bm PySem.F.plainAttrs_list PySem.F.slot_list_count PySem.F.type_list_count mt_countT (pv 5) (pa_cons pe_bl pa_nil)) pe_int (nomark _)) (pw_or (pt_not (pt_val (pe_callB HI (by rfl) T.z_isinstance (by decide +kernel) (pa_cons (pv 4) (pa_cons (pe_bltn (v := .ty "ValueError") (u := .type "ValueError") (by rfl) T.z_ValueError (by decide +kernel) rfl) pa_nil))))) (pw_or1 (pt_cmpR (op_neS (by exact hr.units0)) (pv 1) (pv 2) (nomark _))))).pt (pss_one (ps_ret (pe_tup (pa_cons pe_str pa_nil)))) pss_nil)
              (pss_cons (ps_set (i := 6) sc_said.nd rfl (Or.inl rfl) (pe_ix ix_list (pe_lst (pa_cons pe_str (pa_cons pe_str (pa_cons pe_str (pa_cons pe_str (pa_cons pe_str pa_nil)))))) (pe_bm PySem.F.plainAttrs_list PySem.F.slot_list_index PySem.F.type_list_index mt_index (pv 5) (pa_cons pe_bl pa_nil)) (fun _ _ => rfl)))
              (pss_one (ps_ret (pe_ifExp (pt_cmpR op_eq (pv 6) pe_str (nomark _)) (pe_tup (pa_cons (pv 6) (pa_cons (pe_xfA hz hf (pv 4)) (pa_cons (pe_xfA hz hf (pv 4)) pa_nil)))) (pe_tup (pa_cons (pv 6) (pa_cons (pe_xfA hz hf (pv 4)) pa_nil)))))))))))
    (pss_cons (ps_if (pw_or (pt_cmpR (op_neS hr.units0) (pe_meth0 (pv 3) T.cl_Form T.m_Form_outline FO (hr.mono (by omega)) bO .nil passL) (pv 2) (nomark _)) (pw_or (pt_cmpR (op_neS hr.units0) (pv 1) (pv 2) (nomark _)) (pw_or1 (pt_cmpR op_ne (pe_callB call_len_seq (by rfl) T.z_len PySem.boot_len (pa_cons (pe_meth0 (pv 3) T.cl_Form T.m_Form_outline FO (hr.mono (by omega)) bO .nil passL) pa_nil)) (pe_callB call_len_seq (by rfl) T.z_len PySem.boot_len (pa_cons (pv 0) pa_nil)) (nomark _))))).pt (pss_one (ps_ret (pe_tup (pa_cons pe_str pa_nil)))) pss_nil)
    (pss_one (ps_ret (pe_tup (pa_cons pe_str (pa_cons (pe_meth0 (pv 3) T.cl_Form T.m_Form_names FN (hr.mono (by omega)) bN .nil passL) pa_nil)))))))), ?_⟩
  have lr := hrs.len
  walk_at "go"
  refine ⟨_, rfl, l, rfl, ⟨_, SqL.of hl⟩, fun D hD => ?_⟩
  refine lc_list (K := K) (a := l) (xs := xs) (fun (i : Nat) H' => ∃ acc : List V, Same H H' ∧ H' D = some (.lst acc) ∧ acc.length = i ∧ ROs K H' acc (rs.take i)) ⟨[], Same.new hD _, upd_same, rfl, .nil⟩ (fun i H' _ ⟨acc, e, _⟩ => SqL.of (e _ _ hl)) ?_ ?_
  · rintro i x H1 hxi ⟨acc, e1, hD1, la, hro⟩
    obtain ⟨r, hri, hdr⟩ := hrs.get hxi
    have hi : i < rs.length := (List.getElem?_eq_some_iff.mp hri).1
    have rm := one_of hri
    have b1 := dep_mem rm
    have b2 := cnt_mem rm
    have hlen : rs.length ≤ 900 := Nat.le_trans (Rws.len_cnt rs) hc
    walk_at "go"
    refine ⟨rfl, ?_⟩
    walk_at "go"
    refine ⟨x, r, rfl, hdr.same e1, (RBs.iff _).mp hB r rm, by omega, by omega, fun y H2 e2 hy => ?_⟩
    have hD2 := e2 _ _ hD1
    refine ⟨acc, hD2, Nat.lt_of_le_of_lt (show acc.length ≤ 1000 by omega) (by decide), acc ++ [y], (e1.trans e2).mut hD, upd_same, by rw [List.length_append, la]; rfl, ?_⟩
    have si : SI H2 (upd H2 D (.lst (acc ++ [y]))) := SI.upd hD2 rfl _
    rw [List.take_add_one, hri]
    exact ROs.app ((hro.si e2.si).si si) (.cons (hy.si si) .nil)
  · rintro H1 ⟨acc, e1, hD1, la, hro⟩
    rw [lr, List.take_length] at hro
    walk_at "go"
    refine ⟨D, acc, rfl, .inl (SqL.of hD1), fun k hk => ?_⟩
    have e2 : Same H1 (upd H1 k (.lst acc)) := Same.new hk _
    have hk2 : (upd H1 k (.lst acc)) k = some (.lst acc) := upd_same
    generalize upd H1 k (.lst acc) = H2 at e2 hk2 ⊢
    have hD2 := e2 _ _ hD1
    have hro2 := hro.same e2
    have refs : ∀ v ∈ acc, ∃ c, v = V.ref c := fun v hv => by
      obtain ⟨j, hj⟩ := List.mem_iff_getElem?.mp hv
      obtain ⟨r, _, hr'⟩ := ROs.get hro2 hj
      exact RO.ref hr'
    walk_at "go"
    refine w_makeS ?_
    walk_at "go"
    intro x dx hx hdx hne
    have e3 : Same H2 (upd (upd H2 dx (.own x)) x (.ins (He.ga K "Form") dx [])) := ((Same.refl H2).mut hdx).mut hx
    refine ⟨x, dx, D, acc, rs, H2, rfl, e3, hx, .inl (SqL.of hD2), hro2, Rws.flat_bd rs none 0 hB, by omega, by omega, upd_same, ?_⟩
    unfold FormEnd
    cases hf : formF rs with
    | some f =>
      intro cls dd H3 e4 hIs
      obtain ⟨hx5, hed⟩ := isF_err hIs
      have EC := T.err hx5
      have hed0 := hed
      refine ⟨true, by rw [hed.1]; exact EC.m, fun _ a ha => ?_, fun z => by cases z⟩
      have g3 : Same H H3 := (e1.trans e2).trans e4
      have fin : ∀ (p : Addr) (H' : Hp), Same H H' → H' p = none → Q (.ref p) (upd H' p (.tup (fV f))) := fun p H' e hp => q _ _ (e.trans (Same.new hp _)) (by unfold DueV; rw [hf]; exact ⟨p, rfl, upd_same⟩)
      cases f with
      | count wt nt =>
        replace EC : ErrC K ("BadCount" : Str) := EC
        replace hed : ErrD K cls dd (He.ga K "BadCount") H3 [(("count" : Str), V.int nt), (("what" : Str), V.str wt)] := hed
        replace hed0 : ErrD K cls dd (He.ga K "BadCount") H3 [(("count" : Str), V.int nt), (("what" : Str), V.str wt)] := hed0
        (unfold tSuite; walk_at "go"; (refine w_isA true rfl hed EC (cv := .ref (He.ga K "BadCount")) (fun u r => r) ((EC.i "BadCount" (by decide)).trans (by decide +kernel)) ?_; walk_at "go"); (refine w_isA false rfl hed EC (cv := .ref (He.ga K "NoName")) (fun u r => r) ((EC.i "NoName" (by decide)).trans (by decide +kernel)) ?_; walk_at "go"); (refine w_isA false rfl hed EC (cv := .ref (He.ga K "Twice")) (fun u r => r) ((EC.i "Twice" (by decide)).trans (by decide +kernel)) ?_; walk_at "go"); (refine w_isA false rfl hed EC (cv := .ref (He.ga K "NoQuestion")) (fun u r => r) ((EC.i "NoQuestion" (by decide)).trans (by decide +kernel)) ?_; walk_at "go"); refine ⟨(by show 4 ≤ sizeLine; decide), fun p4 hp4 => ?_⟩; have e5 : Same H3 (upd H3 p4 (.lst [V.bl true, .bl false, .bl false, .bl false])) := Same.new hp4 _; have hp4' : (upd H3 p4 (.lst [V.bl true, .bl false, .bl false, .bl false])) p4 = some (.lst [V.bl true, .bl false, .bl false, .bl false]) := upd_same; generalize upd H3 p4 (.lst [V.bl true, .bl false, .bl false, .bl false]) = H4 at e5 hp4' ⊢; replace hed := hed.same e5; walk_at "go"; refine ⟨_, rfl, .inl ⟨rfl, _, SqL.of hp4'⟩, ?_⟩; walk_at "go"; (refine w_isA false rfl hed EC (cv := .ref (He.ga K "NoFit")) (fun u r => r) ((EC.i "NoFit" (by decide)).trans (by decide +kernel)) ?_; walk_at "go"); refine ⟨p4, _, _, rfl, rfl, hp4', Nat.lt_of_le_of_lt (show 4 ≤ 1000 by decide) (by decide), ?_⟩; have e6 : Same H3 (upd H4 p4 (.lst ([V.bl true, .bl false, .bl false, .bl false] ++ [.bl false]))) := e5.mut hp4; have hp6 : (upd H4 p4 (.lst ([V.bl true, .bl false, .bl false, .bl false] ++ [.bl false]))) p4 = some (.lst [V.bl true, .bl false, .bl false, .bl false, .bl false]) := upd_same; generalize upd H4 p4 (.lst ([V.bl true, .bl false, .bl false, .bl false] ++ [.bl false])) = H6 at e6 hp6 ⊢; replace hed := hed0.same e6; walk_at "go"; refine ⟨_, rfl, .inl ⟨rfl, _, SqL.of hp6⟩, ?_⟩; walk_at "go"; refine ⟨p4, [true, false, false, false, false], true, rfl, rfl, SqL.of hp6, ?_⟩; rw [show countIn (.bool true) ([true, false, false, false, false].map PyData.bool) = 1 by decide]; walk_at "go"; refine ⟨rfl, ?_⟩; rw [show (!decide (V.int 1 = V.int 1)) = false from rfl]; walk_at "go"; refine w_isA true rfl hed EC (cv := .type "ValueError") (fun u r => r) EC.v ?_; walk_at "go"; refine ⟨D, k, acc, rfl, rfl, SqL.of (e6 _ _ (e4 _ _ hD2)), SqL.of (e6 _ _ (e4 _ _ hk2)), refs, ?_⟩; walk_at "go"; refine ⟨(by show 5 ≤ sizeLine; decide), fun p7 hp7 => ?_⟩; have e7 : Same H6 (upd H6 p7 (.lst [V.str "count", .str "name", .str "twice", .str "question", .str "fit"])) := Same.new hp7 _; have hp7' : (upd H6 p7 (.lst [V.str "count", .str "name", .str "twice", .str "question", .str "fit"])) p7 = some (.lst [V.str "count", .str "name", .str "twice", .str "question", .str "fit"]) := upd_same; generalize upd H6 p7 (.lst [V.str "count", .str "name", .str "twice", .str "question", .str "fit"]) = H7 at e7 hp7' ⊢; replace hed := hed.same e7; walk_at "go"; refine ⟨_, rfl, .inl ⟨rfl, _, SqL.of (e7 _ _ hp6)⟩, ?_⟩; walk_at "go"; refine ⟨p4, _, .bl true, 0, .bl true, rfl, rfl, SqL.of (e7 _ _ hp6), rfl, rfl, rfl, rfl, fun m z' hm hz' => (by rcases m with _ | _ | _ | _ | m <;> first | omega | (cases hz'; rfl)), ?_⟩; refine w_ixL hp7' rfl ?_; walk_at "go"; refine w_sEq true (by decide +kernel) ?_; walk_at "go")
        refine w_xfA rfl hed EC T.n_BadCount_what (lookup_on (by decide) lookup_hit) ?_
        walk_at "go"
        refine w_xfA rfl hed EC T.n_BadCount_count lookup_hit ?_
        walk_at "go"
        exact ⟨(by show 3 ≤ sizeLine; decide), fun p9 hp9 => fin p9 _ ((g3.trans e6).trans e7) hp9⟩
      | name z =>
        replace EC : ErrC K ("NoName" : Str) := EC
        replace hed : ErrD K cls dd (He.ga K "NoName") H3 [(("name" : Str), V.str z)] := hed
        replace hed0 : ErrD K cls dd (He.ga K "NoName") H3 [(("name" : Str), V.str z)] := hed0
        (unfold tSuite; walk_at "go"; (refine w_isA false rfl hed EC (cv := .ref (He.ga K "BadCount")) (fun u r => r) ((EC.i "BadCount" (by decide)).trans (by decide +kernel)) ?_; walk_at "go"); (refine w_isA true rfl hed EC (cv := .ref (He.ga K "NoName")) (fun u r => r) ((EC.i "NoName" (by decide)).trans (by decide +kernel)) ?_; walk_at "go"); (refine w_isA false rfl hed EC (cv := .ref (He.ga K "Twice")) (fun u r => r) ((EC.i "Twice" (by decide)).trans (by decide +kernel)) ?_; walk_at "go"); (refine w_isA false rfl hed EC (cv := .ref (He.ga K "NoQuestion")) (fun u r => r) ((EC.i "NoQuestion" (by decide)).trans (by decide +kernel)) ?_; walk_at "go"); refine ⟨(by show 4 ≤ sizeLine; decide), fun p4 hp4 => ?_⟩; have e5 : Same H3 (upd H3 p4 (.lst [V.bl false, .bl true, .bl false, .bl false])) := Same.new hp4 _; have hp4' : (upd H3 p4 (.lst [V.bl false, .bl true, .bl false, .bl false])) p4 = some (.lst [V.bl false, .bl true, .bl false, .bl false]) := upd_same; generalize upd H3 p4 (.lst [V.bl false, .bl true, .bl false, .bl false]) = H4 at e5 hp4' ⊢; replace hed := hed.same e5; walk_at "go"; refine ⟨_, rfl, .inl ⟨rfl, _, SqL.of hp4'⟩, ?_⟩; walk_at "go"; (refine w_isA false rfl hed EC (cv := .ref (He.ga K "NoFit")) (fun u r => r) ((EC.i "NoFit" (by decide)).trans (by decide +kernel)) ?_; walk_at "go"); refine ⟨p4, _, _, rfl, rfl, hp4', Nat.lt_of_le_of_lt (show 4 ≤ 1000 by decide) (by decide), ?_⟩; have e6 : Same H3 (upd H4 p4 (.lst ([V.bl false, .bl true, .bl false, .bl false] ++ [.bl false]))) := e5.mut hp4; have hp6 : (upd H4 p4 (.lst ([V.bl false, .bl true, .bl false, .bl false] ++ [.bl false]))) p4 = some (.lst [V.bl false, .bl true, .bl false, .bl false, .bl false]) := upd_same; generalize upd H4 p4 (.lst ([V.bl false, .bl true, .bl false, .bl false] ++ [.bl false])) = H6 at e6 hp6 ⊢; replace hed := hed0.same e6; walk_at "go"; refine ⟨_, rfl, .inl ⟨rfl, _, SqL.of hp6⟩, ?_⟩; walk_at "go"; refine ⟨p4, [false, true, false, false, false], true, rfl, rfl, SqL.of hp6, ?_⟩; rw [show countIn (.bool true) ([false, true, false, false, false].map PyData.bool) = 1 by decide]; walk_at "go"; refine ⟨rfl, ?_⟩; rw [show (!decide (V.int 1 = V.int 1)) = false from rfl]; walk_at "go"; refine w_isA true rfl hed EC (cv := .type "ValueError") (fun u r => r) EC.v ?_; walk_at "go"; refine ⟨D, k, acc, rfl, rfl, SqL.of (e6 _ _ (e4 _ _ hD2)), SqL.of (e6 _ _ (e4 _ _ hk2)), refs, ?_⟩; walk_at "go"; refine ⟨(by show 5 ≤ sizeLine; decide), fun p7 hp7 => ?_⟩; have e7 : Same H6 (upd H6 p7 (.lst [V.str "count", .str "name", .str "twice", .str "question", .str "fit"])) := Same.new hp7 _; have hp7' : (upd H6 p7 (.lst [V.str "count", .str "name", .str "twice", .str "question", .str "fit"])) p7 = some (.lst [V.str "count", .str "name", .str "twice", .str "question", .str "fit"]) := upd_same; generalize upd H6 p7 (.lst [V.str "count", .str "name", .str "twice", .str "question", .str "fit"]) = H7 at e7 hp7' ⊢; replace hed := hed.same e7; walk_at "go"; refine ⟨_, rfl, .inl ⟨rfl, _, SqL.of (e7 _ _ hp6)⟩, ?_⟩; walk_at "go"; refine ⟨p4, _, .bl true, 1, .bl true, rfl, rfl, SqL.of (e7 _ _ hp6), rfl, rfl, rfl, rfl, fun m z' hm hz' => (by rcases m with _ | _ | _ | _ | m <;> first | omega | (cases hz'; rfl)), ?_⟩; refine w_ixL hp7' rfl ?_; walk_at "go"; refine w_sEq false (by decide +kernel) ?_; walk_at "go")
        refine w_xfA rfl hed EC T.n_NoName_name lookup_hit ?_
        walk_at "go"
        exact ⟨(by show 2 ≤ sizeLine; decide), fun p9 hp9 => fin p9 _ ((g3.trans e6).trans e7) hp9⟩
      | twice z =>
        replace EC : ErrC K ("Twice" : Str) := EC
        replace hed : ErrD K cls dd (He.ga K "Twice") H3 [(("name" : Str), V.str z)] := hed
        replace hed0 : ErrD K cls dd (He.ga K "Twice") H3 [(("name" : Str), V.str z)] := hed0
        (unfold tSuite; walk_at "go"; (refine w_isA false rfl hed EC (cv := .ref (He.ga K "BadCount")) (fun u r => r) ((EC.i "BadCount" (by decide)).trans (by decide +kernel)) ?_; walk_at "go"); (refine w_isA false rfl hed EC (cv := .ref (He.ga K "NoName")) (fun u r => r) ((EC.i "NoName" (by decide)).trans (by decide +kernel)) ?_; walk_at "go"); (refine w_isA true rfl hed EC (cv := .ref (He.ga K "Twice")) (fun u r => r) ((EC.i "Twice" (by decide)).trans (by decide +kernel)) ?_; walk_at "go"); (refine w_isA false rfl hed EC (cv := .ref (He.ga K "NoQuestion")) (fun u r => r) ((EC.i "NoQuestion" (by decide)).trans (by decide +kernel)) ?_; walk_at "go"); refine ⟨(by show 4 ≤ sizeLine; decide), fun p4 hp4 => ?_⟩; have e5 : Same H3 (upd H3 p4 (.lst [V.bl false, .bl false, .bl true, .bl false])) := Same.new hp4 _; have hp4' : (upd H3 p4 (.lst [V.bl false, .bl false, .bl true, .bl false])) p4 = some (.lst [V.bl false, .bl false, .bl true, .bl false]) := upd_same; generalize upd H3 p4 (.lst [V.bl false, .bl false, .bl true, .bl false]) = H4 at e5 hp4' ⊢; replace hed := hed.same e5; walk_at "go"; refine ⟨_, rfl, .inl ⟨rfl, _, SqL.of hp4'⟩, ?_⟩; walk_at "go"; (refine w_isA false rfl hed EC (cv := .ref (He.ga K "NoFit")) (fun u r => r) ((EC.i "NoFit" (by decide)).trans (by decide +kernel)) ?_; walk_at "go"); refine ⟨p4, _, _, rfl, rfl, hp4', Nat.lt_of_le_of_lt (show 4 ≤ 1000 by decide) (by decide), ?_⟩; have e6 : Same H3 (upd H4 p4 (.lst ([V.bl false, .bl false, .bl true, .bl false] ++ [.bl false]))) := e5.mut hp4; have hp6 : (upd H4 p4 (.lst ([V.bl false, .bl false, .bl true, .bl false] ++ [.bl false]))) p4 = some (.lst [V.bl false, .bl false, .bl true, .bl false, .bl false]) := upd_same; generalize upd H4 p4 (.lst ([V.bl false, .bl false, .bl true, .bl false] ++ [.bl false])) = H6 at e6 hp6 ⊢; replace hed := hed0.same e6; walk_at "go"; refine ⟨_, rfl, .inl ⟨rfl, _, SqL.of hp6⟩, ?_⟩; walk_at "go"; refine ⟨p4, [false, false, true, false, false], true, rfl, rfl, SqL.of hp6, ?_⟩; rw [show countIn (.bool true) ([false, false, true, false, false].map PyData.bool) = 1 by decide]; walk_at "go"; refine ⟨rfl, ?_⟩; rw [show (!decide (V.int 1 = V.int 1)) = false from rfl]; walk_at "go"; refine w_isA true rfl hed EC (cv := .type "ValueError") (fun u r => r) EC.v ?_; walk_at "go"; refine ⟨D, k, acc, rfl, rfl, SqL.of (e6 _ _ (e4 _ _ hD2)), SqL.of (e6 _ _ (e4 _ _ hk2)), refs, ?_⟩; walk_at "go"; refine ⟨(by show 5 ≤ sizeLine; decide), fun p7 hp7 => ?_⟩; have e7 : Same H6 (upd H6 p7 (.lst [V.str "count", .str "name", .str "twice", .str "question", .str "fit"])) := Same.new hp7 _; have hp7' : (upd H6 p7 (.lst [V.str "count", .str "name", .str "twice", .str "question", .str "fit"])) p7 = some (.lst [V.str "count", .str "name", .str "twice", .str "question", .str "fit"]) := upd_same; generalize upd H6 p7 (.lst [V.str "count", .str "name", .str "twice", .str "question", .str "fit"]) = H7 at e7 hp7' ⊢; replace hed := hed.same e7; walk_at "go"; refine ⟨_, rfl, .inl ⟨rfl, _, SqL.of (e7 _ _ hp6)⟩, ?_⟩; walk_at "go"; refine ⟨p4, _, .bl true, 2, .bl true, rfl, rfl, SqL.of (e7 _ _ hp6), rfl, rfl, rfl, rfl, fun m z' hm hz' => (by rcases m with _ | _ | _ | _ | m <;> first | omega | (cases hz'; rfl)), ?_⟩; refine w_ixL hp7' rfl ?_; walk_at "go"; refine w_sEq false (by decide +kernel) ?_; walk_at "go")
        refine w_xfA rfl hed EC T.n_Twice_name lookup_hit ?_
        walk_at "go"
        exact ⟨(by show 2 ≤ sizeLine; decide), fun p9 hp9 => fin p9 _ ((g3.trans e6).trans e7) hp9⟩
      | quest z =>
        replace EC : ErrC K ("NoQuestion" : Str) := EC
        replace hed : ErrD K cls dd (He.ga K "NoQuestion") H3 [(("name" : Str), V.str z)] := hed
        replace hed0 : ErrD K cls dd (He.ga K "NoQuestion") H3 [(("name" : Str), V.str z)] := hed0
        (unfold tSuite; walk_at "go"; (refine w_isA false rfl hed EC (cv := .ref (He.ga K "BadCount")) (fun u r => r) ((EC.i "BadCount" (by decide)).trans (by decide +kernel)) ?_; walk_at "go"); (refine w_isA false rfl hed EC (cv := .ref (He.ga K "NoName")) (fun u r => r) ((EC.i "NoName" (by decide)).trans (by decide +kernel)) ?_; walk_at "go"); (refine w_isA false rfl hed EC (cv := .ref (He.ga K "Twice")) (fun u r => r) ((EC.i "Twice" (by decide)).trans (by decide +kernel)) ?_; walk_at "go"); (refine w_isA true rfl hed EC (cv := .ref (He.ga K "NoQuestion")) (fun u r => r) ((EC.i "NoQuestion" (by decide)).trans (by decide +kernel)) ?_; walk_at "go"); refine ⟨(by show 4 ≤ sizeLine; decide), fun p4 hp4 => ?_⟩; have e5 : Same H3 (upd H3 p4 (.lst [V.bl false, .bl false, .bl false, .bl true])) := Same.new hp4 _; have hp4' : (upd H3 p4 (.lst [V.bl false, .bl false, .bl false, .bl true])) p4 = some (.lst [V.bl false, .bl false, .bl false, .bl true]) := upd_same; generalize upd H3 p4 (.lst [V.bl false, .bl false, .bl false, .bl true]) = H4 at e5 hp4' ⊢; replace hed := hed.same e5; walk_at "go"; refine ⟨_, rfl, .inl ⟨rfl, _, SqL.of hp4'⟩, ?_⟩; walk_at "go"; (refine w_isA false rfl hed EC (cv := .ref (He.ga K "NoFit")) (fun u r => r) ((EC.i "NoFit" (by decide)).trans (by decide +kernel)) ?_; walk_at "go"); refine ⟨p4, _, _, rfl, rfl, hp4', Nat.lt_of_le_of_lt (show 4 ≤ 1000 by decide) (by decide), ?_⟩; have e6 : Same H3 (upd H4 p4 (.lst ([V.bl false, .bl false, .bl false, .bl true] ++ [.bl false]))) := e5.mut hp4; have hp6 : (upd H4 p4 (.lst ([V.bl false, .bl false, .bl false, .bl true] ++ [.bl false]))) p4 = some (.lst [V.bl false, .bl false, .bl false, .bl true, .bl false]) := upd_same; generalize upd H4 p4 (.lst ([V.bl false, .bl false, .bl false, .bl true] ++ [.bl false])) = H6 at e6 hp6 ⊢; replace hed := hed0.same e6; walk_at "go"; refine ⟨_, rfl, .inl ⟨rfl, _, SqL.of hp6⟩, ?_⟩; walk_at "go"; refine ⟨p4, [false, false, false, true, false], true, rfl, rfl, SqL.of hp6, ?_⟩; rw [show countIn (.bool true) ([false, false, false, true, false].map PyData.bool) = 1 by decide]; walk_at "go"; refine ⟨rfl, ?_⟩; rw [show (!decide (V.int 1 = V.int 1)) = false from rfl]; walk_at "go"; refine w_isA true rfl hed EC (cv := .type "ValueError") (fun u r => r) EC.v ?_; walk_at "go"; refine ⟨D, k, acc, rfl, rfl, SqL.of (e6 _ _ (e4 _ _ hD2)), SqL.of (e6 _ _ (e4 _ _ hk2)), refs, ?_⟩; walk_at "go"; refine ⟨(by show 5 ≤ sizeLine; decide), fun p7 hp7 => ?_⟩; have e7 : Same H6 (upd H6 p7 (.lst [V.str "count", .str "name", .str "twice", .str "question", .str "fit"])) := Same.new hp7 _; have hp7' : (upd H6 p7 (.lst [V.str "count", .str "name", .str "twice", .str "question", .str "fit"])) p7 = some (.lst [V.str "count", .str "name", .str "twice", .str "question", .str "fit"]) := upd_same; generalize upd H6 p7 (.lst [V.str "count", .str "name", .str "twice", .str "question", .str "fit"]) = H7 at e7 hp7' ⊢; replace hed := hed.same e7; walk_at "go"; refine ⟨_, rfl, .inl ⟨rfl, _, SqL.of (e7 _ _ hp6)⟩, ?_⟩; walk_at "go"; refine ⟨p4, _, .bl true, 3, .bl true, rfl, rfl, SqL.of (e7 _ _ hp6), rfl, rfl, rfl, rfl, fun m z' hm hz' => (by rcases m with _ | _ | _ | _ | m <;> first | omega | (cases hz'; rfl)), ?_⟩; refine w_ixL hp7' rfl ?_; walk_at "go"; refine w_sEq false (by decide +kernel) ?_; walk_at "go")
        refine w_xfA rfl hed EC T.n_NoQuestion_name lookup_hit ?_
        walk_at "go"
        exact ⟨(by show 2 ≤ sizeLine; decide), fun p9 hp9 => fin p9 _ ((g3.trans e6).trans e7) hp9⟩
      | fit z =>
        replace EC : ErrC K ("NoFit" : Str) := EC
        replace hed : ErrD K cls dd (He.ga K "NoFit") H3 [(("name" : Str), V.str z)] := hed
        replace hed0 : ErrD K cls dd (He.ga K "NoFit") H3 [(("name" : Str), V.str z)] := hed0
        (unfold tSuite; walk_at "go"; (refine w_isA false rfl hed EC (cv := .ref (He.ga K "BadCount")) (fun u r => r) ((EC.i "BadCount" (by decide)).trans (by decide +kernel)) ?_; walk_at "go"); (refine w_isA false rfl hed EC (cv := .ref (He.ga K "NoName")) (fun u r => r) ((EC.i "NoName" (by decide)).trans (by decide +kernel)) ?_; walk_at "go"); (refine w_isA false rfl hed EC (cv := .ref (He.ga K "Twice")) (fun u r => r) ((EC.i "Twice" (by decide)).trans (by decide +kernel)) ?_; walk_at "go"); (refine w_isA false rfl hed EC (cv := .ref (He.ga K "NoQuestion")) (fun u r => r) ((EC.i "NoQuestion" (by decide)).trans (by decide +kernel)) ?_; walk_at "go"); refine ⟨(by show 4 ≤ sizeLine; decide), fun p4 hp4 => ?_⟩; have e5 : Same H3 (upd H3 p4 (.lst [V.bl false, .bl false, .bl false, .bl false])) := Same.new hp4 _; have hp4' : (upd H3 p4 (.lst [V.bl false, .bl false, .bl false, .bl false])) p4 = some (.lst [V.bl false, .bl false, .bl false, .bl false]) := upd_same; generalize upd H3 p4 (.lst [V.bl false, .bl false, .bl false, .bl false]) = H4 at e5 hp4' ⊢; replace hed := hed.same e5; walk_at "go"; refine ⟨_, rfl, .inl ⟨rfl, _, SqL.of hp4'⟩, ?_⟩; walk_at "go"; (refine w_isA true rfl hed EC (cv := .ref (He.ga K "NoFit")) (fun u r => r) ((EC.i "NoFit" (by decide)).trans (by decide +kernel)) ?_; walk_at "go"); refine ⟨p4, _, _, rfl, rfl, hp4', Nat.lt_of_le_of_lt (show 4 ≤ 1000 by decide) (by decide), ?_⟩; have e6 : Same H3 (upd H4 p4 (.lst ([V.bl false, .bl false, .bl false, .bl false] ++ [.bl true]))) := e5.mut hp4; have hp6 : (upd H4 p4 (.lst ([V.bl false, .bl false, .bl false, .bl false] ++ [.bl true]))) p4 = some (.lst [V.bl false, .bl false, .bl false, .bl false, .bl true]) := upd_same; generalize upd H4 p4 (.lst ([V.bl false, .bl false, .bl false, .bl false] ++ [.bl true])) = H6 at e6 hp6 ⊢; replace hed := hed0.same e6; walk_at "go"; refine ⟨_, rfl, .inl ⟨rfl, _, SqL.of hp6⟩, ?_⟩; walk_at "go"; refine ⟨p4, [false, false, false, false, true], true, rfl, rfl, SqL.of hp6, ?_⟩; rw [show countIn (.bool true) ([false, false, false, false, true].map PyData.bool) = 1 by decide]; walk_at "go"; refine ⟨rfl, ?_⟩; rw [show (!decide (V.int 1 = V.int 1)) = false from rfl]; walk_at "go"; refine w_isA true rfl hed EC (cv := .type "ValueError") (fun u r => r) EC.v ?_; walk_at "go"; refine ⟨D, k, acc, rfl, rfl, SqL.of (e6 _ _ (e4 _ _ hD2)), SqL.of (e6 _ _ (e4 _ _ hk2)), refs, ?_⟩; walk_at "go"; refine ⟨(by show 5 ≤ sizeLine; decide), fun p7 hp7 => ?_⟩; have e7 : Same H6 (upd H6 p7 (.lst [V.str "count", .str "name", .str "twice", .str "question", .str "fit"])) := Same.new hp7 _; have hp7' : (upd H6 p7 (.lst [V.str "count", .str "name", .str "twice", .str "question", .str "fit"])) p7 = some (.lst [V.str "count", .str "name", .str "twice", .str "question", .str "fit"]) := upd_same; generalize upd H6 p7 (.lst [V.str "count", .str "name", .str "twice", .str "question", .str "fit"]) = H7 at e7 hp7' ⊢; replace hed := hed.same e7; walk_at "go"; refine ⟨_, rfl, .inl ⟨rfl, _, SqL.of (e7 _ _ hp6)⟩, ?_⟩; walk_at "go"; refine ⟨p4, _, .bl true, 4, .bl true, rfl, rfl, SqL.of (e7 _ _ hp6), rfl, rfl, rfl, rfl, fun m z' hm hz' => (by rcases m with _ | _ | _ | _ | m <;> first | omega | (cases hz'; rfl)), ?_⟩; refine w_ixL hp7' rfl ?_; walk_at "go"; refine w_sEq false (by decide +kernel) ?_; walk_at "go")
        refine w_xfA rfl hed EC T.n_NoFit_name lookup_hit ?_
        walk_at "go"
        exact ⟨(by show 2 ≤ sizeLine; decide), fun p9 hp9 => fin p9 _ ((g3.trans e6).trans e7) hp9⟩
    | none =>
      intro H3 t dq d2 kvs e4 hx3 ht3 hd3 hp3
      have g3 : Same H H3 := (e1.trans e2).trans e4
      refine ⟨rfl, ?_⟩
      walk_at "go"
      refine ⟨_, rfl, x, dx, _, rfl, hx3, lookup_no (by decide) (lookup_no (by decide) (lookup_no (by decide) rfl)), ?_⟩
      walk_at "go"
      refine ⟨x, dx, t, acc, _, _, rfl, hx3, ht3, fun p5 hp5 => ?_⟩
      have e5 : Same H3 (upd H3 p5 (.lst acc)) := Same.new hp5 _
      have hp5' : (upd H3 p5 (.lst acc)) p5 = some (.lst acc) := upd_same
      generalize upd H3 p5 (.lst acc) = H5 at e5 hp5' ⊢
      have e45 := e4.trans e5
      walk_at "go"
      refine ⟨p5, k, acc, rfl, rfl, SqL.of hp5', SqL.of (e45 _ _ hk2), refs, ?_⟩
      walk_at "go"
      refine ⟨D, k, acc, rfl, rfl, SqL.of (e45 _ _ hD2), SqL.of (e45 _ _ hk2), refs, ?_⟩
      walk_at "go"
      refine ⟨_, rfl, x, dx, _, rfl, e5 _ _ hx3, lookup_no (by decide) (lookup_no (by decide) (lookup_no (by decide) rfl)), ?_⟩
      walk_at "go"
      refine ⟨x, dx, t, acc, _, _, rfl, e5 _ _ hx3, e5.sqt ht3, fun p6 hp6 => ?_⟩
      have e6 : Same H5 (upd H5 p6 (.lst acc)) := Same.new hp6 _
      have hp6' : (upd H5 p6 (.lst acc)) p6 = some (.lst acc) := upd_same
      generalize upd H5 p6 (.lst acc) = H6 at e6 hp6' ⊢
      have g6 := (g3.trans e5).trans e6
      walk_at "go"
      refine ⟨p6, acc, rfl, .inl (SqL.of hp6'), ?_⟩
      walk_at "go"
      refine ⟨l, xs, rfl, .inl (SqL.of (g6 _ _ hl)), ?_⟩
      walk_at "go"
      refine ⟨rfl, ?_⟩
      rw [la, show (!decide (V.int (xs.length : Int) = V.int (xs.length : Int))) = false by simp]
      walk_at "go"
      refine ⟨_, rfl, x, dx, _, rfl, e6 _ _ (e5 _ _ hx3), lookup_no (by decide) (lookup_no (by decide) (lookup_no (by decide) rfl)), ?_⟩
      walk_at "go"
      refine ⟨x, dx, dq, kvs, _, _, rfl, e6 _ _ (e5 _ _ hx3), e6 _ _ (e5 _ _ hd3), fun p7 hp7 => ?_⟩
      walk_at "go"
      refine ⟨(by show 2 ≤ sizeLine; decide), fun p8 hp8 => ?_⟩
      have e7 := Same.new hp7 (.lst (kvs.map fun kv => kV kv.1))
      have e8 := Same.new hp8 (.tup [.str "told", .ref p7])
      refine q _ _ (g6.trans (e7.trans e8)) ?_
      unfold DueV
      rw [hf]
      refine ⟨p8, p7, rfl, upd_same, ?_⟩
      rw [← qe_keys hp3]
      exact e8 _ _ upd_same
end
end K3
end L24_part
section L25_part
set_option Elab.async false
set_option linter.all false
set_option maxRecDepth 100000
set_option maxHeartbeats 1000000
set_option pp.deepTerms.threshold 5
open PySem PySem.Spec PyProof.Rows L2
/-- go on as far as nothing is open -/
local macro_rules | `(tactic| walk_at "go") => `(tactic| repeat (first
  | with_reducible refine w_seq ?_ | with_reducible refine w_next ?_ | with_reducible refine w_set ?_ | with_reducible refine w_drop ?_ | with_reducible refine w_ret ?_ | with_reducible refine w_retN ?_
  | with_reducible refine w_if ?_ | ((with_reducible refine' w_var ?hv ?_); (case hv => exact rfl)) | with_reducible refine w_c ?_ | with_reducible refine w_nil ?_ | with_reducible refine w_cons ?_ | with_reducible refine w_op ?_ | with_reducible refine w_un ?_
  | with_reducible refine w_test ?_ | with_reducible refine w_tB ?_ | with_reducible refine w_not ?_ | with_reducible refine w_and ?_ | with_reducible refine w_or ?_ | with_reducible refine w_bl ?_
  | with_reducible refine w_andV ?_ | with_reducible refine w_orV ?_ | with_reducible refine w_notV ?_ | with_reducible refine w_ifE ?_ | with_reducible refine w_chain ?_ | with_reducible refine w_i0 ?_
  | with_reducible refine w_call ?_ | with_reducible refine w_callS ?_ | with_reducible refine w_cB ?_ | with_reducible refine w_tup ?_ | with_reducible refine w_lst ?_ | with_reducible refine w_fldV ?_
  | with_reducible refine w_neF ?_ | with_reducible refine w_neT ?_ | with_reducible refine w_notN ?_ | with_reducible refine w_isN ?_ | with_reducible refine w_gname ?_ | with_reducible refine w_gsub ?_ | with_reducible refine w_asg ?_ | with_reducible refine w_sl ?_ | with_reducible refine w_noP ?_ | with_reducible refine w_int1 ?_ | with_reducible refine w_part ?_ | with_reducible refine w_yes ?_ | with_reducible refine w_nT ?_ | with_reducible refine w_nF ?_ | with_reducible refine w_iteT ?_ | with_reducible refine w_iteF ?_))
namespace K3
/-! ### tuples of the same atoms, and of lists of the same atoms -/
def ItEq (K : PySem.W.Frag) (H : Hp) (x y : V) : Prop := (x = y ∧ flatB x = true) ∨ ∃ a b zs, x = .ref a ∧ y = .ref b ∧ SqL K H a zs ∧ SqL K H b zs ∧ ∀ z ∈ zs, flatB z = true
theorem every_true (n : Nat) : ((List.range n).all fun _ => true) = true := by simp
theorem vals_at {xs : List V} {us : List Value} (r : Vals xs us) {j : Nat} (h : j < us.length) : ∃ x, xs[j]? = some x ∧ RelV x us[j] := by
  obtain ⟨x, hx⟩ : ∃ x, xs[j]? = some x := ⟨xs[j]'(by rw [r.length]; exact h), List.getElem?_eq_getElem _⟩
  obtain ⟨u, hu, ru⟩ := r.get hx
  rw [List.getElem?_eq_getElem h] at hu
  cases hu
  exact ⟨x, hx, ru⟩
section
variable {X : Cx} {pins : List (Addr × Obj)} {σ : L2.St} {H : Hp} {s : Shared}
theorem it_at {A : Around} (I : Inv X pins σ H s) (hu : A.units < cLine) {x y : V} {u v : Value} (h : ItEq X.K H x y) (rx : RelV x u) (ry : RelV y v) : SeqAt.EqAt A s u v true := by
  rcases h with ⟨rfl, f⟩ | ⟨a, b, zs, rfl, rfl, ha, hb, f⟩
  · exact eqAt_same rx ry f
  · cases rx
    cases ry
    by_cases c : a = b
    · subst c
      exact SeqAt.EqAt.same _
    · obtain ⟨is, r1, p1, _⟩ := I.list ha
      obtain ⟨js, r2, p2, _⟩ := I.list hb
      have hs : is.toArray.size = js.toArray.size := by rw [List.size_toArray, List.size_toArray, ← r1.length, ← r2.length]
      have k := SeqAt.RcAt.lists (A := A) (e := fun _ => true) p1.isList p2.isList hs hu fun j h1 h2 => by
        have h1' : j < is.length := by simpa using h1
        have h2' : j < js.length := by simpa using h2
        obtain ⟨z, hz, rz⟩ := vals_at r1 h1'
        obtain ⟨z2, hz2, rz2⟩ := vals_at r2 h2'
        rw [hz] at hz2
        cases hz2
        exact eqAt_same (by simpa using rz) (by simpa using rz2) (f z (List.mem_of_getElem? hz))
      rw [every_true] at k
      exact SeqAt.EqAt.of_refs c k
end
def rNeTT (K : PySem.W.Frag) : R2 := fun x y H Q => ∃ a b xs ys, x = .ref a ∧ y = .ref b ∧ SqT K H a xs ∧ SqT K H b ys ∧ Paired (ItEq K H) xs ys ∧ Q (.bl false) H
def rEqTT (K : PySem.W.Frag) : R2 := fun x y H Q => ∃ a b xs ys, x = .ref a ∧ y = .ref b ∧ SqT K H a xs ∧ SqT K H b ys ∧ Paired (ItEq K H) xs ys ∧ Q (.bl true) H
section
variable {X : Cx}
theorem op_neTT (hu : X.A.units + 1 < cLine) : OpR X (compareOp .NotEq) (rNeTT X.K) := by
  intro pins s σ H x y v u Q I rx ry ⟨a, b, xs, ys, ex, ey, ha, hb, hp, q⟩
  subst ex ey
  cases rx
  cases ry
  obtain ⟨is, r1, p1, _⟩ := I.tuple ha
  obtain ⟨js, r2, p2, _⟩ := I.tuple hb
  have hs : is.toArray.size = js.toArray.size := by rw [List.size_toArray, List.size_toArray, ← r1.length, ← r2.length, hp.length]
  refine SeqAt.RcNeAt.tuples (e := fun _ => true) p1 p2 (Nat.lt_of_succ_lt hu) (fun j h1 h2 => ?_) X.prog X.w X.xe _ ?_
  · have h1' : j < is.length := by simpa using h1
    have h2' : j < js.length := by simpa using h2
    obtain ⟨z, hz, rz⟩ := vals_at r1 h1'
    obtain ⟨z2, hz2, rz2⟩ := vals_at r2 h2'
    obtain ⟨z3, hz3, e⟩ := K3.Paired.get hp hz
    rw [hz2] at hz3
    cases hz3
    exact it_at I (by show X.A.units + 1 < cLine; exact hu) e (by simpa using rz) (by simpa using rz2)
  · rw [every_true, hs, beq_self_eq_true]
    exact ⟨.bl false, H, I, rfl, q⟩
theorem op_eqTT (hu : X.A.units + 1 < cLine) : OpR X (compareOp .Eq) (rEqTT X.K) := by
  intro pins s σ H x y v u Q I rx ry ⟨a, b, xs, ys, ex, ey, ha, hb, hp, q⟩
  subst ex ey
  cases rx
  cases ry
  obtain ⟨is, r1, p1, _⟩ := I.tuple ha
  obtain ⟨js, r2, p2, _⟩ := I.tuple hb
  have hs : is.toArray.size = js.toArray.size := by rw [List.size_toArray, List.size_toArray, ← r1.length, ← r2.length, hp.length]
  refine SeqAt.RcAt.tuples (e := fun _ => true) p1 p2 (Nat.lt_of_succ_lt hu) (fun j h1 h2 => ?_) X.prog X.w X.xe _ ?_
  · have h1' : j < is.length := by simpa using h1
    have h2' : j < js.length := by simpa using h2
    obtain ⟨z, hz, rz⟩ := vals_at r1 h1'
    obtain ⟨z2, hz2, rz2⟩ := vals_at r2 h2'
    obtain ⟨z3, hz3, e⟩ := K3.Paired.get hp hz
    rw [hz2] at hz3
    cases hz3
    exact it_at I (by show X.A.units + 1 < cLine; exact hu) e (by simpa using rz) (by simpa using rz2)
  · rw [every_true, hs, beq_self_eq_true]
    exact ⟨.bl true, H, I, rfl, q⟩
end
theorem it_refl {K : PySem.W.Frag} {H : Hp} : ∀ xs : List V, (∀ x ∈ xs, flatB x = true) → Paired (ItEq K H) xs xs
  | [], _ => .nil
  | x :: xs, h => .cons (.inl ⟨rfl, h x (List.mem_cons_self ..)⟩) (it_refl xs fun y hy => h y (List.mem_cons_of_mem _ hy))
theorem due_two {K : PySem.W.Frag} {H : Hp} {v u : V} {rs : List Rw} (h : DueV H v rs) (k : DueV H u rs) : ∃ a b xs ys, v = .ref a ∧ u = .ref b ∧ SqT K H a xs ∧ SqT K H b ys ∧ Paired (ItEq K H) xs ys := by
  unfold DueV at h k
  cases hf : formF rs with
  | some f =>
    rw [hf] at h k
    obtain ⟨a, rfl, ha⟩ := h
    obtain ⟨b, rfl, hb⟩ := k
    exact ⟨a, b, fV f, fV f, rfl, rfl, SqT.of ha, SqT.of hb, it_refl _ (by cases f <;> (intro x hx; unfold fV at hx; simp only [List.mem_cons, List.not_mem_nil, or_false] at hx; rcases hx with rfl | hx <;> first | rfl | (rcases hx with rfl | rfl <;> rfl) | (rw [hx] <;> rfl)))⟩
  | none =>
    rw [hf] at h k
    obtain ⟨a, c, rfl, ha, hc⟩ := h
    obtain ⟨b, d, rfl, hb, hd⟩ := k
    refine ⟨a, b, _, _, rfl, rfl, SqT.of ha, SqT.of hb, .cons (.inl ⟨rfl, rfl⟩) (.cons (.inr ⟨c, d, _, rfl, rfl, SqL.of hc, SqL.of hd, fun z hz => ?_⟩) .nil)⟩
    obtain ⟨r, _, rfl⟩ := List.mem_map.mp hz
    rfl
end K3
end L25_part
section L26_part
set_option Elab.async false
set_option linter.all false
set_option maxRecDepth 100000
set_option maxHeartbeats 1000000
set_option pp.deepTerms.threshold 5
open PySem PySem.Spec PyProof.Rows L2
/-- go on as far as nothing is open -/
local macro_rules | `(tactic| walk_at "go") => `(tactic| repeat (first
  | with_reducible refine w_seq ?_ | with_reducible refine w_next ?_ | with_reducible refine w_set ?_ | with_reducible refine w_drop ?_ | with_reducible refine w_ret ?_ | with_reducible refine w_retN ?_
  | with_reducible refine w_if ?_ | ((with_reducible refine' w_var ?hv ?_); (case hv => exact rfl)) | with_reducible refine w_c ?_ | with_reducible refine w_nil ?_ | with_reducible refine w_cons ?_ | with_reducible refine w_op ?_ | with_reducible refine w_un ?_
  | with_reducible refine w_test ?_ | with_reducible refine w_tB ?_ | with_reducible refine w_not ?_ | with_reducible refine w_and ?_ | with_reducible refine w_or ?_ | with_reducible refine w_bl ?_
  | with_reducible refine w_andV ?_ | with_reducible refine w_orV ?_ | with_reducible refine w_notV ?_ | with_reducible refine w_ifE ?_ | with_reducible refine w_chain ?_ | with_reducible refine w_i0 ?_
  | with_reducible refine w_call ?_ | with_reducible refine w_callS ?_ | with_reducible refine w_cB ?_ | with_reducible refine w_tup ?_ | with_reducible refine w_lst ?_ | with_reducible refine w_fldV ?_
  | with_reducible refine w_neF ?_ | with_reducible refine w_neT ?_ | with_reducible refine w_notN ?_ | with_reducible refine w_isN ?_ | with_reducible refine w_gname ?_ | with_reducible refine w_gsub ?_ | with_reducible refine w_asg ?_ | with_reducible refine w_sl ?_ | with_reducible refine w_noP ?_ | with_reducible refine w_int1 ?_ | with_reducible refine w_part ?_ | with_reducible refine w_yes ?_ | with_reducible refine w_nT ?_ | with_reducible refine w_nF ?_ | with_reducible refine w_iteT ?_ | with_reducible refine w_iteF ?_))
namespace K3
/-! ### two lists put together, whatever they are -/
def rCatL (K : PySem.W.Frag) : R2 := fun x y H Q => ∃ a b xs ys, x = .ref a ∧ y = .ref b ∧ SqL K H a xs ∧ SqL K H b ys ∧ xs.length + ys.length ≤ sizeLine ∧ ∀ p, H p = none → Q (.ref p) (upd H p (.lst (xs ++ ys)))
theorem op_catL {X : Cx} : OpR X (binaryOp .Add) (rCatL X.K) := by
  intro pins s σ H x y v u Q I rx ry ⟨a, b, xs, ys, ex, ey, ha, hb, hz, q⟩
  subst ex ey
  cases rx
  cases ry
  obtain ⟨is, r1, ⟨⟨c1, d1, t1, sl1⟩, n1, g1, hc1, _, hd1⟩, _⟩ := I.list ha
  obtain ⟨js, r2, ⟨⟨c2, d2, t2, sl2⟩, n2, g2, hc2, _, hd2⟩, _⟩ := I.list hb
  simp only at hc1 hd1 hc2 hd2
  subst hc1 hd1 hc2 hd2
  have hs : is.toArray.size + js.toArray.size ≤ sizeLine := by rw [List.size_toArray, List.size_toArray, ← r1.length, ← r2.length]; exact hz
  refine concat_meets ⟨_, g1, rfl⟩ ⟨_, g2, rfl⟩ noFill_list_add seq_list_add PySem.F.slot_list_add PySem.F.entry_list_add (PySem.F.args_list_add_2 _ _) (list_addW a b is.toArray js.toArray n1 n2 d1 d2 sl1 sl2 hs) ⟨g1, g2, ?_⟩
  rw [show is.toArray ++ js.toArray = (is ++ js).toArray by simp]
  exact ⟨.ref _, _, I.lnew (t' := s.toks) (r1.append r2) (by rw [List.length_append]; exact hz), rfl, q _ I.fresh⟩
end K3
end L26_part
section L27_part
set_option Elab.async false
set_option linter.all false
set_option maxRecDepth 100000
set_option maxHeartbeats 1000000
set_option pp.deepTerms.threshold 5
open PySem PySem.Spec PyProof.Rows L2
/-- go on as far as nothing is open -/
local macro_rules | `(tactic| walk_at "go") => `(tactic| repeat (first
  | with_reducible refine w_seq ?_ | with_reducible refine w_next ?_ | with_reducible refine w_set ?_ | with_reducible refine w_drop ?_ | with_reducible refine w_ret ?_ | with_reducible refine w_retN ?_
  | with_reducible refine w_if ?_ | ((with_reducible refine' w_var ?hv ?_); (case hv => exact rfl)) | with_reducible refine w_c ?_ | with_reducible refine w_nil ?_ | with_reducible refine w_cons ?_ | with_reducible refine w_op ?_ | with_reducible refine w_un ?_
  | with_reducible refine w_test ?_ | with_reducible refine w_tB ?_ | with_reducible refine w_not ?_ | with_reducible refine w_and ?_ | with_reducible refine w_or ?_ | with_reducible refine w_bl ?_
  | with_reducible refine w_andV ?_ | with_reducible refine w_orV ?_ | with_reducible refine w_notV ?_ | with_reducible refine w_ifE ?_ | with_reducible refine w_chain ?_ | with_reducible refine w_i0 ?_
  | with_reducible refine w_call ?_ | with_reducible refine w_callS ?_ | with_reducible refine w_cB ?_ | with_reducible refine w_tup ?_ | with_reducible refine w_lst ?_ | with_reducible refine w_fldV ?_
  | with_reducible refine w_neF ?_ | with_reducible refine w_neT ?_ | with_reducible refine w_notN ?_ | with_reducible refine w_isN ?_ | with_reducible refine w_gname ?_ | with_reducible refine w_gsub ?_ | with_reducible refine w_asg ?_ | with_reducible refine w_sl ?_ | with_reducible refine w_noP ?_ | with_reducible refine w_int1 ?_ | with_reducible refine w_part ?_ | with_reducible refine w_yes ?_ | with_reducible refine w_nT ?_ | with_reducible refine w_nF ?_ | with_reducible refine w_iteT ?_ | with_reducible refine w_iteF ?_))
namespace K3
def spLaw (K : PySem.W.Frag) : Sp := fun vs H Q _ => ∃ (a : Addr) (ns : List Int), vs = [.ref a] ∧ SqL K H a (ns.map V.int) ∧ ns.length ≤ 63 ∧ ∀ H', Q (.bl true) H'
/-- the rows at p, less the source of draws -/
def RP (H : Hp) (s p : Addr) (rs : List Rw) (b c d : Nat) : Prop := ∃ xs, less H [s] p = some (.lst xs) ∧ DRs (less H [s]) xs rs ∧ RBs b rs ∧ Rws.cnt rs ≤ c ∧ Rws.dep rs ≤ d
theorem RP.same {H H' : Hp} {s p : Addr} {rs : List Rw} {b c d : Nat} (h : RP H s p rs b c d) (e : Same H H') : RP H' s p rs b c d := by
  obtain ⟨xs, h1, h2, h3, h4, h5⟩ := h
  have k := (BM.of (M := [s]) e).less
  exact ⟨xs, k _ _ h1, h2.same k, h3, h4, h5⟩
theorem in_src {H : Hp} {s : Addr} (h : Src H s) : In [s] H := fun m hm => by
  obtain ⟨a, b, c, h⟩ := h
  rw [List.mem_singleton.mp hm]
  exact ⟨_, h⟩
theorem rows_join {K : PySem.W.Frag} {b : Bool} {σ : L2.St} {H : Hp} {s : Addr} {Qr : VK} (hσ : σ[2]? = some (some (V.ref s))) (hs : Src H s) (k : ∀ p H' rs, BM [s] H H' → Src H' s → RP H' s p rs 6 154 3 → Qr (.ref p) H') :
    if b = true then tCall (spBig K) [] E0 (tCons (tVar 2) tNil) σ H Qr else tCall (spLForm K) [] E0 (tCons (tVar 2) (tCons (tC (.int 7)) tNil)) σ H Qr := by
  cases b with
  | true =>
    refine iteT ?_
    refine w_call ?_
    refine w_cons ?_
    refine w_var hσ ?_
    exact ⟨[s], s, rfl, in_src hs, .head _, hs, fun p H' rs xs e1 s1 h1 h2 h3 h4 h5 => k p H' rs e1 s1 ⟨xs, h1, h2, h3, by omega, by omega⟩⟩
  | false =>
    refine iteF ?_
    refine w_call ?_
    refine w_cons ?_
    refine w_var hσ ?_
    exact ⟨[s], s, rfl, in_src hs, .head _, hs, fun p H' rs xs hp e1 s1 h1 h2 h3 h4 h5 => k p H' rs e1 s1 ⟨xs, less_of h1 ((in_src hs).new hp), h2, h3, h4, h5⟩⟩
/-- how many rows at most, behind so many spoilings -/
def cc : Nat → Nat
  | 0 => 154 | 1 => 309 | _ => 619
theorem cc_le : ∀ m, cc m ≤ 619
  | 0 => by decide
  | 1 => by decide
  | _ + 2 => Nat.le_refl _
theorem cc_two {j : Nat} (h : j < 2) : cc j ≤ 309 := match j, h with
  | 0, _ => by decide
  | 1, _ => by decide
theorem cc_up {j : Nat} (h : j < 2) : cc j ≤ cc (j + 1) := match j, h with
  | 0, _ => by decide
  | 1, _ => by decide
theorem cc_next {j c : Nat} (h : j < 2) (k : c ≤ cc j) : 2 * c + 1 ≤ cc (j + 1) := match j, h with
  | 0, _ => by
    have : c ≤ 154 := k
    show 2 * c + 1 ≤ 309
    omega
  | 1, _ => by
    have : c ≤ 309 := k
    show 2 * c + 1 ≤ 619
    omega
mutual
theorem Rw.all_RB {b : Nat} : ∀ r : Rw, RB b r → ∀ x ∈ r.all, RB b x
  | .sect rs w, h, x, hx => by
    rw [Rw.all] at hx
    rcases List.mem_cons.mp hx with rfl | hx
    · exact h
    · rw [RB] at h
      exact Rws.all_RB rs h.1 x hx
  | .rounds n rs w, h, x, hx => by
    rw [Rw.all] at hx
    rcases List.mem_cons.mp hx with rfl | hx
    · exact h
    · rw [RB] at h
      exact Rws.all_RB rs h.2.1 x hx
  | .one n os w, h, x, hx => by
    unfold Rw.all at hx
    rw [List.mem_singleton.mp hx]
    exact h
  | .some n os w, h, x, hx => by
    unfold Rw.all at hx
    rw [List.mem_singleton.mp hx]
    exact h
  | .number n lo hi w, h, x, hx => by
    unfold Rw.all at hx
    rw [List.mem_singleton.mp hx]
    exact h
  | .check n m w, h, x, hx => by
    unfold Rw.all at hx
    rw [List.mem_singleton.mp hx]
    exact h
theorem Rws.all_RB {b : Nat} : ∀ rs : List Rw, RBs b rs → ∀ x ∈ Rws.all rs, RB b x
  | [], h, x, hx => by
    rw [Rws.all] at hx
    cases hx
  | r :: rs, h, x, hx => by
    rw [Rws.all] at hx
    rw [RBs] at h
    rcases List.mem_append.mp hx with hx | hx
    · exact Rw.all_RB r h.1 x hx
    · exact Rws.all_RB rs h.2 x hx
end
theorem RB.nlen {b : Nat} {r : Rw} (h : RB b r) (hn : r.isN = true) : r.name.length ≤ 100 := by
  cases r with
  | one _ _ _ => unfold RB at h; exact h.1
  | some _ _ _ => unfold RB at h; exact h.1
  | number _ _ _ _ => unfold RB at h; exact h.1
  | check _ _ _ => unfold RB at h; exact h.1
  | sect _ _ => cases hn
  | rounds _ _ _ => cases hn
section
variable {P : Program} {w : World} {K : PySem.W.Frag} {mg : Str → Option Value} {base : Heap}
theorem sc_law : FnScope ["_law_script", "_law_cell", "_law_source_here", "_law_way", "_law_rows_here", "_law_turn", "_law_every", "_law_row"] ["_law_script"] (defScope s_law) := ⟨rfl, rfl, rfl, by decide +kernel, rfl, by decide +kernel, by decide +kernel⟩
theorem ok_law (T : Tx K mg) {fd : FuncData} (F : FunD K "law" "law" (defArgs s_law) (defBody s_law) (defScope s_law) [] [] (He.ga K "law") fd) : FnOk P w K mg base L2.CX0 21 (He.ga K "law") fd ["_law_script"] (spLaw K) := by
  refine F.ok (k := 20) sc_law (fun vs H Q E h => ?_) (fun cdv A outer s' H vs Q E hr h => ?_)
  · obtain ⟨a, ns, rfl, _⟩ := h
    rfl
  obtain ⟨a, ns, rfl, hns, h63, q⟩ := h
  refine ⟨_, pss_cons (ps_for (passes_of rfl) rfl (pi_list (pe_slice sl_list (pe_op op_catL (pv 0) (pe_lst (pa_cons pe_int pa_nil))) po_none (po_some pe_int))) (pg_name (i := 1) sc_law.nd rfl (Or.inl rfl)) (pss_cons (ps_set (i := 2) sc_law.nd rfl (Or.inl rfl) (pe_f (ok_source T) (hr.mono (by decide)) T.g__law_source (pa_cons (pv 1) pa_nil)))
      (pss_cons (ps_set (i := 3) sc_law.nd rfl (Or.inl rfl) (pe_f (ok_take T) (hr.mono (by decide)) T.g__law_take (pa_cons (pv 2) (pa_cons pe_int pa_nil))))
      (pss_cons (ps_set (i := 4) sc_law.nd rfl (Or.inl rfl) (pe_ifExp (pt_cmpR op_eq (pv 3) pe_int (nomark _)) (pe_f (ok_big T) (hr.mono (by decide)) T.g__law_big (pa_cons (pv 2) pa_nil)) (pe_f (ok_form T) (hr.mono (by decide)) T.g__law_form (pa_cons (pv 2) (pa_cons pe_int pa_nil)))))
      (pss_cons (ps_for (passes_of rfl) rfl (pi_range1 rfl T.z_range (pa_cons (pe_op op_mod (pv 3) pe_int) pa_nil)) (pg_name (i := 5) sc_law.nd rfl (Or.inl rfl)) (pss_cons (by exact ps_setLc (i := 6) (own := [("_law_row", 7)]) (g := gName 7) (tt := (tTest (tOp (rIn K true) (tOp (rIxT K) (tVar 7) (tC (.int 0))) (tLst (tCons (tC (.str "section")) (tCons (tC (.str "rounds")) tNil)))))) (te := (tOp (rIxT K) (tVar 7) (tC (.int 1)))) (by rfl) sc_law.nd rfl rfl (by rfl) (pi_list (pe_f (ok_all T 6) (hr.mono (by decide)) T.g__law_all (pa_cons (pv 4) pa_nil))) (blkOk_by (own := [("_law_row", 7)]) (N := ["_law_script", "_law_cell", "_law_source_here", "_law_way", "_law_rows_here", "_law_turn", "_law_every", "_law_row"]) (sc := defScope s_law) (by decide +kernel)) (fun _ _ _ _ _ => pg_name (i := 7) sc_law.nd rfl (Or.inl rfl)) (fun _ _ _ _ _ => pts_one (pt_cmpR op_notIn_seq (pe_ix ix_tup (pv 7) pe_int (fun _ _ => rfl)) (pe_lst (pa_cons pe_str (pa_cons pe_str pa_nil))) (by rfl))) (fun _ _ _ _ _ => (pe_ix ix_tup (pv 7) pe_int (fun _ _ => rfl))))
      (pss_one (ps_if (pw_and (pt_cmpR (op_neE hr.units0) (pv 4) (pe_lst pa_nil) (nomark _)) (pw_and1 (pt_cmpR (op_neE hr.units0) (pv 6) (pe_lst pa_nil) (nomark _)))).pt (pss_one (ps_set (i := 4) sc_law.nd rfl (Or.inl rfl) (pe_f (ok_sp T 5) (hr.mono (by decide)) T.g__law_spoilt (pa_cons (pv 2) (pa_cons (pv 4) (pa_cons (pv 6) pa_nil)))))) pss_nil))))
      (pss_one (ps_if (pw_or (pt_cmpR (op_neTT (hu_of hr)) (pe_f (ok_said T 6) (hr.mono (by decide)) T.g__law_said (pa_cons (pv 4) pa_nil)) (pe_f (ok_due T 4 6) (hr.mono (by decide)) T.g__law_due (pa_cons (pv 4) pa_nil)) (nomark _)) (pw_or1 (pt_cmpR (op_neTT (hu_of hr)) (pe_f (ok_said T 6) (hr.mono (by decide)) T.g__law_said (pa_cons (pv 4) pa_nil)) (pe_f (ok_due T 4 6) (hr.mono (by decide)) T.g__law_due (pa_cons (pv 4) pa_nil)) (nomark _)))).pt (pss_one (ps_ret pe_bl)) pss_nil)))))))
      (pss_one (ps_ret (pe_cmpR (op_eqTT (hu_of hr)) (pe_f (ok_said T 6) (hr.mono (by decide)) T.g__law_said (pa_cons (pe_lst pa_nil) pa_nil)) (pe_tup (pa_cons pe_str (pa_cons pe_str (pa_cons pe_int pa_nil)))) rfl))), ?_⟩
  walk_at "go"
  show tSl (rSlL K) (tOp (rCatL K) (tVar 0) (tLst (tCons (tC (.int 0)) tNil))) tNoPart (tPart (tC (.int 6))) _ _ _
  walk_at "go"
  refine ⟨(by show 1 ≤ sizeLine; decide), fun p1 hp1 => ?_⟩
  have e1 := Same.new hp1 (.lst [V.int 0])
  refine ⟨a, p1, _, _, rfl, rfl, e1.seq hns, SqL.of upd_same, Nat.le_trans (show (ns.map V.int).length + 1 ≤ 64 by rw [List.length_map]; omega) (by decide), fun p2 hp2 => ?_⟩
  have e2 := Same.new hp2 (.lst (ns.map V.int ++ [V.int 0]))
  walk_at "go"
  refine ⟨p2, _, rfl, SqL.of upd_same, fun p3 hp3 => ?_⟩
  have e3 := Same.new hp3 (.lst (cutV (ns.map V.int ++ [V.int 0]) none (some 6)))
  have hp3' : (upd (upd (upd H p1 (.lst [V.int 0])) p2 (.lst (ns.map V.int ++ [V.int 0]))) p3 (.lst (cutV (ns.map V.int ++ [V.int 0]) none (some 6)))) p3 = some (.lst (cutV (ns.map V.int ++ [V.int 0]) none (some 6))) := upd_same
  have cellI : ∀ x ∈ cutV (ns.map V.int ++ [V.int 0]) none (some 6), ∃ c, x = V.int c := fun x hx => by
    rw [show (some (6 : Int)) = some ((6 : Nat) : Int) from rfl, cut_to] at hx
    rcases List.mem_append.mp (List.mem_of_mem_take hx) with hx | hx
    · obtain ⟨c, _, rfl⟩ := List.mem_map.mp hx
      exact ⟨c, rfl⟩
    · exact ⟨0, List.mem_singleton.mp hx⟩
  generalize upd (upd (upd H p1 (.lst [V.int 0])) p2 (.lst (ns.map V.int ++ [V.int 0]))) p3 (.lst (cutV (ns.map V.int ++ [V.int 0]) none (some 6))) = H0 at hp3' ⊢
  generalize cutV (ns.map V.int ++ [V.int 0]) none (some 6) = cells at hp3' cellI ⊢
  clear e1 e2 e3 hns
  refine ⟨p3, rfl, ⟨_, SqL.of hp3'⟩, ?_⟩
  refine for_list (K := K) (a := p3) (xs := cells) (fun (i : Nat) σ H' => ∃ o1 o2 o3 o4 o5 o6 o7 : Option V, σ = [some (.ref a), o1, o2, o3, o4, o5, o6, o7] ∧ Same H0 H')
    ⟨none, none, none, none, none, none, none, rfl, Same.refl _⟩ (fun i σ H' _ ⟨_, _, _, _, _, _, _, _, e⟩ => SqL.of (e _ _ hp3')) ?_ ?_
  · rintro i x σ H1 hxi ⟨o1, o2, o3, o4, o5, o6, o7, rfl, e1⟩
    obtain ⟨c, rfl⟩ := cellI x (List.mem_of_getElem? hxi)
    walk_at "go"
    refine ⟨c, rfl, fun s H2 hs1 e2 hs2 => ?_⟩
    have hs0 : H0 s = none := e1.free hs1
    have e02 := e1.trans e2
    walk_at "go"
    refine ⟨s, 6, rfl, hs2, by decide, by decide, fun r H3 r0 r1 b3 s3 => ?_⟩
    walk_at "go"
    refine ⟨rfl, ?_⟩
    walk_at "go"
    refine rows_join rfl s3 fun p H4 rs b4 s4 hp4 => ?_
    have b24 := b3.trans b4
    walk_at "go"
    refine ⟨_, rfl, r, 3, rfl, rfl, (show (0 : Int) < 3 by decide), r % 3, rfl, by omega, by omega, ?_⟩
    obtain ⟨m, hm, hm2⟩ : ∃ m : Nat, (r % 3).toNat = m ∧ m ≤ 2 := ⟨_, rfl, by omega⟩
    rw [hm]
    refine for_range (lo := 0) (n := m) (fun (j : Nat) σ H' => ∃ (p' : Addr) (rs' : List Rw) (o5 o6 o7 : Option V), σ = [some (.ref a), some (.int c), some (.ref s), some (.int r), some (.ref p'), o5, o6, o7] ∧ BM [s] H2 H' ∧ Src H' s ∧ RP H' s p' rs' (6 + 6 * j) (cc j) (3 + j))
      ⟨p, rs, o5, o6, o7, rfl, b24, s4, hp4⟩ ?_ ?_
    · rintro j σ H5 hj ⟨p', rs', o5, o6, o7, rfl, b5, s5, hp5⟩
      obtain ⟨xs, hl5, hd5, hB5, hc5, hde5⟩ := hp5
      have hj2 : j < 2 := by omega
      have hcj : Rws.cnt rs' ≤ 309 := Nat.le_trans hc5 (cc_two hj2)
      walk_at "go"
      refine ⟨_, rfl, p', xs, rs', less H5 [s], rfl, less_same, hl5, hd5, by omega, by omega, fun p8 H6 ys hp8 e6 hp86 hy => ?_⟩
      refine ⟨p8, rfl, ⟨_, SqL.of hp86⟩, fun D hD => ?_⟩
      have hyl : ys.length ≤ 309 := by rw [hy.len, Rws.all_len]; exact hcj
      refine lc_list (K := K) (a := p8) (xs := ys) (fun (i : Nat) H' => ∃ es : List Str, Same H6 H' ∧ H' D = some (.lst (es.map V.str)) ∧ (∀ e ∈ es, e.length ≤ 100) ∧ es.length ≤ i) ⟨[], Same.new hD _, upd_same, fun c hc => (by cases hc), Nat.le_refl _⟩ (fun i H' _ ⟨es, e, _⟩ => SqL.of (e _ _ hp86)) ?_ ?_
      · rintro i2 x2 H7 hx2 ⟨es, e7, hD7, he7, hl7⟩
        have hi2 : i2 < ys.length := (List.getElem?_eq_some_iff.mp hx2).1
        obtain ⟨rr, hrr, hdr⟩ := hy.get hx2
        have hB2 := Rws.all_RB rs' hB5 rr (one_of hrr)
        obtain ⟨t, kd, rest, wv, rfl, ht, _, _, _, hkind⟩ := dr_info hdr none 0
        have ht7 := e7 _ _ (e6 _ _ (less_at ht).1)
        walk_at "go"
        refine ⟨rfl, ?_⟩
        walk_at "go"
        refine w_ixT (SqT.of ht7) (atI_nat (j := 0) rfl) ?_
        walk_at "go"
        refine ⟨(by show 2 ≤ sizeLine; decide), fun p9 hp9 => ?_⟩
        refine ⟨p9, _, rfl, .inl (SqL.of upd_same), rfl, rfl, ?_⟩
        have e9 := Same.new hp9 (.lst [V.str "section", .str "rounds"])
        walk_at "go"
        generalize upd H7 p9 _ = H9 at e9 ⊢
        have hD9 := e9 _ _ hD7
        rcases hkind with ⟨hn, hin, _, hnm, _⟩ | ⟨_, _, _, _, rfl, rfl, _⟩ | ⟨_, _, _, _, _, rfl, rfl, _⟩
        · rw [show inV (.str kd) [V.str "section", .str "rounds"] = false from hin]
          walk_at "go"
          refine w_ixT (SqT.of (e9 _ _ ht7)) hnm ?_
          refine ⟨es.map V.str, hD9, Nat.lt_of_le_of_lt (show (es.map V.str).length ≤ 1000 by rw [List.length_map]; omega) (by decide), es ++ [rr.name], (e7.trans e9).mut hD, by rw [List.map_append]; exact upd_same, fun e he => ?_, by rw [List.length_append]; exact Nat.succ_le_succ hl7⟩
          rcases List.mem_append.mp he with he | he
          · exact he7 e he
          · rw [List.mem_singleton.mp he]
            exact RB.nlen hB2 hn
        · rw [show inV (.str "section") [V.str "section", .str "rounds"] = true by decide +kernel]
          walk_at "go"
          exact ⟨es, e7.trans e9, hD9, he7, by omega⟩
        · rw [show inV (.str "rounds") [V.str "section", .str "rounds"] = true by decide +kernel]
          walk_at "go"
          exact ⟨es, e7.trans e9, hD9, he7, by omega⟩
      · rintro H7 ⟨es, e7, hD7, he7, hl7⟩
        have e57 := e6.trans e7
        have b7 := b5.same e57
        have hp7 : RP H7 s p' rs' (6 + 6 * j) (cc j) (3 + j) := RP.same ⟨xs, hl5, hd5, hB5, hc5, hde5⟩ e57
        have s7 := s5.same e57
        have l7 : H7 p' = some (.lst xs) := e57 _ _ (less_at hl5).1
        have Ds : D ≠ s := fun z => by
          obtain ⟨_, _, _, hs5⟩ := s5
          rw [z, e6 _ _ hs5] at hD
          cases hD
        have more : ∀ H', Same H7 H' → RP H' s p' rs' (6 + 6 * (j + 1)) (cc (j + 1)) (3 + (j + 1)) := fun H' e => by
          obtain ⟨xs2, g1, g2, g3, g4, g5⟩ := hp7.same e
          exact ⟨xs2, g1, g2, RBs.monoR (by omega) g3, Nat.le_trans g4 (cc_up hj2), by omega⟩
        walk_at "go"
        refine ⟨Nat.zero_le _, fun q1 hq1 => ?_⟩
        have e8 := Same.new hq1 (.lst [])
        refine ⟨p', q1, xs, [], rfl, rfl, SqL.of (e8 _ _ l7), SqL.of upd_same, .inr (.inl rfl), ?_⟩
        generalize upd H7 q1 (.lst []) = H8 at e8 ⊢
        walk_at "go"
        by_cases cx : xs = []
        · rw [decide_eq_true ⟨cx, rfl⟩]
          walk_at "go"
          exact ⟨p', rs', _, _, _, rfl, b7.same e8, s7.same e8, more _ e8⟩
        · rw [decide_eq_false (fun z => cx z.1)]
          walk_at "go"
          refine ⟨Nat.zero_le _, fun q2 hq2 => ?_⟩
          have e9 := e8.trans (Same.new hq2 (.lst []))
          refine ⟨D, q2, es.map V.str, [], rfl, rfl, SqL.of (e9 _ _ hD7), SqL.of upd_same, .inr (.inl rfl), ?_⟩
          generalize upd H8 q2 (.lst []) = H9 at e9 ⊢
          walk_at "go"
          by_cases ce : es = []
          · rw [decide_eq_true ⟨by rw [ce]; rfl, rfl⟩]
            walk_at "go"
            exact ⟨p', rs', _, _, _, rfl, b7.same e9, s7.same e9, more _ e9⟩
          · rw [decide_eq_false (fun z => ce (List.map_eq_nil_iff.mp z.1))]
            walk_at "go"
            obtain ⟨xs9, g1, g2, g3, g4, g5⟩ := hp7.same e9
            have hlr := g2.len
            have exs : xs9 = xs := by
              have z := (less_at g1).1
              rw [e9 _ _ l7] at z
              exact (HO.lst.inj (Option.some.inj z)).symm
            refine ⟨[s], s, D, p', es, xs9, rs', 6 + 6 * j, rfl, in_src (s7.same e9), .head _, s7.same e9, ⟨e9 _ _ hD7, Ds, List.length_pos_iff.mpr ce, by omega, he7⟩, g1, g2, g3, by omega, ?_, by omega, by omega, fun p10 H10 rs10 xs10 b10 s10 k1 k2 k3 k4 k5 => ?_⟩
            · intro z
              rw [z] at hlr
              exact cx (by rw [← exs]; exact List.length_eq_zero_iff.mp hlr)
            · walk_at "go"
              exact ⟨p10, rs10, _, _, _, rfl, (b7.same e9).trans b10, s10, xs10, k1, k2, RBs.monoR (by omega) k3, Nat.le_trans k4 (cc_next hj2 g4), by omega⟩
    · rintro σ H5 ⟨p', rs', o5, o6, o7, rfl, b5, s5, hp5⟩
      obtain ⟨xs, hl5, hd5, hB5, hc5, hde5⟩ := hp5
      have hcj : Rws.cnt rs' ≤ 619 := Nat.le_trans hc5 (cc_le m)
      have l5 := (less_at hl5).1
      have d5 : DRs H5 xs rs' := hd5.same less_same
      have B5 : RBs 100 rs' := RBs.monoR (by omega) hB5
      have W5 : ∀ e ∈ Rws.flat rs' none 0, RwB 4 e.1 := Rws.flat_bd rs' none 0 B5
      walk_at "go"
      refine ⟨p', xs, rs', rfl, l5, d5, B5, by omega, by decide, by omega, fun v1 H6 e6 hv1 => ?_⟩
      walk_at "go"
      refine ⟨p', xs, rs', rfl, e6 _ _ l5, d5.same e6, by omega, W5, by omega, fun v2 H7 e7 hv2 => ?_⟩
      obtain ⟨ta, tb, xa, xb, rfl, rfl, ha, hb, hab⟩ := due_two (K := K) (hv1.same e7) hv2
      refine ⟨ta, tb, xa, xb, rfl, rfl, ha, hb, hab, ?_⟩
      have e57 := e6.trans e7
      walk_at "go"
      refine ⟨p', xs, rs', rfl, e57 _ _ l5, d5.same e57, B5, by omega, by decide, by omega, fun v3 H8 e8 hv3 => ?_⟩
      walk_at "go"
      refine ⟨p', xs, rs', rfl, e8 _ _ (e57 _ _ l5), (d5.same e57).same e8, by omega, W5, by omega, fun v4 H9 e9 hv4 => ?_⟩
      obtain ⟨tc, td, xc, xd, rfl, rfl, hc, hd, hcd⟩ := due_two (K := K) (hv3.same e9) hv4
      refine ⟨tc, td, xc, xd, rfl, rfl, hc, hd, hcd, ?_⟩
      walk_at "go"
      refine ⟨_, _, _, _, _, _, _, rfl, BM.news e02 (b5.same (e57.trans (e8.trans e9))) fun z hz => ?_⟩
      rw [List.mem_singleton.mp hz]
      exact hs0
  · rintro σ H1 ⟨o1, o2, o3, o4, o5, o6, o7, rfl, e1⟩
    walk_at "go"
    refine ⟨Nat.zero_le _, fun p4 hp4 => ?_⟩
    walk_at "go"
    refine ⟨p4, [], [], rfl, upd_same, .nil, by unfold RBs; trivial, by unfold Rws.dep; decide, by decide, by unfold Rws.cnt; decide, fun v H5 e5 hv => ?_⟩
    have hf : formF [] = some (.count "rows" 0) := by unfold formF Rws.cnt; rfl
    unfold DueV at hv
    rw [hf] at hv
    obtain ⟨t, rfl, ht⟩ := hv
    walk_at "go"
    refine ⟨(by show 3 ≤ sizeLine; decide), fun p6 hp6 => ?_⟩
    have e6 := Same.new hp6 (.tup [V.str "count", .str "rows", .int 0])
    refine ⟨t, p6, _, _, rfl, rfl, SqT.of (e6 _ _ ht), SqT.of upd_same, it_refl [V.str "count", .str "rows", .int 0] (by intro x hx; simp only [List.mem_cons, List.not_mem_nil, or_false] at hx; rcases hx with rfl | rfl | rfl <;> rfl), ?_⟩
    exact q _
end
end K3
end L27_part
section M1_part
set_option Elab.async false
set_option linter.all false
set_option maxRecDepth 100000
set_option maxHeartbeats 0
namespace K3
open PySem PySem.Spec PyProof.Rows L2
theorem facts {P : Program} {w : World} {K : PySem.W.Frag} {h : Heap} {mg : Str → Option Value} {f : Addr} (X : K.In h) (G : h.Ns mainGlobals mg) (hfa : mg ("law" : Str) = some (.ref f)) (c : He.SaysD D.fa D.fn K) (e : ex K = true) :
    ∃ fd : FuncData, (∀ (s : Shared) (v : Value), BindsTo s fd ⟨[v], []⟩ [("_law_script", v)]) ∧ ∀ base : Heap, K.In base → base.Ns mainGlobals mg → FnOk P w K mg base L2.CX0 21 f fd ["_law_script"] (spLaw K) := by
  have T : Tx K mg := ⟨c, e, h, X, G⟩
  obtain ⟨fd, F⟩ := T.f_law
  have e2 := hfa.symm.trans T.g_law
  cases e2
  have b := FunD.bindsA (ps := ["_law_script"]) F fun _ _ _ _ _ _ us hl => match us, hl with | [_], _ => rfl
  exact ⟨fd, fun s v => b s [v] rfl, fun base _ _ => ok_law T F⟩
end K3
open PySem PySem.W PySem.Calls PyProof.Rows
theorem PySem.Challenge.cw_skiphall_k03_what_may_be_spoken_of_holds : PySem.Challenge.rw_skiphall_k03_what_may_be_spoken_of.Holds := by
  w_on; o_law
  refine HandSHeadRun.head_any (r := OpenLaw.row PySem.Challenge.rw_skiphall_k03_what_may_be_spoken_of) (q := K3.qv) (H := K3.hookE 4) (ob := K3.ob 4) (M := 8000) (loose := K3.loose) (d := HandSHeadRun.topDef (OpenLaw.row PySem.Challenge.rw_skiphall_k03_what_may_be_spoken_of).prog 78) (kwd := []) (K3.ob_eq 4)
    (by kernel_rfl) (fun s => by kernel_rfl) K3.run (by kernel_rfl) (by kernel_rfl) (by kernel_rfl) (by rfl) (by first | assumption | decide +kernel) (by decide +kernel) ⟨rfl, rfl, rfl, rfl, rfl, by decide +kernel⟩ ?hw ?hc
  case hw => w_witness2
  case hc =>
    refine L2.walk_ofE (l := PySem.Challenge.rw_skiphall_k03_what_may_be_spoken_of) (n := 63) (k := 21) (x := "_law_script") (CX := L2.CX0) rfl (by decide) (by kernel_rfl) ⟨rfl, by decide, by decide⟩ ?F (fun _ _ _ _ z => z)
    intro w mg fa h Y G hmg0
    obtain ⟨K, KX, c, e⟩ := Y
    have hmg : mg ("law" : PySem.Str) = some (.ref fa) := by
      have e : (HandSHeadRun.topDef (OpenLaw.row PySem.Challenge.rw_skiphall_k03_what_may_be_spoken_of).prog 78).name = ("law" : PySem.Str) := by kernel_rfl
      rw [← e]
      exact hmg0
    obtain ⟨fd, hb, hF⟩ := K3.facts (P := (PySem.Challenge.rw_skiphall_k03_what_may_be_spoken_of).prog) (w := w) KX G hmg c e
    exact ⟨K, fd, K3.spLaw K, KX, hb, fun H a ns hl _ hS => ⟨a, ns, rfl, hS, hl, fun _ => rfl⟩, hF⟩
end M1_part
