import PyProof.Rows.All
import Wide.All
import OpenK.AllK
import Wide.FinOn
import KE.KStateDown
import HandS.Base
import HandS.Call
import HandS.Ends
import HandS.More
import HandS.Words
import HandS.WordsExc
import HandS.Defaults
import HandS.Head0
import HandS.Head1
import HandS.Head2
import HandS.HeadEnd
import HandS.HeadHook1
import HandS.HeadHook2
import HandS.ExcInit
import HandS.ExcField
import HandS.ExcIs
import PySem.Challenge.RW_skiphall_k25_walks_at_the_bounds
import HandS.HeadHook4
import HandS.ForMost
import HandS.ForExc
import HandS.Walk
import HandS.IsInst
import HandS.TupAny
import HandS.MakeKwOnly
import HandS.DictComp
import HandS.SetKeys
import HandS.Flow
import PyProof.StrBlock2
import HandS.Wide
import PyProof.NeKinds
import PyProof.Rows.InDataRows
import HandS.TupSets
import HandS.Evl
import HandS.Style
import KE.KTupSum
import HandS.SetBool
import KE.KDictPairs
import KE.KEqDict
import HandS.ListItems
import PyProof.ZipIter
import KE.KItemsList
import HandS.DictSub
import HandS.OwnEq
import HandS.TryMany
import KE.KExcIs
import HandS.ExcOwn
import PyProof.ExcBaseAll.ValueError
import PyProof.Rows.ReprR
import HandS.Conv
import HandS.Nested
import KE.LtData
import HandS.Text
import KE.DataEq
import HandS.EndTab
section H0_part
set_option Elab.async false
set_option linter.all false
set_option maxRecDepth 100000
set_option maxHeartbeats 0
namespace K3
open PySem PySem.Spec PyProof.Rows L2
def top (i : Nat) : Stmt := PySem.Challenge.pw_skiphall_k25_walks_at_the_bounds.main.body.getD i (.Pass ⟨0, 0, 0, 0⟩)
abbrev s__wall : Stmt := top 0
abbrev s_Is_init : Stmt := inClass (top 3) 0
abbrev s_Is_eq : Stmt := inClass (top 3) 1
abbrev s_Has_init : Stmt := inClass (top 4) 0
abbrev s_Has_eq : Stmt := inClass (top 4) 1
abbrev s_Above_init : Stmt := inClass (top 5) 0
abbrev s_Above_eq : Stmt := inClass (top 5) 1
abbrev s_Below_init : Stmt := inClass (top 6) 0
abbrev s_Below_eq : Stmt := inClass (top 6) 1
abbrev s_Not_init : Stmt := inClass (top 7) 0
abbrev s_Not_eq : Stmt := inClass (top 7) 1
abbrev s_Both_init : Stmt := inClass (top 8) 0
abbrev s_Both_eq : Stmt := inClass (top 8) 1
abbrev s_Either_init : Stmt := inClass (top 9) 0
abbrev s_Either_eq : Stmt := inClass (top 9) 1
abbrev s_simple_ones : Stmt := top 10
abbrev s_HallError_told : Stmt := inClass (top 12) 0
abbrev s_BadCount_init : Stmt := inClass (top 13) 0
abbrev s_BadCount_told : Stmt := inClass (top 13) 1
abbrev s_NoName_init : Stmt := inClass (top 14) 0
abbrev s_NoName_told : Stmt := inClass (top 14) 1
abbrev s_Twice_init : Stmt := inClass (top 15) 0
abbrev s_Twice_told : Stmt := inClass (top 15) 1
abbrev s_NoQuestion_init : Stmt := inClass (top 16) 0
abbrev s_NoQuestion_told : Stmt := inClass (top 16) 1
abbrev s_NoFit_init : Stmt := inClass (top 17) 0
abbrev s_NoFit_told : Stmt := inClass (top 17) 1
abbrev s_is_name : Stmt := top 22
abbrev s_refuse_no_name : Stmt := top 23
abbrev s_refuse_twice : Stmt := top 24
abbrev s_One_init : Stmt := inClass (top 31) 0
abbrev s_One_eq : Stmt := inClass (top 31) 1
abbrev s_Some_init : Stmt := inClass (top 32) 0
abbrev s_Some_eq : Stmt := inClass (top 32) 1
abbrev s_Number_init : Stmt := inClass (top 33) 0
abbrev s_Number_eq : Stmt := inClass (top 33) 1
abbrev s_Check_init : Stmt := inClass (top 34) 0
abbrev s_Check_eq : Stmt := inClass (top 34) 1
abbrev s_Section_init : Stmt := inClass (top 35) 0
abbrev s_Section_eq : Stmt := inClass (top 35) 1
abbrev s_Rounds_init : Stmt := inClass (top 36) 0
abbrev s_Rounds_eq : Stmt := inClass (top 36) 1
abbrev s_Form_init : Stmt := inClass (top 37) 0
abbrev s_Form_eq : Stmt := inClass (top 37) 1
abbrev s_Form_outline : Stmt := inClass (top 37) 2
abbrev s_Form_names : Stmt := inClass (top 37) 3
abbrev s_Form_question : Stmt := inClass (top 37) 4
abbrev s_Form_in_rounds : Stmt := inClass (top 37) 5
abbrev s_is_question : Stmt := top 38
abbrev s_is_named : Stmt := top 39
abbrev s_lay_out : Stmt := top 40
abbrev s_check_rows : Stmt := top 41
abbrev s_check_row : Stmt := top 42
abbrev s_check_name : Stmt := top 43
abbrev s_check_options : Stmt := top 44
abbrev s_refuse_options : Stmt := top 45
abbrev s_check_bounds : Stmt := top 46
abbrev s_check_inner_rows : Stmt := top 47
abbrev s_check_count : Stmt := top 48
abbrev s_check_conditions : Stmt := top 49
abbrev s_conditions_of : Stmt := top 50
abbrev s_question_ahead : Stmt := top 51
abbrev s_suits : Stmt := top 52
abbrev s_is_answer : Stmt := top 54
abbrev s_chosen_in_order : Stmt := top 55
abbrev s_is_number : Stmt := top 56
abbrev s_Walk_init : Stmt := inClass (top 58) 0
abbrev s_Road_init : Stmt := inClass (top 59) 0
abbrev s_walked : Stmt := top 60
abbrev s_end_in_rows : Stmt := top 61
abbrev s_end_at_row : Stmt := top 62
abbrev s_end_at_question : Stmt := top 63
abbrev s_end_in_rounds : Stmt := top 64
abbrev s_holds : Stmt := top 65
abbrev s_spoken_answer : Stmt := top 66
abbrev s_holds_of : Stmt := top 67
abbrev s__law_cell_at : Stmt := top 69
abbrev s__law_state : Stmt := top 70
abbrev s__law_digit : Stmt := top 71
abbrev s__law_simple : Stmt := top 72
abbrev s__law_held : Stmt := top 73
abbrev s__law_made_row : Stmt := top 74
abbrev s__law_made : Stmt := top 75
abbrev s__law_holds : Stmt := top 76
abbrev s__law_fits : Stmt := top 77
abbrev s__law_gone : Stmt := top 78
abbrev s__law_inside : Stmt := top 79
abbrev s__law_walk : Stmt := top 80
abbrev s__law_questions : Stmt := top 81
abbrev s__law_answer : Stmt := top 82
abbrev s__law_wide : Stmt := top 83
abbrev s__law_tag : Stmt := top 84
abbrev s__law_more : Stmt := top 85
abbrev s__law_great_rows : Stmt := top 86
abbrev s__law_facts : Stmt := top 87
abbrev s_law : Stmt := top 88
namespace D
def d__wall : He.DefD := ⟨("_wall", none), "_wall", "_wall", defArgs s__wall, defBody s__wall, defScope s__wall, [], []⟩
def d_Is_init : He.DefD := ⟨("Is", some "__init__"), "__init__", "Is.__init__", defArgs s_Is_init, defBody s_Is_init, defScope s_Is_init, [], []⟩
def d_Is_eq : He.DefD := ⟨("Is", some "__eq__"), "__eq__", "Is.__eq__", defArgs s_Is_eq, defBody s_Is_eq, defScope s_Is_eq, [], []⟩
def d_Has_init : He.DefD := ⟨("Has", some "__init__"), "__init__", "Has.__init__", defArgs s_Has_init, defBody s_Has_init, defScope s_Has_init, [], []⟩
def d_Has_eq : He.DefD := ⟨("Has", some "__eq__"), "__eq__", "Has.__eq__", defArgs s_Has_eq, defBody s_Has_eq, defScope s_Has_eq, [], []⟩
def d_Above_init : He.DefD := ⟨("Above", some "__init__"), "__init__", "Above.__init__", defArgs s_Above_init, defBody s_Above_init, defScope s_Above_init, [], []⟩
def d_Above_eq : He.DefD := ⟨("Above", some "__eq__"), "__eq__", "Above.__eq__", defArgs s_Above_eq, defBody s_Above_eq, defScope s_Above_eq, [], []⟩
def d_Below_init : He.DefD := ⟨("Below", some "__init__"), "__init__", "Below.__init__", defArgs s_Below_init, defBody s_Below_init, defScope s_Below_init, [], []⟩
def d_Below_eq : He.DefD := ⟨("Below", some "__eq__"), "__eq__", "Below.__eq__", defArgs s_Below_eq, defBody s_Below_eq, defScope s_Below_eq, [], []⟩
def d_Not_init : He.DefD := ⟨("Not", some "__init__"), "__init__", "Not.__init__", defArgs s_Not_init, defBody s_Not_init, defScope s_Not_init, [], []⟩
def d_Not_eq : He.DefD := ⟨("Not", some "__eq__"), "__eq__", "Not.__eq__", defArgs s_Not_eq, defBody s_Not_eq, defScope s_Not_eq, [], []⟩
def d_Both_init : He.DefD := ⟨("Both", some "__init__"), "__init__", "Both.__init__", defArgs s_Both_init, defBody s_Both_init, defScope s_Both_init, [], []⟩
def d_Both_eq : He.DefD := ⟨("Both", some "__eq__"), "__eq__", "Both.__eq__", defArgs s_Both_eq, defBody s_Both_eq, defScope s_Both_eq, [], []⟩
def d_Either_init : He.DefD := ⟨("Either", some "__init__"), "__init__", "Either.__init__", defArgs s_Either_init, defBody s_Either_init, defScope s_Either_init, [], []⟩
def d_Either_eq : He.DefD := ⟨("Either", some "__eq__"), "__eq__", "Either.__eq__", defArgs s_Either_eq, defBody s_Either_eq, defScope s_Either_eq, [], []⟩
def d_simple_ones : He.DefD := ⟨("simple_ones", none), "simple_ones", "simple_ones", defArgs s_simple_ones, defBody s_simple_ones, defScope s_simple_ones, [], []⟩
def d_HallError_told : He.DefD := ⟨("HallError", some "told"), "told", "HallError.told", defArgs s_HallError_told, defBody s_HallError_told, defScope s_HallError_told, [], []⟩
def d_BadCount_init : He.DefD := ⟨("BadCount", some "__init__"), "__init__", "BadCount.__init__", defArgs s_BadCount_init, defBody s_BadCount_init, defScope s_BadCount_init, [], []⟩
def d_BadCount_told : He.DefD := ⟨("BadCount", some "told"), "told", "BadCount.told", defArgs s_BadCount_told, defBody s_BadCount_told, defScope s_BadCount_told, [], []⟩
def d_NoName_init : He.DefD := ⟨("NoName", some "__init__"), "__init__", "NoName.__init__", defArgs s_NoName_init, defBody s_NoName_init, defScope s_NoName_init, [], []⟩
def d_NoName_told : He.DefD := ⟨("NoName", some "told"), "told", "NoName.told", defArgs s_NoName_told, defBody s_NoName_told, defScope s_NoName_told, [], []⟩
def d_Twice_init : He.DefD := ⟨("Twice", some "__init__"), "__init__", "Twice.__init__", defArgs s_Twice_init, defBody s_Twice_init, defScope s_Twice_init, [], []⟩
def d_Twice_told : He.DefD := ⟨("Twice", some "told"), "told", "Twice.told", defArgs s_Twice_told, defBody s_Twice_told, defScope s_Twice_told, [], []⟩
def d_NoQuestion_init : He.DefD := ⟨("NoQuestion", some "__init__"), "__init__", "NoQuestion.__init__", defArgs s_NoQuestion_init, defBody s_NoQuestion_init, defScope s_NoQuestion_init, [], []⟩
def d_NoQuestion_told : He.DefD := ⟨("NoQuestion", some "told"), "told", "NoQuestion.told", defArgs s_NoQuestion_told, defBody s_NoQuestion_told, defScope s_NoQuestion_told, [], []⟩
def d_NoFit_init : He.DefD := ⟨("NoFit", some "__init__"), "__init__", "NoFit.__init__", defArgs s_NoFit_init, defBody s_NoFit_init, defScope s_NoFit_init, [], []⟩
def d_NoFit_told : He.DefD := ⟨("NoFit", some "told"), "told", "NoFit.told", defArgs s_NoFit_told, defBody s_NoFit_told, defScope s_NoFit_told, [], []⟩
def d_is_name : He.DefD := ⟨("is_name", none), "is_name", "is_name", defArgs s_is_name, defBody s_is_name, defScope s_is_name, [], []⟩
def d_refuse_no_name : He.DefD := ⟨("refuse_no_name", none), "refuse_no_name", "refuse_no_name", defArgs s_refuse_no_name, defBody s_refuse_no_name, defScope s_refuse_no_name, [], []⟩
def d_refuse_twice : He.DefD := ⟨("refuse_twice", none), "refuse_twice", "refuse_twice", defArgs s_refuse_twice, defBody s_refuse_twice, defScope s_refuse_twice, [], []⟩
def d_One_init : He.DefD := ⟨("One", some "__init__"), "__init__", "One.__init__", defArgs s_One_init, defBody s_One_init, defScope s_One_init, [], [("where", .non)]⟩
def d_One_eq : He.DefD := ⟨("One", some "__eq__"), "__eq__", "One.__eq__", defArgs s_One_eq, defBody s_One_eq, defScope s_One_eq, [], []⟩
def d_Some_init : He.DefD := ⟨("Some", some "__init__"), "__init__", "Some.__init__", defArgs s_Some_init, defBody s_Some_init, defScope s_Some_init, [], [("where", .non)]⟩
def d_Some_eq : He.DefD := ⟨("Some", some "__eq__"), "__eq__", "Some.__eq__", defArgs s_Some_eq, defBody s_Some_eq, defScope s_Some_eq, [], []⟩
def d_Number_init : He.DefD := ⟨("Number", some "__init__"), "__init__", "Number.__init__", defArgs s_Number_init, defBody s_Number_init, defScope s_Number_init, [], [("where", .non)]⟩
def d_Number_eq : He.DefD := ⟨("Number", some "__eq__"), "__eq__", "Number.__eq__", defArgs s_Number_eq, defBody s_Number_eq, defScope s_Number_eq, [], []⟩
def d_Check_init : He.DefD := ⟨("Check", some "__init__"), "__init__", "Check.__init__", defArgs s_Check_init, defBody s_Check_init, defScope s_Check_init, [], [("where", .non)]⟩
def d_Check_eq : He.DefD := ⟨("Check", some "__eq__"), "__eq__", "Check.__eq__", defArgs s_Check_eq, defBody s_Check_eq, defScope s_Check_eq, [], []⟩
def d_Section_init : He.DefD := ⟨("Section", some "__init__"), "__init__", "Section.__init__", defArgs s_Section_init, defBody s_Section_init, defScope s_Section_init, [], [("where", .non)]⟩
def d_Section_eq : He.DefD := ⟨("Section", some "__eq__"), "__eq__", "Section.__eq__", defArgs s_Section_eq, defBody s_Section_eq, defScope s_Section_eq, [], []⟩
def d_Rounds_init : He.DefD := ⟨("Rounds", some "__init__"), "__init__", "Rounds.__init__", defArgs s_Rounds_init, defBody s_Rounds_init, defScope s_Rounds_init, [], [("where", .non)]⟩
def d_Rounds_eq : He.DefD := ⟨("Rounds", some "__eq__"), "__eq__", "Rounds.__eq__", defArgs s_Rounds_eq, defBody s_Rounds_eq, defScope s_Rounds_eq, [], []⟩
def d_Form_init : He.DefD := ⟨("Form", some "__init__"), "__init__", "Form.__init__", defArgs s_Form_init, defBody s_Form_init, defScope s_Form_init, [], []⟩
def d_Form_eq : He.DefD := ⟨("Form", some "__eq__"), "__eq__", "Form.__eq__", defArgs s_Form_eq, defBody s_Form_eq, defScope s_Form_eq, [], []⟩
def d_Form_outline : He.DefD := ⟨("Form", some "outline"), "outline", "Form.outline", defArgs s_Form_outline, defBody s_Form_outline, defScope s_Form_outline, [], []⟩
def d_Form_names : He.DefD := ⟨("Form", some "names"), "names", "Form.names", defArgs s_Form_names, defBody s_Form_names, defScope s_Form_names, [], []⟩
def d_Form_question : He.DefD := ⟨("Form", some "question"), "question", "Form.question", defArgs s_Form_question, defBody s_Form_question, defScope s_Form_question, [], []⟩
def d_Form_in_rounds : He.DefD := ⟨("Form", some "in_rounds"), "in_rounds", "Form.in_rounds", defArgs s_Form_in_rounds, defBody s_Form_in_rounds, defScope s_Form_in_rounds, [], []⟩
def d_is_question : He.DefD := ⟨("is_question", none), "is_question", "is_question", defArgs s_is_question, defBody s_is_question, defScope s_is_question, [], []⟩
def d_is_named : He.DefD := ⟨("is_named", none), "is_named", "is_named", defArgs s_is_named, defBody s_is_named, defScope s_is_named, [], []⟩
def d_lay_out : He.DefD := ⟨("lay_out", none), "lay_out", "lay_out", defArgs s_lay_out, defBody s_lay_out, defScope s_lay_out, [], []⟩
def d_check_rows : He.DefD := ⟨("check_rows", none), "check_rows", "check_rows", defArgs s_check_rows, defBody s_check_rows, defScope s_check_rows, [], []⟩
def d_check_row : He.DefD := ⟨("check_row", none), "check_row", "check_row", defArgs s_check_row, defBody s_check_row, defScope s_check_row, [], []⟩
def d_check_name : He.DefD := ⟨("check_name", none), "check_name", "check_name", defArgs s_check_name, defBody s_check_name, defScope s_check_name, [], []⟩
def d_check_options : He.DefD := ⟨("check_options", none), "check_options", "check_options", defArgs s_check_options, defBody s_check_options, defScope s_check_options, [], []⟩
def d_refuse_options : He.DefD := ⟨("refuse_options", none), "refuse_options", "refuse_options", defArgs s_refuse_options, defBody s_refuse_options, defScope s_refuse_options, [], []⟩
def d_check_bounds : He.DefD := ⟨("check_bounds", none), "check_bounds", "check_bounds", defArgs s_check_bounds, defBody s_check_bounds, defScope s_check_bounds, [], []⟩
def d_check_inner_rows : He.DefD := ⟨("check_inner_rows", none), "check_inner_rows", "check_inner_rows", defArgs s_check_inner_rows, defBody s_check_inner_rows, defScope s_check_inner_rows, [], []⟩
def d_check_count : He.DefD := ⟨("check_count", none), "check_count", "check_count", defArgs s_check_count, defBody s_check_count, defScope s_check_count, [], []⟩
def d_check_conditions : He.DefD := ⟨("check_conditions", none), "check_conditions", "check_conditions", defArgs s_check_conditions, defBody s_check_conditions, defScope s_check_conditions, [], []⟩
def d_conditions_of : He.DefD := ⟨("conditions_of", none), "conditions_of", "conditions_of", defArgs s_conditions_of, defBody s_conditions_of, defScope s_conditions_of, [], []⟩
def d_question_ahead : He.DefD := ⟨("question_ahead", none), "question_ahead", "question_ahead", defArgs s_question_ahead, defBody s_question_ahead, defScope s_question_ahead, [], []⟩
def d_suits : He.DefD := ⟨("suits", none), "suits", "suits", defArgs s_suits, defBody s_suits, defScope s_suits, [], []⟩
def d_is_answer : He.DefD := ⟨("is_answer", none), "is_answer", "is_answer", defArgs s_is_answer, defBody s_is_answer, defScope s_is_answer, [], []⟩
def d_chosen_in_order : He.DefD := ⟨("chosen_in_order", none), "chosen_in_order", "chosen_in_order", defArgs s_chosen_in_order, defBody s_chosen_in_order, defScope s_chosen_in_order, [], []⟩
def d_is_number : He.DefD := ⟨("is_number", none), "is_number", "is_number", defArgs s_is_number, defBody s_is_number, defScope s_is_number, [], []⟩
def d_Walk_init : He.DefD := ⟨("Walk", some "__init__"), "__init__", "Walk.__init__", defArgs s_Walk_init, defBody s_Walk_init, defScope s_Walk_init, [], []⟩
def d_Road_init : He.DefD := ⟨("Road", some "__init__"), "__init__", "Road.__init__", defArgs s_Road_init, defBody s_Road_init, defScope s_Road_init, [], []⟩
def d_walked : He.DefD := ⟨("walked", none), "walked", "walked", defArgs s_walked, defBody s_walked, defScope s_walked, [], []⟩
def d_end_in_rows : He.DefD := ⟨("end_in_rows", none), "end_in_rows", "end_in_rows", defArgs s_end_in_rows, defBody s_end_in_rows, defScope s_end_in_rows, [], []⟩
def d_end_at_row : He.DefD := ⟨("end_at_row", none), "end_at_row", "end_at_row", defArgs s_end_at_row, defBody s_end_at_row, defScope s_end_at_row, [], []⟩
def d_end_at_question : He.DefD := ⟨("end_at_question", none), "end_at_question", "end_at_question", defArgs s_end_at_question, defBody s_end_at_question, defScope s_end_at_question, [], []⟩
def d_end_in_rounds : He.DefD := ⟨("end_in_rounds", none), "end_in_rounds", "end_in_rounds", defArgs s_end_in_rounds, defBody s_end_in_rounds, defScope s_end_in_rounds, [], []⟩
def d_holds : He.DefD := ⟨("holds", none), "holds", "holds", defArgs s_holds, defBody s_holds, defScope s_holds, [], []⟩
def d_spoken_answer : He.DefD := ⟨("spoken_answer", none), "spoken_answer", "spoken_answer", defArgs s_spoken_answer, defBody s_spoken_answer, defScope s_spoken_answer, [], []⟩
def d_holds_of : He.DefD := ⟨("holds_of", none), "holds_of", "holds_of", defArgs s_holds_of, defBody s_holds_of, defScope s_holds_of, [], []⟩
def d__law_cell_at : He.DefD := ⟨("_law_cell_at", none), "_law_cell_at", "_law_cell_at", defArgs s__law_cell_at, defBody s__law_cell_at, defScope s__law_cell_at, [], []⟩
def d__law_state : He.DefD := ⟨("_law_state", none), "_law_state", "_law_state", defArgs s__law_state, defBody s__law_state, defScope s__law_state, [], []⟩
def d__law_digit : He.DefD := ⟨("_law_digit", none), "_law_digit", "_law_digit", defArgs s__law_digit, defBody s__law_digit, defScope s__law_digit, [], []⟩
def d__law_simple : He.DefD := ⟨("_law_simple", none), "_law_simple", "_law_simple", defArgs s__law_simple, defBody s__law_simple, defScope s__law_simple, [], []⟩
def d__law_held : He.DefD := ⟨("_law_held", none), "_law_held", "_law_held", defArgs s__law_held, defBody s__law_held, defScope s__law_held, [], []⟩
def d__law_made_row : He.DefD := ⟨("_law_made_row", none), "_law_made_row", "_law_made_row", defArgs s__law_made_row, defBody s__law_made_row, defScope s__law_made_row, [], []⟩
def d__law_made : He.DefD := ⟨("_law_made", none), "_law_made", "_law_made", defArgs s__law_made, defBody s__law_made, defScope s__law_made, [], []⟩
def d__law_holds : He.DefD := ⟨("_law_holds", none), "_law_holds", "_law_holds", defArgs s__law_holds, defBody s__law_holds, defScope s__law_holds, [], []⟩
def d__law_fits : He.DefD := ⟨("_law_fits", none), "_law_fits", "_law_fits", defArgs s__law_fits, defBody s__law_fits, defScope s__law_fits, [], []⟩
def d__law_gone : He.DefD := ⟨("_law_gone", none), "_law_gone", "_law_gone", defArgs s__law_gone, defBody s__law_gone, defScope s__law_gone, [], []⟩
def d__law_inside : He.DefD := ⟨("_law_inside", none), "_law_inside", "_law_inside", defArgs s__law_inside, defBody s__law_inside, defScope s__law_inside, [], []⟩
def d__law_walk : He.DefD := ⟨("_law_walk", none), "_law_walk", "_law_walk", defArgs s__law_walk, defBody s__law_walk, defScope s__law_walk, [], []⟩
def d__law_questions : He.DefD := ⟨("_law_questions", none), "_law_questions", "_law_questions", defArgs s__law_questions, defBody s__law_questions, defScope s__law_questions, [], []⟩
def d__law_answer : He.DefD := ⟨("_law_answer", none), "_law_answer", "_law_answer", defArgs s__law_answer, defBody s__law_answer, defScope s__law_answer, [], []⟩
def d__law_wide : He.DefD := ⟨("_law_wide", none), "_law_wide", "_law_wide", defArgs s__law_wide, defBody s__law_wide, defScope s__law_wide, [], []⟩
def d__law_tag : He.DefD := ⟨("_law_tag", none), "_law_tag", "_law_tag", defArgs s__law_tag, defBody s__law_tag, defScope s__law_tag, [], []⟩
def d__law_more : He.DefD := ⟨("_law_more", none), "_law_more", "_law_more", defArgs s__law_more, defBody s__law_more, defScope s__law_more, [], []⟩
def d__law_great_rows : He.DefD := ⟨("_law_great_rows", none), "_law_great_rows", "_law_great_rows", defArgs s__law_great_rows, defBody s__law_great_rows, defScope s__law_great_rows, [], []⟩
def d__law_facts : He.DefD := ⟨("_law_facts", none), "_law_facts", "_law_facts", defArgs s__law_facts, defBody s__law_facts, defScope s__law_facts, [], []⟩
def d_law : He.DefD := ⟨("law", none), "law", "law", defArgs s_law, defBody s_law, defScope s_law, [], []⟩
def fn : List He.DefD := [d__wall, d_Is_init, d_Is_eq, d_Has_init, d_Has_eq, d_Above_init, d_Above_eq, d_Below_init, d_Below_eq, d_Not_init, d_Not_eq, d_Both_init, d_Both_eq, d_Either_init, d_Either_eq, d_simple_ones, d_HallError_told, d_BadCount_init, d_BadCount_told, d_NoName_init, d_NoName_told, d_Twice_init, d_Twice_told, d_NoQuestion_init, d_NoQuestion_told, d_NoFit_init, d_NoFit_told, d_is_name, d_refuse_no_name, d_refuse_twice, d_One_init, d_One_eq, d_Some_init, d_Some_eq, d_Number_init, d_Number_eq, d_Check_init, d_Check_eq, d_Section_init, d_Section_eq, d_Rounds_init, d_Rounds_eq, d_Form_init, d_Form_eq, d_Form_outline, d_Form_names, d_Form_question, d_Form_in_rounds, d_is_question, d_is_named, d_lay_out, d_check_rows, d_check_row, d_check_name, d_check_options, d_refuse_options, d_check_bounds, d_check_inner_rows, d_check_count, d_check_conditions, d_conditions_of, d_question_ahead, d_suits, d_is_answer, d_chosen_in_order, d_is_number, d_Walk_init, d_Road_init, d_walked, d_end_in_rows, d_end_at_row, d_end_at_question, d_end_in_rounds, d_holds, d_spoken_answer, d_holds_of, d__law_cell_at, d__law_state, d__law_digit, d__law_simple, d__law_held, d__law_made_row, d__law_made, d__law_holds, d__law_fits, d__law_gone, d__law_inside, d__law_walk, d__law_questions, d__law_answer, d__law_wide, d__law_tag, d__law_more, d__law_great_rows, d__law_facts, d_law]
def fa : List He.Fa := [.glo "_wall",
  .glo "Condition",
  .keep "Condition",
  .glo "Is",
  .keep "Is",
  .glo "Has",
  .keep "Has",
  .glo "Above",
  .keep "Above",
  .glo "Below",
  .keep "Below",
  .glo "Not",
  .keep "Not",
  .glo "Both",
  .keep "Both",
  .glo "Either",
  .keep "Either",
  .glo "simple_ones",
  .glo "HallError",
  .keep "HallError",
  .glo "BadCount",
  .keep "BadCount",
  .glo "NoName",
  .keep "NoName",
  .glo "Twice",
  .keep "Twice",
  .glo "NoQuestion",
  .keep "NoQuestion",
  .glo "NoFit",
  .keep "NoFit",
  .str "FIGURES" "0123456789",
  .str "LETTERS" "abcdefghijklmnopqrstuvwxyz",
  .int "LONGEST_NAME" 8,
  .glo "is_name",
  .glo "refuse_no_name",
  .glo "refuse_twice",
  .int "MOST_ROWS" 40,
  .int "MOST_OPTIONS_OF_ONE" 6,
  .int "MOST_OPTIONS_OF_SOME" 4,
  .int "MOST_ROUNDS" 4,
  .glo "Row",
  .keep "Row",
  .glo "One",
  .keep "One",
  .glo "Some",
  .keep "Some",
  .glo "Number",
  .keep "Number",
  .glo "Check",
  .keep "Check",
  .glo "Section",
  .keep "Section",
  .glo "Rounds",
  .keep "Rounds",
  .glo "Form",
  .keep "Form",
  .glo "is_question",
  .glo "is_named",
  .glo "lay_out",
  .glo "check_rows",
  .glo "check_row",
  .glo "check_name",
  .glo "check_options",
  .glo "refuse_options",
  .glo "check_bounds",
  .glo "check_inner_rows",
  .glo "check_count",
  .glo "check_conditions",
  .glo "conditions_of",
  .glo "question_ahead",
  .glo "suits",
  .glo "is_answer",
  .glo "chosen_in_order",
  .glo "is_number",
  .glo "Walk",
  .keep "Walk",
  .glo "Road",
  .keep "Road",
  .glo "walked",
  .glo "end_in_rows",
  .glo "end_at_row",
  .glo "end_at_question",
  .glo "end_in_rounds",
  .glo "holds",
  .glo "spoken_answer",
  .glo "holds_of",
  .glo "_law_cell_at",
  .glo "_law_state",
  .glo "_law_digit",
  .glo "_law_simple",
  .glo "_law_held",
  .glo "_law_made_row",
  .glo "_law_made",
  .glo "_law_holds",
  .glo "_law_fits",
  .glo "_law_gone",
  .glo "_law_inside",
  .glo "_law_walk",
  .glo "_law_questions",
  .glo "_law_answer",
  .glo "_law_wide",
  .glo "_law_tag",
  .glo "_law_more",
  .glo "_law_great_rows",
  .glo "_law_facts",
  .glo "law",
  .free "abs",
  .free "all",
  .free "bool",
  .free "int",
  .free "isinstance",
  .free "len",
  .free "list",
  .free "range",
  .free "set",
  .free "str",
  .free "tuple",
  .cls "Is",
  .mkr "Is",
  .noat "Is" "name",
  .noat "Is" "option",
  .meth "Is" "__init__",
  .meth "Is" "__eq__",
  .cls "Has",
  .mkr "Has",
  .noat "Has" "name",
  .noat "Has" "option",
  .meth "Has" "__init__",
  .meth "Has" "__eq__",
  .cls "Above",
  .mkr "Above",
  .noat "Above" "name",
  .noat "Above" "number",
  .meth "Above" "__init__",
  .meth "Above" "__eq__",
  .cls "Below",
  .mkr "Below",
  .noat "Below" "name",
  .noat "Below" "number",
  .meth "Below" "__init__",
  .meth "Below" "__eq__",
  .cls "Not",
  .mkr "Not",
  .noat "Not" "inner",
  .meth "Not" "__init__",
  .meth "Not" "__eq__",
  .cls "Both",
  .mkr "Both",
  .noat "Both" "left",
  .noat "Both" "right",
  .meth "Both" "__init__",
  .meth "Both" "__eq__",
  .cls "Either",
  .mkr "Either",
  .noat "Either" "left",
  .noat "Either" "right",
  .meth "Either" "__init__",
  .meth "Either" "__eq__",
  .noat "BadCount" "what",
  .noat "BadCount" "count",
  .meth "BadCount" "__init__",
  .noat "NoName" "name",
  .meth "NoName" "__init__",
  .noat "Twice" "name",
  .meth "Twice" "__init__",
  .noat "NoQuestion" "name",
  .meth "NoQuestion" "__init__",
  .noat "NoFit" "name",
  .meth "NoFit" "__init__",
  .cls "One",
  .mkr "One",
  .noat "One" "name",
  .noat "One" "options",
  .noat "One" "where",
  .meth "One" "__init__",
  .meth "One" "__eq__",
  .cls "Some",
  .mkr "Some",
  .noat "Some" "name",
  .noat "Some" "options",
  .noat "Some" "where",
  .meth "Some" "__init__",
  .meth "Some" "__eq__",
  .cls "Number",
  .mkr "Number",
  .noat "Number" "name",
  .noat "Number" "low",
  .noat "Number" "high",
  .noat "Number" "where",
  .meth "Number" "__init__",
  .meth "Number" "__eq__",
  .cls "Check",
  .mkr "Check",
  .noat "Check" "name",
  .noat "Check" "must",
  .noat "Check" "where",
  .meth "Check" "__init__",
  .meth "Check" "__eq__",
  .cls "Section",
  .mkr "Section",
  .noat "Section" "rows",
  .noat "Section" "where",
  .meth "Section" "__init__",
  .meth "Section" "__eq__",
  .cls "Rounds",
  .mkr "Rounds",
  .noat "Rounds" "count",
  .noat "Rounds" "rows",
  .noat "Rounds" "where",
  .meth "Rounds" "__init__",
  .meth "Rounds" "__eq__",
  .cls "Form",
  .mkr "Form",
  .noat "Form" "rows",
  .noat "Form" "questions",
  .noat "Form" "repeated",
  .meth "Form" "__init__",
  .meth "Form" "__eq__",
  .meth "Form" "outline",
  .meth "Form" "names",
  .meth "Form" "question",
  .meth "Form" "in_rounds",
  .cls "Walk",
  .mkr "Walk",
  .noat "Walk" "word",
  .noat "Walk" "spot",
  .noat "Walk" "asked",
  .noat "Walk" "counted",
  .meth "Walk" "__init__",
  .cls "Road",
  .mkr "Road",
  .noat "Road" "form",
  .noat "Road" "answers",
  .noat "Road" "asked",
  .noat "Road" "counted",
  .meth "Road" "__init__"]
end D
/-! ### what an own exception class with its __init__ says -/
/-! done -/
end K3
end H0_part
section HX_part
set_option Elab.async false
set_option linter.all false
set_option maxRecDepth 100000
set_option maxHeartbeats 0
namespace K3
open PySem PySem.Spec PyProof.Rows L2
/-! ### further facts of the written part, as Bools -/
def eqB {α : Type} [DecidableEq α] (a b : α) : Bool := decide (a = b)
theorem eqB_ok {α : Type} [DecidableEq α] {a b : α} (h : eqB a b = true) : a = b := of_decide_eq_true h
def kclsB (K : PySem.W.Frag) (C : Addr) : Bool := eqB (PySem.W.findIn K (.ref C) "__class__") (some (some (.builtin "object.__class__"))) && eqB (PySem.W.mroIn K C (.type "object")) (some true)
def getsetB (K : PySem.W.Frag) : Bool := eqB (PySem.W.specialIn K (.builtin "object.__class__") "__get__") (some (some (.builtin "getset_descriptor.__get__"))) && eqB (PySem.W.takesIn K (.builtin "object.__class__")) (some true)
def oexcB (K : PySem.W.Frag) (C : Addr) : Bool := match K.lookup C with
  | some ⟨.type "type", _, .cls cd, sl⟩ => (match cd.mro, sl.toList with
    | .ref C' :: bm, [_, _, _, _, some (.builtin n), _] => C' == C && (n == "ValueError.__new__" && (!cd.hasDel && (cd.hasDict && PySem.HandSPX.refsVE bm)))
    | _, _ => false)
  | _ => false
def excB (K : PySem.W.Frag) (C : Addr) : Bool := oexcB K C && (eqB (PySem.W.findIn K (.ref C) "__setattr__") (some (some (.builtin "object.__setattr__"))) && (eqB (PySem.W.typeIn K (.ref C)) (some (.type "type")) && (PySem.W.keepIn K (.ref C) && xfB K C)))
def kitB2 (K : PySem.W.Frag) (x y : Str) : Bool := eqB (PySem.W.kitOne K (.ref (He.ga K x)) (.ref (He.ga K y))) (some (x == y))
def errN : List Str := [("BadCount" : Str), ("NoName" : Str), ("Twice" : Str), ("NoQuestion" : Str), ("NoFit" : Str)]
def cndN : List Str := [("Is" : Str), ("Has" : Str), ("Above" : Str), ("Below" : Str), ("Not" : Str), ("Both" : Str), ("Either" : Str)]
def cndT : List Str := [("Is" : Str), ("Has" : Str), ("Above" : Str), ("Below" : Str), ("Not" : Str), ("Both" : Str), ("Either" : Str)]
def rowN : List Str := [("One" : Str), ("Some" : Str), ("Number" : Str), ("Check" : Str), ("Section" : Str), ("Rounds" : Str)]
def truB (K : PySem.W.Frag) (C : Addr) : Bool := eqB (PySem.W.findIn K (.ref C) "__bool__") (some none) && eqB (PySem.W.findIn K (.ref C) "__len__") (some none)
def exO (K : PySem.W.Frag) : Bool :=
  getsetB K && ((errN.all fun x => excB K (He.ga K x) && (kclsB K (He.ga K x) && (eqB (PySem.W.exmOne K (.ref (He.ga K x)) (.ref (He.ga K "HallError"))) (some true) && (eqB (PySem.W.kitOne K (.ref (He.ga K x)) (.type "ValueError")) (some true) && errN.all fun y => kitB2 K x y)))) &&
  ((cndN.all fun x => kclsB K (He.ga K x) && cndT.all fun y => kitB2 K x y) && (rowN.all fun x => kclsB K (He.ga K x) && rowN.all fun y => kitB2 K x y)))
/-! ### classes with an own == -/
def eqG : List (List Str) := [[("Is" : Str), ("Has" : Str), ("Above" : Str), ("Below" : Str), ("Not" : Str), ("Both" : Str), ("Either" : Str)], [("One" : Str), ("Some" : Str), ("Number" : Str), ("Check" : Str), ("Section" : Str), ("Rounds" : Str)], [("Form" : Str)]]
def oneB (K : PySem.W.Frag) (x : Str) : Bool := kclsB K (He.ga K x) && (eqB (PySem.W.findIn K (.ref (He.ga K x)) "__ne__") (some (some (.builtin "object.__ne__"))) && (eqB (PySem.W.mroIn K (He.ga K x) (.type "NoneType")) (some false) && (eqB (PySem.W.kitOne K (.type "NoneType") (.ref (He.ga K x))) (some false) && eqB (PySem.W.kitOne K (.type "int") (.ref (He.ga K x))) (some false))))
def oeqB (K : PySem.W.Frag) : Bool := eqG.all fun g => g.all fun x => oneB K x && g.all fun y => eqB (PySem.W.mroIn K (He.ga K y) (.ref (He.ga K x))) (some (x == y)) && kitB2 K y x
def exmB (K : PySem.W.Frag) : Bool := errN.all fun x => errN.all fun y => eqB (PySem.W.exmOne K (.ref (He.ga K x)) (.ref (He.ga K y))) (some (x == y))
def ex (K : PySem.W.Frag) : Bool := exO K && ((cndN.all fun x => truB K (He.ga K x)) && (oeqB K && (exmB K && true)))
/-! ### the Hook -/
def ob (n : Nat) (s : PySem.W.SharedT) : He.AlD × Bool := (He.obsDG n D.fa D.fn (HandSHeadRun.getT s), ex (He.frG (HandSHeadRun.getT s) (He.asD (HandSHeadRun.getT s) n)))
end K3
end HX_part
section H1_part
set_option Elab.async false
set_option linter.all false
set_option maxRecDepth 100000
set_option maxHeartbeats 0
namespace K3
open PySem PySem.Spec PyProof.Rows L2 PySem.W PySem.Calls HandSHeadRun
abbrev R : PySem.W.OpenRow := PySem.W.OpenLaw.row PySem.Challenge.rw_skiphall_k25_walks_at_the_bounds
def loose1 : List Str := [("_wall" : Str), ("Condition" : Str), ("Is" : Str), ("Has" : Str), ("Above" : Str), ("Below" : Str), ("Not" : Str), ("Both" : Str), ("Either" : Str), ("simple_ones" : Str), ("HallError" : Str), ("BadCount" : Str), ("NoName" : Str), ("Twice" : Str), ("NoQuestion" : Str), ("NoFit" : Str), ("FIGURES" : Str), ("LETTERS" : Str), ("LONGEST_NAME" : Str), ("is_name" : Str), ("refuse_no_name" : Str), ("refuse_twice" : Str), ("MOST_ROWS" : Str), ("MOST_OPTIONS_OF_ONE" : Str), ("MOST_OPTIONS_OF_SOME" : Str), ("MOST_ROUNDS" : Str), ("Row" : Str), ("One" : Str), ("Some" : Str), ("Number" : Str)]
def loose2 : List Str := [("Check" : Str), ("Section" : Str), ("Rounds" : Str), ("Form" : Str), ("is_question" : Str), ("is_named" : Str), ("lay_out" : Str), ("check_rows" : Str), ("check_row" : Str), ("check_name" : Str), ("check_options" : Str), ("refuse_options" : Str), ("check_bounds" : Str), ("check_inner_rows" : Str), ("check_count" : Str), ("check_conditions" : Str), ("conditions_of" : Str), ("question_ahead" : Str), ("suits" : Str), ("is_answer" : Str), ("chosen_in_order" : Str), ("is_number" : Str), ("Walk" : Str), ("Road" : Str), ("walked" : Str), ("end_in_rows" : Str), ("end_at_row" : Str), ("end_at_question" : Str), ("end_in_rounds" : Str), ("holds" : Str)]
def loose3 : List Str := [("spoken_answer" : Str), ("holds_of" : Str), ("_law_cell_at" : Str), ("_law_state" : Str), ("_law_digit" : Str), ("_law_simple" : Str), ("_law_held" : Str), ("_law_made_row" : Str), ("_law_made" : Str), ("_law_holds" : Str), ("_law_fits" : Str), ("_law_gone" : Str), ("_law_inside" : Str), ("_law_walk" : Str), ("_law_questions" : Str), ("_law_answer" : Str), ("_law_wide" : Str), ("_law_tag" : Str), ("_law_more" : Str), ("_law_great_rows" : Str), ("_law_facts" : Str)]
def loose : List Str := loose1 ++ loose2 ++ loose3
abbrev qv : Program := PySem.W.view R.prog [88]
/-! the head's run, looked at three times: one run with all three looks wants more memory than there is -/
/-! tables of code objects -/
def tf : List He.Defn := [("_law_gone", none)]
abbrev hkT : PySem.W.Hook := He.hookX 4 D.fa D.fn [] tf ex
def obT (s : PySem.W.SharedT) : He.AlX := He.obsX 4 D.fa D.fn [] tf ex (HandSHeadRun.getT s)
theorem obT_eq (s : PySem.W.SharedT) : obT s = hkT.obs s.abs := He.obsX_eq (HandSHeadRun.getT_eq s)
theorem run1 (w : World) (os : OsState) : (endF (stepQ (denQ tabQ) R.prog w) 12000 R.prog w os).map (fun s => looksF R.prog (boot_heap w.params) s.abs) = some true := by
  kernel_rfl
theorem run2 (w : World) (os : OsState) : (endF (stepQ (denQ tabQ) R.prog w) 12000 R.prog w os).map (fun s => seenQ qv loose (importedModules R.prog.main.body) (fun s => xlAt qv [] s && recOk R.toRowW.records s) s.abs) = some (openGood qv loose) := by
  kernel_rfl
abbrev KT (s : PySem.W.SharedT) : PySem.W.Frag := He.frT (HandSHeadRun.getT s) (He.asD (HandSHeadRun.getT s) 4)
theorem run3a1 (w : World) (os : OsState) : (endF (stepQ (denQ tabQ) R.prog w) 12000 R.prog w os).map (fun s => D.fa.all fun f => f.ok (KT s)) = some true := by
  kernel_rfl
theorem run3a2 (w : World) (os : OsState) : (endF (stepQ (denQ tabQ) R.prog w) 12000 R.prog w os).map (fun s => (D.fn.take 45).all fun d => d.ok (KT s)) = some true := by
  kernel_rfl
theorem run3a3 (w : World) (os : OsState) : (endF (stepQ (denQ tabQ) R.prog w) 12000 R.prog w os).map (fun s => (D.fn.drop 45).all fun d => d.ok (KT s)) = some true := by
  kernel_rfl
theorem run3a4 (w : World) (os : OsState) : (endF (stepQ (denQ tabQ) R.prog w) 12000 R.prog w os).map (fun s => (D.fn.take 45).map fun d => He.fnW (KT s) d.at_) = some ((D.fn.take 45).map He.DefD.val) := by
  kernel_rfl
theorem run3a5 (w : World) (os : OsState) : (endF (stepQ (denQ tabQ) R.prog w) 12000 R.prog w os).map (fun s => (D.fn.drop 45).map fun d => He.fnW (KT s) d.at_) = some ((D.fn.drop 45).map He.DefD.val) := by
  kernel_rfl
theorem join5 {w : World} : ∀ {o : Option PySem.W.SharedT}, o.map (fun s => D.fa.all fun f => f.ok (KT s)) = some true → o.map (fun s => (D.fn.take 45).all fun d => d.ok (KT s)) = some true → o.map (fun s => (D.fn.drop 45).all fun d => d.ok (KT s)) = some true → o.map (fun s => (D.fn.take 45).map fun d => He.fnW (KT s) d.at_) = some ((D.fn.take 45).map He.DefD.val) → o.map (fun s => (D.fn.drop 45).map fun d => He.fnW (KT s) d.at_) = some ((D.fn.drop 45).map He.DefD.val) → o.map (fun s => (obT s).1) = some (hkT.val w).1
  | none, h, _, _, _, _ => by cases h
  | some s, h1, h2, h3, h4, h5 => by
    have e1 : (D.fa.all fun f => f.ok (KT s)) = true := Option.some.inj h1
    have e2 : ((D.fn.take 45).all fun d => d.ok (KT s)) = true := Option.some.inj h2
    have e3 : ((D.fn.drop 45).all fun d => d.ok (KT s)) = true := Option.some.inj h3
    have e4 : ((D.fn.take 45).map fun d => He.fnW (KT s) d.at_) = (D.fn.take 45).map He.DefD.val := Option.some.inj h4
    have e5 : ((D.fn.drop 45).map fun d => He.fnW (KT s) d.at_) = (D.fn.drop 45).map He.DefD.val := Option.some.inj h5
    have a1 : (D.fn.all fun d => d.ok (KT s)) = true := by
      have q : ((D.fn.take 45 ++ D.fn.drop 45).all fun d => d.ok (KT s)) = true := by rw [List.all_append, e2, e3]; rfl
      rwa [List.take_append_drop] at q
    have a2 : (D.fn.map fun d => He.fnW (KT s) d.at_) = D.fn.map He.DefD.val := by
      have q : ((D.fn.take 45 ++ D.fn.drop 45).map fun d => He.fnW (KT s) d.at_) = (D.fn.take 45 ++ D.fn.drop 45).map He.DefD.val := by rw [List.map_append, List.map_append, e4, e5]
      rwa [List.take_append_drop] at q
    show some ((((D.fa.all fun f => f.ok (KT s)) && (D.fn.all fun d => d.ok (KT s)), D.fn.map fun d => He.fnW (KT s) d.at_), ([] : List He.Tab).map fun t => He.dicW (KT s) (t.1 (KT s))) : He.AlT) = _
    rw [e1, a1, a2]
    rfl
theorem run3a (w : World) (os : OsState) : (endF (stepQ (denQ tabQ) R.prog w) 12000 R.prog w os).map (fun s => (obT s).1) = some (hkT.val w).1 := join5 (run3a1 w os) (run3a2 w os) (run3a3 w os) (run3a4 w os) (run3a5 w os)
theorem run3b (w : World) (os : OsState) : (endF (stepQ (denQ tabQ) R.prog w) 12000 R.prog w os).map (fun s => (obT s).2) = some (hkT.val w).2 := by
  kernel_rfl
theorem join2 {α A B : Type} {f : α → A × B} {a : A} {b : B} : ∀ {o : Option α}, o.map (fun s => (f s).1) = some a → o.map (fun s => (f s).2) = some b → o.map f = some (a, b)
  | none, h, _ => by cases h
  | some s, h1, h2 => by
    have e1 := Option.some.inj h1
    have e2 := Option.some.inj h2
    show some (f s) = some (a, b)
    rw [← e1, ← e2]
theorem run3 (w : World) (os : OsState) : (endF (stepQ (denQ tabQ) R.prog w) 12000 R.prog w os).map (fun s => obT s) = some (hkT.val w) :=
  join2 (run3a w os) (run3b w os)
theorem join3 {α A B C : Type} {f : α → A} {g : α → B} {h : α → C} {a : A} {b : B} {c : C} : ∀ {o : Option α}, o.map f = some a → o.map g = some b → o.map h = some c → o.map (fun s => (f s, g s, h s)) = some (a, b, c)
  | none, h1, _, _ => by cases h1
  | some s, h1, h2, h3 => by
    have e1 := Option.some.inj h1
    have e2 := Option.some.inj h2
    have e3 := Option.some.inj h3
    show some (f s, g s, h s) = _
    rw [e1, e2, e3]
theorem run (w : World) : HandSHeadRun.RunEq R qv hkT obT 12000 loose w := fun os => join3 (run1 w os) (run2 w os) (run3 w os)
end K3
end H1_part
section A0_part
set_option Elab.async false
set_option linter.all false
set_option maxRecDepth 100000
set_option maxHeartbeats 0
namespace K3
open PySem PySem.Spec PyProof.Rows L2
/-- what the top has written -/
structure Tx (K : PySem.W.Frag) (mg : Str → Option Value) : Prop where
  c : He.SaysD D.fa D.fn K
  e : ex K = true
  h : ∃ h : Heap, K.In h ∧ h.Ns mainGlobals mg
section
variable {K : PySem.W.Frag} {mg : Str → Option Value}
theorem Tx.glo (T : Tx K mg) {x : Str} (c : (He.Fa.glo x).ok K = true) : mg x = some (.ref (He.ga K x)) := by
  obtain ⟨h, X, G⟩ := T.h
  exact He.glo_ok X G c
theorem Tx.free (T : Tx K mg) {x : Str} (c : (He.Fa.free x).ok K = true) : mg x = none := by
  obtain ⟨h, X, G⟩ := T.h
  exact He.free_ok X G c
theorem Tx.int (T : Tx K mg) {x : Str} {i : Int} (c : (He.Fa.int x i).ok K = true) : ∃ t, mg x = some (.int i t) := by
  obtain ⟨h, X, G⟩ := T.h
  exact He.int_ok X G c
theorem Tx.str (T : Tx K mg) {x z : Str} (c : (He.Fa.str x z).ok K = true) : ∃ t, mg x = some (.str z t) := by
  obtain ⟨h, X, G⟩ := T.h
  exact He.str_ok X G c
theorem Tx.g_Is (T : Tx K mg) : mg "Is" = some (.ref (He.ga K "Is")) := T.glo (T.c.fact 3 rfl)
theorem Tx.g_Has (T : Tx K mg) : mg "Has" = some (.ref (He.ga K "Has")) := T.glo (T.c.fact 5 rfl)
theorem Tx.g_Above (T : Tx K mg) : mg "Above" = some (.ref (He.ga K "Above")) := T.glo (T.c.fact 7 rfl)
theorem Tx.g_Below (T : Tx K mg) : mg "Below" = some (.ref (He.ga K "Below")) := T.glo (T.c.fact 9 rfl)
theorem Tx.g_Not (T : Tx K mg) : mg "Not" = some (.ref (He.ga K "Not")) := T.glo (T.c.fact 11 rfl)
theorem Tx.g_Both (T : Tx K mg) : mg "Both" = some (.ref (He.ga K "Both")) := T.glo (T.c.fact 13 rfl)
theorem Tx.g_Either (T : Tx K mg) : mg "Either" = some (.ref (He.ga K "Either")) := T.glo (T.c.fact 15 rfl)
theorem Tx.g_simple_ones (T : Tx K mg) : mg "simple_ones" = some (.ref (He.ga K "simple_ones")) := T.glo (T.c.fact 17 rfl)
theorem Tx.g_BadCount (T : Tx K mg) : mg "BadCount" = some (.ref (He.ga K "BadCount")) := T.glo (T.c.fact 20 rfl)
theorem Tx.g_NoName (T : Tx K mg) : mg "NoName" = some (.ref (He.ga K "NoName")) := T.glo (T.c.fact 22 rfl)
theorem Tx.g_Twice (T : Tx K mg) : mg "Twice" = some (.ref (He.ga K "Twice")) := T.glo (T.c.fact 24 rfl)
theorem Tx.g_NoQuestion (T : Tx K mg) : mg "NoQuestion" = some (.ref (He.ga K "NoQuestion")) := T.glo (T.c.fact 26 rfl)
theorem Tx.g_NoFit (T : Tx K mg) : mg "NoFit" = some (.ref (He.ga K "NoFit")) := T.glo (T.c.fact 28 rfl)
theorem Tx.s_FIGURES (T : Tx K mg) : ∃ t, mg "FIGURES" = some (.str "0123456789" t) := T.str (T.c.fact 30 rfl)
theorem Tx.s_LETTERS (T : Tx K mg) : ∃ t, mg "LETTERS" = some (.str "abcdefghijklmnopqrstuvwxyz" t) := T.str (T.c.fact 31 rfl)
theorem Tx.i_LONGEST_NAME (T : Tx K mg) : ∃ t, mg "LONGEST_NAME" = some (.int 8 t) := T.int (T.c.fact 32 rfl)
theorem Tx.g_is_name (T : Tx K mg) : mg "is_name" = some (.ref (He.ga K "is_name")) := T.glo (T.c.fact 33 rfl)
theorem Tx.g_refuse_no_name (T : Tx K mg) : mg "refuse_no_name" = some (.ref (He.ga K "refuse_no_name")) := T.glo (T.c.fact 34 rfl)
theorem Tx.g_refuse_twice (T : Tx K mg) : mg "refuse_twice" = some (.ref (He.ga K "refuse_twice")) := T.glo (T.c.fact 35 rfl)
theorem Tx.i_MOST_ROWS (T : Tx K mg) : ∃ t, mg "MOST_ROWS" = some (.int 40 t) := T.int (T.c.fact 36 rfl)
theorem Tx.i_MOST_OPTIONS_OF_ONE (T : Tx K mg) : ∃ t, mg "MOST_OPTIONS_OF_ONE" = some (.int 6 t) := T.int (T.c.fact 37 rfl)
theorem Tx.i_MOST_OPTIONS_OF_SOME (T : Tx K mg) : ∃ t, mg "MOST_OPTIONS_OF_SOME" = some (.int 4 t) := T.int (T.c.fact 38 rfl)
theorem Tx.i_MOST_ROUNDS (T : Tx K mg) : ∃ t, mg "MOST_ROUNDS" = some (.int 4 t) := T.int (T.c.fact 39 rfl)
theorem Tx.g_One (T : Tx K mg) : mg "One" = some (.ref (He.ga K "One")) := T.glo (T.c.fact 42 rfl)
theorem Tx.g_Some (T : Tx K mg) : mg "Some" = some (.ref (He.ga K "Some")) := T.glo (T.c.fact 44 rfl)
theorem Tx.g_Number (T : Tx K mg) : mg "Number" = some (.ref (He.ga K "Number")) := T.glo (T.c.fact 46 rfl)
theorem Tx.g_Check (T : Tx K mg) : mg "Check" = some (.ref (He.ga K "Check")) := T.glo (T.c.fact 48 rfl)
theorem Tx.g_Section (T : Tx K mg) : mg "Section" = some (.ref (He.ga K "Section")) := T.glo (T.c.fact 50 rfl)
theorem Tx.g_Rounds (T : Tx K mg) : mg "Rounds" = some (.ref (He.ga K "Rounds")) := T.glo (T.c.fact 52 rfl)
theorem Tx.g_Form (T : Tx K mg) : mg "Form" = some (.ref (He.ga K "Form")) := T.glo (T.c.fact 54 rfl)
theorem Tx.g_is_question (T : Tx K mg) : mg "is_question" = some (.ref (He.ga K "is_question")) := T.glo (T.c.fact 56 rfl)
theorem Tx.g_is_named (T : Tx K mg) : mg "is_named" = some (.ref (He.ga K "is_named")) := T.glo (T.c.fact 57 rfl)
theorem Tx.g_lay_out (T : Tx K mg) : mg "lay_out" = some (.ref (He.ga K "lay_out")) := T.glo (T.c.fact 58 rfl)
theorem Tx.g_check_rows (T : Tx K mg) : mg "check_rows" = some (.ref (He.ga K "check_rows")) := T.glo (T.c.fact 59 rfl)
theorem Tx.g_check_row (T : Tx K mg) : mg "check_row" = some (.ref (He.ga K "check_row")) := T.glo (T.c.fact 60 rfl)
theorem Tx.g_check_name (T : Tx K mg) : mg "check_name" = some (.ref (He.ga K "check_name")) := T.glo (T.c.fact 61 rfl)
theorem Tx.g_check_options (T : Tx K mg) : mg "check_options" = some (.ref (He.ga K "check_options")) := T.glo (T.c.fact 62 rfl)
theorem Tx.g_refuse_options (T : Tx K mg) : mg "refuse_options" = some (.ref (He.ga K "refuse_options")) := T.glo (T.c.fact 63 rfl)
theorem Tx.g_check_bounds (T : Tx K mg) : mg "check_bounds" = some (.ref (He.ga K "check_bounds")) := T.glo (T.c.fact 64 rfl)
theorem Tx.g_check_inner_rows (T : Tx K mg) : mg "check_inner_rows" = some (.ref (He.ga K "check_inner_rows")) := T.glo (T.c.fact 65 rfl)
theorem Tx.g_check_count (T : Tx K mg) : mg "check_count" = some (.ref (He.ga K "check_count")) := T.glo (T.c.fact 66 rfl)
theorem Tx.g_check_conditions (T : Tx K mg) : mg "check_conditions" = some (.ref (He.ga K "check_conditions")) := T.glo (T.c.fact 67 rfl)
theorem Tx.g_conditions_of (T : Tx K mg) : mg "conditions_of" = some (.ref (He.ga K "conditions_of")) := T.glo (T.c.fact 68 rfl)
theorem Tx.g_question_ahead (T : Tx K mg) : mg "question_ahead" = some (.ref (He.ga K "question_ahead")) := T.glo (T.c.fact 69 rfl)
theorem Tx.g_suits (T : Tx K mg) : mg "suits" = some (.ref (He.ga K "suits")) := T.glo (T.c.fact 70 rfl)
theorem Tx.g_is_answer (T : Tx K mg) : mg "is_answer" = some (.ref (He.ga K "is_answer")) := T.glo (T.c.fact 71 rfl)
theorem Tx.g_chosen_in_order (T : Tx K mg) : mg "chosen_in_order" = some (.ref (He.ga K "chosen_in_order")) := T.glo (T.c.fact 72 rfl)
theorem Tx.g_is_number (T : Tx K mg) : mg "is_number" = some (.ref (He.ga K "is_number")) := T.glo (T.c.fact 73 rfl)
theorem Tx.g_Walk (T : Tx K mg) : mg "Walk" = some (.ref (He.ga K "Walk")) := T.glo (T.c.fact 74 rfl)
theorem Tx.g_Road (T : Tx K mg) : mg "Road" = some (.ref (He.ga K "Road")) := T.glo (T.c.fact 76 rfl)
theorem Tx.g_walked (T : Tx K mg) : mg "walked" = some (.ref (He.ga K "walked")) := T.glo (T.c.fact 78 rfl)
theorem Tx.g_end_in_rows (T : Tx K mg) : mg "end_in_rows" = some (.ref (He.ga K "end_in_rows")) := T.glo (T.c.fact 79 rfl)
theorem Tx.g_end_at_row (T : Tx K mg) : mg "end_at_row" = some (.ref (He.ga K "end_at_row")) := T.glo (T.c.fact 80 rfl)
theorem Tx.g_end_at_question (T : Tx K mg) : mg "end_at_question" = some (.ref (He.ga K "end_at_question")) := T.glo (T.c.fact 81 rfl)
theorem Tx.g_end_in_rounds (T : Tx K mg) : mg "end_in_rounds" = some (.ref (He.ga K "end_in_rounds")) := T.glo (T.c.fact 82 rfl)
theorem Tx.g_holds (T : Tx K mg) : mg "holds" = some (.ref (He.ga K "holds")) := T.glo (T.c.fact 83 rfl)
theorem Tx.g_spoken_answer (T : Tx K mg) : mg "spoken_answer" = some (.ref (He.ga K "spoken_answer")) := T.glo (T.c.fact 84 rfl)
theorem Tx.g_holds_of (T : Tx K mg) : mg "holds_of" = some (.ref (He.ga K "holds_of")) := T.glo (T.c.fact 85 rfl)
theorem Tx.g__law_state (T : Tx K mg) : mg "_law_state" = some (.ref (He.ga K "_law_state")) := T.glo (T.c.fact 87 rfl)
theorem Tx.g__law_digit (T : Tx K mg) : mg "_law_digit" = some (.ref (He.ga K "_law_digit")) := T.glo (T.c.fact 88 rfl)
theorem Tx.g__law_simple (T : Tx K mg) : mg "_law_simple" = some (.ref (He.ga K "_law_simple")) := T.glo (T.c.fact 89 rfl)
theorem Tx.g__law_held (T : Tx K mg) : mg "_law_held" = some (.ref (He.ga K "_law_held")) := T.glo (T.c.fact 90 rfl)
theorem Tx.g__law_made_row (T : Tx K mg) : mg "_law_made_row" = some (.ref (He.ga K "_law_made_row")) := T.glo (T.c.fact 91 rfl)
theorem Tx.g__law_made (T : Tx K mg) : mg "_law_made" = some (.ref (He.ga K "_law_made")) := T.glo (T.c.fact 92 rfl)
theorem Tx.g__law_holds (T : Tx K mg) : mg "_law_holds" = some (.ref (He.ga K "_law_holds")) := T.glo (T.c.fact 93 rfl)
theorem Tx.g__law_fits (T : Tx K mg) : mg "_law_fits" = some (.ref (He.ga K "_law_fits")) := T.glo (T.c.fact 94 rfl)
theorem Tx.g__law_gone (T : Tx K mg) : mg "_law_gone" = some (.ref (He.ga K "_law_gone")) := T.glo (T.c.fact 95 rfl)
theorem Tx.g__law_inside (T : Tx K mg) : mg "_law_inside" = some (.ref (He.ga K "_law_inside")) := T.glo (T.c.fact 96 rfl)
theorem Tx.g__law_walk (T : Tx K mg) : mg "_law_walk" = some (.ref (He.ga K "_law_walk")) := T.glo (T.c.fact 97 rfl)
theorem Tx.g__law_questions (T : Tx K mg) : mg "_law_questions" = some (.ref (He.ga K "_law_questions")) := T.glo (T.c.fact 98 rfl)
theorem Tx.g__law_answer (T : Tx K mg) : mg "_law_answer" = some (.ref (He.ga K "_law_answer")) := T.glo (T.c.fact 99 rfl)
theorem Tx.g__law_wide (T : Tx K mg) : mg "_law_wide" = some (.ref (He.ga K "_law_wide")) := T.glo (T.c.fact 100 rfl)
theorem Tx.g__law_tag (T : Tx K mg) : mg "_law_tag" = some (.ref (He.ga K "_law_tag")) := T.glo (T.c.fact 101 rfl)
theorem Tx.g__law_more (T : Tx K mg) : mg "_law_more" = some (.ref (He.ga K "_law_more")) := T.glo (T.c.fact 102 rfl)
theorem Tx.g__law_great_rows (T : Tx K mg) : mg "_law_great_rows" = some (.ref (He.ga K "_law_great_rows")) := T.glo (T.c.fact 103 rfl)
theorem Tx.g__law_facts (T : Tx K mg) : mg "_law_facts" = some (.ref (He.ga K "_law_facts")) := T.glo (T.c.fact 104 rfl)
theorem Tx.g_law (T : Tx K mg) : mg "law" = some (.ref (He.ga K "law")) := T.glo (T.c.fact 105 rfl)
theorem Tx.z_abs (T : Tx K mg) : mg "abs" = none := T.free (T.c.fact 106 rfl)
theorem Tx.z_all (T : Tx K mg) : mg "all" = none := T.free (T.c.fact 107 rfl)
theorem Tx.z_bool (T : Tx K mg) : mg "bool" = none := T.free (T.c.fact 108 rfl)
theorem Tx.z_int (T : Tx K mg) : mg "int" = none := T.free (T.c.fact 109 rfl)
theorem Tx.z_isinstance (T : Tx K mg) : mg "isinstance" = none := T.free (T.c.fact 110 rfl)
theorem Tx.z_len (T : Tx K mg) : mg "len" = none := T.free (T.c.fact 111 rfl)
theorem Tx.z_list (T : Tx K mg) : mg "list" = none := T.free (T.c.fact 112 rfl)
theorem Tx.z_range (T : Tx K mg) : mg "range" = none := T.free (T.c.fact 113 rfl)
theorem Tx.z_set (T : Tx K mg) : mg "set" = none := T.free (T.c.fact 114 rfl)
theorem Tx.z_str (T : Tx K mg) : mg "str" = none := T.free (T.c.fact 115 rfl)
theorem Tx.z_tuple (T : Tx K mg) : mg "tuple" = none := T.free (T.c.fact 116 rfl)
theorem Tx.cl_Is (T : Tx K mg) : Cls K (He.ga K "Is") := He.cls_ok (x := "Is") (T.c.fact 117 rfl)
theorem Tx.mk_Is (T : Tx K mg) : Mk K (He.ga K "Is") (He.ma K (He.ga K "Is") "__init__") := He.mkr_ok (x := "Is") (T.c.fact 118 rfl)
theorem Tx.n_Is_name (T : Tx K mg) : NoAttr K (He.ga K "Is") "name" := He.noat_ok (x := "Is") (f := "name") (T.c.fact 119 rfl)
theorem Tx.n_Is_option (T : Tx K mg) : NoAttr K (He.ga K "Is") "option" := He.noat_ok (x := "Is") (f := "option") (T.c.fact 120 rfl)
theorem Tx.cl_Has (T : Tx K mg) : Cls K (He.ga K "Has") := He.cls_ok (x := "Has") (T.c.fact 123 rfl)
theorem Tx.mk_Has (T : Tx K mg) : Mk K (He.ga K "Has") (He.ma K (He.ga K "Has") "__init__") := He.mkr_ok (x := "Has") (T.c.fact 124 rfl)
theorem Tx.n_Has_name (T : Tx K mg) : NoAttr K (He.ga K "Has") "name" := He.noat_ok (x := "Has") (f := "name") (T.c.fact 125 rfl)
theorem Tx.n_Has_option (T : Tx K mg) : NoAttr K (He.ga K "Has") "option" := He.noat_ok (x := "Has") (f := "option") (T.c.fact 126 rfl)
theorem Tx.cl_Above (T : Tx K mg) : Cls K (He.ga K "Above") := He.cls_ok (x := "Above") (T.c.fact 129 rfl)
theorem Tx.mk_Above (T : Tx K mg) : Mk K (He.ga K "Above") (He.ma K (He.ga K "Above") "__init__") := He.mkr_ok (x := "Above") (T.c.fact 130 rfl)
theorem Tx.n_Above_name (T : Tx K mg) : NoAttr K (He.ga K "Above") "name" := He.noat_ok (x := "Above") (f := "name") (T.c.fact 131 rfl)
theorem Tx.n_Above_number (T : Tx K mg) : NoAttr K (He.ga K "Above") "number" := He.noat_ok (x := "Above") (f := "number") (T.c.fact 132 rfl)
theorem Tx.cl_Below (T : Tx K mg) : Cls K (He.ga K "Below") := He.cls_ok (x := "Below") (T.c.fact 135 rfl)
theorem Tx.mk_Below (T : Tx K mg) : Mk K (He.ga K "Below") (He.ma K (He.ga K "Below") "__init__") := He.mkr_ok (x := "Below") (T.c.fact 136 rfl)
theorem Tx.n_Below_name (T : Tx K mg) : NoAttr K (He.ga K "Below") "name" := He.noat_ok (x := "Below") (f := "name") (T.c.fact 137 rfl)
theorem Tx.n_Below_number (T : Tx K mg) : NoAttr K (He.ga K "Below") "number" := He.noat_ok (x := "Below") (f := "number") (T.c.fact 138 rfl)
theorem Tx.cl_Not (T : Tx K mg) : Cls K (He.ga K "Not") := He.cls_ok (x := "Not") (T.c.fact 141 rfl)
theorem Tx.mk_Not (T : Tx K mg) : Mk K (He.ga K "Not") (He.ma K (He.ga K "Not") "__init__") := He.mkr_ok (x := "Not") (T.c.fact 142 rfl)
theorem Tx.n_Not_inner (T : Tx K mg) : NoAttr K (He.ga K "Not") "inner" := He.noat_ok (x := "Not") (f := "inner") (T.c.fact 143 rfl)
theorem Tx.cl_Both (T : Tx K mg) : Cls K (He.ga K "Both") := He.cls_ok (x := "Both") (T.c.fact 146 rfl)
theorem Tx.mk_Both (T : Tx K mg) : Mk K (He.ga K "Both") (He.ma K (He.ga K "Both") "__init__") := He.mkr_ok (x := "Both") (T.c.fact 147 rfl)
theorem Tx.n_Both_left (T : Tx K mg) : NoAttr K (He.ga K "Both") "left" := He.noat_ok (x := "Both") (f := "left") (T.c.fact 148 rfl)
theorem Tx.n_Both_right (T : Tx K mg) : NoAttr K (He.ga K "Both") "right" := He.noat_ok (x := "Both") (f := "right") (T.c.fact 149 rfl)
theorem Tx.cl_Either (T : Tx K mg) : Cls K (He.ga K "Either") := He.cls_ok (x := "Either") (T.c.fact 152 rfl)
theorem Tx.mk_Either (T : Tx K mg) : Mk K (He.ga K "Either") (He.ma K (He.ga K "Either") "__init__") := He.mkr_ok (x := "Either") (T.c.fact 153 rfl)
theorem Tx.n_Either_left (T : Tx K mg) : NoAttr K (He.ga K "Either") "left" := He.noat_ok (x := "Either") (f := "left") (T.c.fact 154 rfl)
theorem Tx.n_Either_right (T : Tx K mg) : NoAttr K (He.ga K "Either") "right" := He.noat_ok (x := "Either") (f := "right") (T.c.fact 155 rfl)
theorem Tx.n_BadCount_what (T : Tx K mg) : NoAttr K (He.ga K "BadCount") "what" := He.noat_ok (x := "BadCount") (f := "what") (T.c.fact 158 rfl)
theorem Tx.n_BadCount_count (T : Tx K mg) : NoAttr K (He.ga K "BadCount") "count" := He.noat_ok (x := "BadCount") (f := "count") (T.c.fact 159 rfl)
theorem Tx.m_BadCount_init (T : Tx K mg) : Meth K (He.ga K "BadCount") "__init__" (He.ma K (He.ga K "BadCount") "__init__") := He.meth_ok (x := "BadCount") (m := "__init__") (T.c.fact 160 rfl)
theorem Tx.n_NoName_name (T : Tx K mg) : NoAttr K (He.ga K "NoName") "name" := He.noat_ok (x := "NoName") (f := "name") (T.c.fact 161 rfl)
theorem Tx.m_NoName_init (T : Tx K mg) : Meth K (He.ga K "NoName") "__init__" (He.ma K (He.ga K "NoName") "__init__") := He.meth_ok (x := "NoName") (m := "__init__") (T.c.fact 162 rfl)
theorem Tx.n_Twice_name (T : Tx K mg) : NoAttr K (He.ga K "Twice") "name" := He.noat_ok (x := "Twice") (f := "name") (T.c.fact 163 rfl)
theorem Tx.m_Twice_init (T : Tx K mg) : Meth K (He.ga K "Twice") "__init__" (He.ma K (He.ga K "Twice") "__init__") := He.meth_ok (x := "Twice") (m := "__init__") (T.c.fact 164 rfl)
theorem Tx.n_NoQuestion_name (T : Tx K mg) : NoAttr K (He.ga K "NoQuestion") "name" := He.noat_ok (x := "NoQuestion") (f := "name") (T.c.fact 165 rfl)
theorem Tx.m_NoQuestion_init (T : Tx K mg) : Meth K (He.ga K "NoQuestion") "__init__" (He.ma K (He.ga K "NoQuestion") "__init__") := He.meth_ok (x := "NoQuestion") (m := "__init__") (T.c.fact 166 rfl)
theorem Tx.n_NoFit_name (T : Tx K mg) : NoAttr K (He.ga K "NoFit") "name" := He.noat_ok (x := "NoFit") (f := "name") (T.c.fact 167 rfl)
theorem Tx.m_NoFit_init (T : Tx K mg) : Meth K (He.ga K "NoFit") "__init__" (He.ma K (He.ga K "NoFit") "__init__") := He.meth_ok (x := "NoFit") (m := "__init__") (T.c.fact 168 rfl)
theorem Tx.cl_One (T : Tx K mg) : Cls K (He.ga K "One") := He.cls_ok (x := "One") (T.c.fact 169 rfl)
theorem Tx.mk_One (T : Tx K mg) : Mk K (He.ga K "One") (He.ma K (He.ga K "One") "__init__") := He.mkr_ok (x := "One") (T.c.fact 170 rfl)
theorem Tx.n_One_name (T : Tx K mg) : NoAttr K (He.ga K "One") "name" := He.noat_ok (x := "One") (f := "name") (T.c.fact 171 rfl)
theorem Tx.n_One_options (T : Tx K mg) : NoAttr K (He.ga K "One") "options" := He.noat_ok (x := "One") (f := "options") (T.c.fact 172 rfl)
theorem Tx.n_One_where (T : Tx K mg) : NoAttr K (He.ga K "One") "where" := He.noat_ok (x := "One") (f := "where") (T.c.fact 173 rfl)
theorem Tx.cl_Some (T : Tx K mg) : Cls K (He.ga K "Some") := He.cls_ok (x := "Some") (T.c.fact 176 rfl)
theorem Tx.mk_Some (T : Tx K mg) : Mk K (He.ga K "Some") (He.ma K (He.ga K "Some") "__init__") := He.mkr_ok (x := "Some") (T.c.fact 177 rfl)
theorem Tx.n_Some_name (T : Tx K mg) : NoAttr K (He.ga K "Some") "name" := He.noat_ok (x := "Some") (f := "name") (T.c.fact 178 rfl)
theorem Tx.n_Some_options (T : Tx K mg) : NoAttr K (He.ga K "Some") "options" := He.noat_ok (x := "Some") (f := "options") (T.c.fact 179 rfl)
theorem Tx.n_Some_where (T : Tx K mg) : NoAttr K (He.ga K "Some") "where" := He.noat_ok (x := "Some") (f := "where") (T.c.fact 180 rfl)
theorem Tx.cl_Number (T : Tx K mg) : Cls K (He.ga K "Number") := He.cls_ok (x := "Number") (T.c.fact 183 rfl)
theorem Tx.mk_Number (T : Tx K mg) : Mk K (He.ga K "Number") (He.ma K (He.ga K "Number") "__init__") := He.mkr_ok (x := "Number") (T.c.fact 184 rfl)
theorem Tx.n_Number_name (T : Tx K mg) : NoAttr K (He.ga K "Number") "name" := He.noat_ok (x := "Number") (f := "name") (T.c.fact 185 rfl)
theorem Tx.n_Number_low (T : Tx K mg) : NoAttr K (He.ga K "Number") "low" := He.noat_ok (x := "Number") (f := "low") (T.c.fact 186 rfl)
theorem Tx.n_Number_high (T : Tx K mg) : NoAttr K (He.ga K "Number") "high" := He.noat_ok (x := "Number") (f := "high") (T.c.fact 187 rfl)
theorem Tx.n_Number_where (T : Tx K mg) : NoAttr K (He.ga K "Number") "where" := He.noat_ok (x := "Number") (f := "where") (T.c.fact 188 rfl)
theorem Tx.cl_Check (T : Tx K mg) : Cls K (He.ga K "Check") := He.cls_ok (x := "Check") (T.c.fact 191 rfl)
theorem Tx.mk_Check (T : Tx K mg) : Mk K (He.ga K "Check") (He.ma K (He.ga K "Check") "__init__") := He.mkr_ok (x := "Check") (T.c.fact 192 rfl)
theorem Tx.n_Check_name (T : Tx K mg) : NoAttr K (He.ga K "Check") "name" := He.noat_ok (x := "Check") (f := "name") (T.c.fact 193 rfl)
theorem Tx.n_Check_must (T : Tx K mg) : NoAttr K (He.ga K "Check") "must" := He.noat_ok (x := "Check") (f := "must") (T.c.fact 194 rfl)
theorem Tx.n_Check_where (T : Tx K mg) : NoAttr K (He.ga K "Check") "where" := He.noat_ok (x := "Check") (f := "where") (T.c.fact 195 rfl)
theorem Tx.cl_Section (T : Tx K mg) : Cls K (He.ga K "Section") := He.cls_ok (x := "Section") (T.c.fact 198 rfl)
theorem Tx.mk_Section (T : Tx K mg) : Mk K (He.ga K "Section") (He.ma K (He.ga K "Section") "__init__") := He.mkr_ok (x := "Section") (T.c.fact 199 rfl)
theorem Tx.n_Section_rows (T : Tx K mg) : NoAttr K (He.ga K "Section") "rows" := He.noat_ok (x := "Section") (f := "rows") (T.c.fact 200 rfl)
theorem Tx.n_Section_where (T : Tx K mg) : NoAttr K (He.ga K "Section") "where" := He.noat_ok (x := "Section") (f := "where") (T.c.fact 201 rfl)
theorem Tx.cl_Rounds (T : Tx K mg) : Cls K (He.ga K "Rounds") := He.cls_ok (x := "Rounds") (T.c.fact 204 rfl)
theorem Tx.mk_Rounds (T : Tx K mg) : Mk K (He.ga K "Rounds") (He.ma K (He.ga K "Rounds") "__init__") := He.mkr_ok (x := "Rounds") (T.c.fact 205 rfl)
theorem Tx.n_Rounds_count (T : Tx K mg) : NoAttr K (He.ga K "Rounds") "count" := He.noat_ok (x := "Rounds") (f := "count") (T.c.fact 206 rfl)
theorem Tx.n_Rounds_rows (T : Tx K mg) : NoAttr K (He.ga K "Rounds") "rows" := He.noat_ok (x := "Rounds") (f := "rows") (T.c.fact 207 rfl)
theorem Tx.n_Rounds_where (T : Tx K mg) : NoAttr K (He.ga K "Rounds") "where" := He.noat_ok (x := "Rounds") (f := "where") (T.c.fact 208 rfl)
theorem Tx.cl_Form (T : Tx K mg) : Cls K (He.ga K "Form") := He.cls_ok (x := "Form") (T.c.fact 211 rfl)
theorem Tx.mk_Form (T : Tx K mg) : Mk K (He.ga K "Form") (He.ma K (He.ga K "Form") "__init__") := He.mkr_ok (x := "Form") (T.c.fact 212 rfl)
theorem Tx.n_Form_rows (T : Tx K mg) : NoAttr K (He.ga K "Form") "rows" := He.noat_ok (x := "Form") (f := "rows") (T.c.fact 213 rfl)
theorem Tx.n_Form_questions (T : Tx K mg) : NoAttr K (He.ga K "Form") "questions" := He.noat_ok (x := "Form") (f := "questions") (T.c.fact 214 rfl)
theorem Tx.n_Form_repeated (T : Tx K mg) : NoAttr K (He.ga K "Form") "repeated" := He.noat_ok (x := "Form") (f := "repeated") (T.c.fact 215 rfl)
theorem Tx.m_Form_names (T : Tx K mg) : Meth K (He.ga K "Form") "names" (He.ma K (He.ga K "Form") "names") := He.meth_ok (x := "Form") (m := "names") (T.c.fact 219 rfl)
theorem Tx.m_Form_in_rounds (T : Tx K mg) : Meth K (He.ga K "Form") "in_rounds" (He.ma K (He.ga K "Form") "in_rounds") := He.meth_ok (x := "Form") (m := "in_rounds") (T.c.fact 221 rfl)
theorem Tx.cl_Walk (T : Tx K mg) : Cls K (He.ga K "Walk") := He.cls_ok (x := "Walk") (T.c.fact 222 rfl)
theorem Tx.mk_Walk (T : Tx K mg) : Mk K (He.ga K "Walk") (He.ma K (He.ga K "Walk") "__init__") := He.mkr_ok (x := "Walk") (T.c.fact 223 rfl)
theorem Tx.n_Walk_word (T : Tx K mg) : NoAttr K (He.ga K "Walk") "word" := He.noat_ok (x := "Walk") (f := "word") (T.c.fact 224 rfl)
theorem Tx.n_Walk_spot (T : Tx K mg) : NoAttr K (He.ga K "Walk") "spot" := He.noat_ok (x := "Walk") (f := "spot") (T.c.fact 225 rfl)
theorem Tx.n_Walk_asked (T : Tx K mg) : NoAttr K (He.ga K "Walk") "asked" := He.noat_ok (x := "Walk") (f := "asked") (T.c.fact 226 rfl)
theorem Tx.n_Walk_counted (T : Tx K mg) : NoAttr K (He.ga K "Walk") "counted" := He.noat_ok (x := "Walk") (f := "counted") (T.c.fact 227 rfl)
theorem Tx.cl_Road (T : Tx K mg) : Cls K (He.ga K "Road") := He.cls_ok (x := "Road") (T.c.fact 229 rfl)
theorem Tx.mk_Road (T : Tx K mg) : Mk K (He.ga K "Road") (He.ma K (He.ga K "Road") "__init__") := He.mkr_ok (x := "Road") (T.c.fact 230 rfl)
theorem Tx.n_Road_form (T : Tx K mg) : NoAttr K (He.ga K "Road") "form" := He.noat_ok (x := "Road") (f := "form") (T.c.fact 231 rfl)
theorem Tx.n_Road_answers (T : Tx K mg) : NoAttr K (He.ga K "Road") "answers" := He.noat_ok (x := "Road") (f := "answers") (T.c.fact 232 rfl)
theorem Tx.n_Road_asked (T : Tx K mg) : NoAttr K (He.ga K "Road") "asked" := He.noat_ok (x := "Road") (f := "asked") (T.c.fact 233 rfl)
theorem Tx.n_Road_counted (T : Tx K mg) : NoAttr K (He.ga K "Road") "counted" := He.noat_ok (x := "Road") (f := "counted") (T.c.fact 234 rfl)
theorem Tx.f_Is_init (T : Tx K mg) : ∃ fd, FunD K "__init__" "Is.__init__" (defArgs s_Is_init) (defBody s_Is_init) (defScope s_Is_init) [] [] (He.ma K (He.ga K "Is") "__init__") fd := T.c.def_ 1 (d := D.d_Is_init) rfl
theorem Tx.f_Has_init (T : Tx K mg) : ∃ fd, FunD K "__init__" "Has.__init__" (defArgs s_Has_init) (defBody s_Has_init) (defScope s_Has_init) [] [] (He.ma K (He.ga K "Has") "__init__") fd := T.c.def_ 3 (d := D.d_Has_init) rfl
theorem Tx.f_Above_init (T : Tx K mg) : ∃ fd, FunD K "__init__" "Above.__init__" (defArgs s_Above_init) (defBody s_Above_init) (defScope s_Above_init) [] [] (He.ma K (He.ga K "Above") "__init__") fd := T.c.def_ 5 (d := D.d_Above_init) rfl
theorem Tx.f_Below_init (T : Tx K mg) : ∃ fd, FunD K "__init__" "Below.__init__" (defArgs s_Below_init) (defBody s_Below_init) (defScope s_Below_init) [] [] (He.ma K (He.ga K "Below") "__init__") fd := T.c.def_ 7 (d := D.d_Below_init) rfl
theorem Tx.f_Not_init (T : Tx K mg) : ∃ fd, FunD K "__init__" "Not.__init__" (defArgs s_Not_init) (defBody s_Not_init) (defScope s_Not_init) [] [] (He.ma K (He.ga K "Not") "__init__") fd := T.c.def_ 9 (d := D.d_Not_init) rfl
theorem Tx.f_Both_init (T : Tx K mg) : ∃ fd, FunD K "__init__" "Both.__init__" (defArgs s_Both_init) (defBody s_Both_init) (defScope s_Both_init) [] [] (He.ma K (He.ga K "Both") "__init__") fd := T.c.def_ 11 (d := D.d_Both_init) rfl
theorem Tx.f_Either_init (T : Tx K mg) : ∃ fd, FunD K "__init__" "Either.__init__" (defArgs s_Either_init) (defBody s_Either_init) (defScope s_Either_init) [] [] (He.ma K (He.ga K "Either") "__init__") fd := T.c.def_ 13 (d := D.d_Either_init) rfl
theorem Tx.f_simple_ones (T : Tx K mg) : ∃ fd, FunD K "simple_ones" "simple_ones" (defArgs s_simple_ones) (defBody s_simple_ones) (defScope s_simple_ones) [] [] (He.ga K "simple_ones") fd := T.c.def_ 15 (d := D.d_simple_ones) rfl
theorem Tx.f_BadCount_init (T : Tx K mg) : ∃ fd, FunD K "__init__" "BadCount.__init__" (defArgs s_BadCount_init) (defBody s_BadCount_init) (defScope s_BadCount_init) [] [] (He.ma K (He.ga K "BadCount") "__init__") fd := T.c.def_ 17 (d := D.d_BadCount_init) rfl
theorem Tx.f_NoName_init (T : Tx K mg) : ∃ fd, FunD K "__init__" "NoName.__init__" (defArgs s_NoName_init) (defBody s_NoName_init) (defScope s_NoName_init) [] [] (He.ma K (He.ga K "NoName") "__init__") fd := T.c.def_ 19 (d := D.d_NoName_init) rfl
theorem Tx.f_Twice_init (T : Tx K mg) : ∃ fd, FunD K "__init__" "Twice.__init__" (defArgs s_Twice_init) (defBody s_Twice_init) (defScope s_Twice_init) [] [] (He.ma K (He.ga K "Twice") "__init__") fd := T.c.def_ 21 (d := D.d_Twice_init) rfl
theorem Tx.f_NoQuestion_init (T : Tx K mg) : ∃ fd, FunD K "__init__" "NoQuestion.__init__" (defArgs s_NoQuestion_init) (defBody s_NoQuestion_init) (defScope s_NoQuestion_init) [] [] (He.ma K (He.ga K "NoQuestion") "__init__") fd := T.c.def_ 23 (d := D.d_NoQuestion_init) rfl
theorem Tx.f_NoFit_init (T : Tx K mg) : ∃ fd, FunD K "__init__" "NoFit.__init__" (defArgs s_NoFit_init) (defBody s_NoFit_init) (defScope s_NoFit_init) [] [] (He.ma K (He.ga K "NoFit") "__init__") fd := T.c.def_ 25 (d := D.d_NoFit_init) rfl
theorem Tx.f_is_name (T : Tx K mg) : ∃ fd, FunD K "is_name" "is_name" (defArgs s_is_name) (defBody s_is_name) (defScope s_is_name) [] [] (He.ga K "is_name") fd := T.c.def_ 27 (d := D.d_is_name) rfl
theorem Tx.f_refuse_no_name (T : Tx K mg) : ∃ fd, FunD K "refuse_no_name" "refuse_no_name" (defArgs s_refuse_no_name) (defBody s_refuse_no_name) (defScope s_refuse_no_name) [] [] (He.ga K "refuse_no_name") fd := T.c.def_ 28 (d := D.d_refuse_no_name) rfl
theorem Tx.f_refuse_twice (T : Tx K mg) : ∃ fd, FunD K "refuse_twice" "refuse_twice" (defArgs s_refuse_twice) (defBody s_refuse_twice) (defScope s_refuse_twice) [] [] (He.ga K "refuse_twice") fd := T.c.def_ 29 (d := D.d_refuse_twice) rfl
theorem Tx.f_One_init (T : Tx K mg) : ∃ fd, FunD K "__init__" "One.__init__" (defArgs s_One_init) (defBody s_One_init) (defScope s_One_init) [] [("where", V.non)] (He.ma K (He.ga K "One") "__init__") fd := T.c.def_ 30 (d := D.d_One_init) rfl
theorem Tx.f_Some_init (T : Tx K mg) : ∃ fd, FunD K "__init__" "Some.__init__" (defArgs s_Some_init) (defBody s_Some_init) (defScope s_Some_init) [] [("where", V.non)] (He.ma K (He.ga K "Some") "__init__") fd := T.c.def_ 32 (d := D.d_Some_init) rfl
theorem Tx.f_Number_init (T : Tx K mg) : ∃ fd, FunD K "__init__" "Number.__init__" (defArgs s_Number_init) (defBody s_Number_init) (defScope s_Number_init) [] [("where", V.non)] (He.ma K (He.ga K "Number") "__init__") fd := T.c.def_ 34 (d := D.d_Number_init) rfl
theorem Tx.f_Check_init (T : Tx K mg) : ∃ fd, FunD K "__init__" "Check.__init__" (defArgs s_Check_init) (defBody s_Check_init) (defScope s_Check_init) [] [("where", V.non)] (He.ma K (He.ga K "Check") "__init__") fd := T.c.def_ 36 (d := D.d_Check_init) rfl
theorem Tx.f_Section_init (T : Tx K mg) : ∃ fd, FunD K "__init__" "Section.__init__" (defArgs s_Section_init) (defBody s_Section_init) (defScope s_Section_init) [] [("where", V.non)] (He.ma K (He.ga K "Section") "__init__") fd := T.c.def_ 38 (d := D.d_Section_init) rfl
theorem Tx.f_Rounds_init (T : Tx K mg) : ∃ fd, FunD K "__init__" "Rounds.__init__" (defArgs s_Rounds_init) (defBody s_Rounds_init) (defScope s_Rounds_init) [] [("where", V.non)] (He.ma K (He.ga K "Rounds") "__init__") fd := T.c.def_ 40 (d := D.d_Rounds_init) rfl
theorem Tx.f_Form_init (T : Tx K mg) : ∃ fd, FunD K "__init__" "Form.__init__" (defArgs s_Form_init) (defBody s_Form_init) (defScope s_Form_init) [] [] (He.ma K (He.ga K "Form") "__init__") fd := T.c.def_ 42 (d := D.d_Form_init) rfl
theorem Tx.f_Form_names (T : Tx K mg) : ∃ fd, FunD K "names" "Form.names" (defArgs s_Form_names) (defBody s_Form_names) (defScope s_Form_names) [] [] (He.ma K (He.ga K "Form") "names") fd := T.c.def_ 45 (d := D.d_Form_names) rfl
theorem Tx.f_Form_in_rounds (T : Tx K mg) : ∃ fd, FunD K "in_rounds" "Form.in_rounds" (defArgs s_Form_in_rounds) (defBody s_Form_in_rounds) (defScope s_Form_in_rounds) [] [] (He.ma K (He.ga K "Form") "in_rounds") fd := T.c.def_ 47 (d := D.d_Form_in_rounds) rfl
theorem Tx.f_is_question (T : Tx K mg) : ∃ fd, FunD K "is_question" "is_question" (defArgs s_is_question) (defBody s_is_question) (defScope s_is_question) [] [] (He.ga K "is_question") fd := T.c.def_ 48 (d := D.d_is_question) rfl
theorem Tx.f_is_named (T : Tx K mg) : ∃ fd, FunD K "is_named" "is_named" (defArgs s_is_named) (defBody s_is_named) (defScope s_is_named) [] [] (He.ga K "is_named") fd := T.c.def_ 49 (d := D.d_is_named) rfl
theorem Tx.f_lay_out (T : Tx K mg) : ∃ fd, FunD K "lay_out" "lay_out" (defArgs s_lay_out) (defBody s_lay_out) (defScope s_lay_out) [] [] (He.ga K "lay_out") fd := T.c.def_ 50 (d := D.d_lay_out) rfl
theorem Tx.f_check_rows (T : Tx K mg) : ∃ fd, FunD K "check_rows" "check_rows" (defArgs s_check_rows) (defBody s_check_rows) (defScope s_check_rows) [] [] (He.ga K "check_rows") fd := T.c.def_ 51 (d := D.d_check_rows) rfl
theorem Tx.f_check_row (T : Tx K mg) : ∃ fd, FunD K "check_row" "check_row" (defArgs s_check_row) (defBody s_check_row) (defScope s_check_row) [] [] (He.ga K "check_row") fd := T.c.def_ 52 (d := D.d_check_row) rfl
theorem Tx.f_check_name (T : Tx K mg) : ∃ fd, FunD K "check_name" "check_name" (defArgs s_check_name) (defBody s_check_name) (defScope s_check_name) [] [] (He.ga K "check_name") fd := T.c.def_ 53 (d := D.d_check_name) rfl
theorem Tx.f_check_options (T : Tx K mg) : ∃ fd, FunD K "check_options" "check_options" (defArgs s_check_options) (defBody s_check_options) (defScope s_check_options) [] [] (He.ga K "check_options") fd := T.c.def_ 54 (d := D.d_check_options) rfl
theorem Tx.f_refuse_options (T : Tx K mg) : ∃ fd, FunD K "refuse_options" "refuse_options" (defArgs s_refuse_options) (defBody s_refuse_options) (defScope s_refuse_options) [] [] (He.ga K "refuse_options") fd := T.c.def_ 55 (d := D.d_refuse_options) rfl
theorem Tx.f_check_bounds (T : Tx K mg) : ∃ fd, FunD K "check_bounds" "check_bounds" (defArgs s_check_bounds) (defBody s_check_bounds) (defScope s_check_bounds) [] [] (He.ga K "check_bounds") fd := T.c.def_ 56 (d := D.d_check_bounds) rfl
theorem Tx.f_check_inner_rows (T : Tx K mg) : ∃ fd, FunD K "check_inner_rows" "check_inner_rows" (defArgs s_check_inner_rows) (defBody s_check_inner_rows) (defScope s_check_inner_rows) [] [] (He.ga K "check_inner_rows") fd := T.c.def_ 57 (d := D.d_check_inner_rows) rfl
theorem Tx.f_check_count (T : Tx K mg) : ∃ fd, FunD K "check_count" "check_count" (defArgs s_check_count) (defBody s_check_count) (defScope s_check_count) [] [] (He.ga K "check_count") fd := T.c.def_ 58 (d := D.d_check_count) rfl
theorem Tx.f_check_conditions (T : Tx K mg) : ∃ fd, FunD K "check_conditions" "check_conditions" (defArgs s_check_conditions) (defBody s_check_conditions) (defScope s_check_conditions) [] [] (He.ga K "check_conditions") fd := T.c.def_ 59 (d := D.d_check_conditions) rfl
theorem Tx.f_conditions_of (T : Tx K mg) : ∃ fd, FunD K "conditions_of" "conditions_of" (defArgs s_conditions_of) (defBody s_conditions_of) (defScope s_conditions_of) [] [] (He.ga K "conditions_of") fd := T.c.def_ 60 (d := D.d_conditions_of) rfl
theorem Tx.f_question_ahead (T : Tx K mg) : ∃ fd, FunD K "question_ahead" "question_ahead" (defArgs s_question_ahead) (defBody s_question_ahead) (defScope s_question_ahead) [] [] (He.ga K "question_ahead") fd := T.c.def_ 61 (d := D.d_question_ahead) rfl
theorem Tx.f_suits (T : Tx K mg) : ∃ fd, FunD K "suits" "suits" (defArgs s_suits) (defBody s_suits) (defScope s_suits) [] [] (He.ga K "suits") fd := T.c.def_ 62 (d := D.d_suits) rfl
theorem Tx.f_is_answer (T : Tx K mg) : ∃ fd, FunD K "is_answer" "is_answer" (defArgs s_is_answer) (defBody s_is_answer) (defScope s_is_answer) [] [] (He.ga K "is_answer") fd := T.c.def_ 63 (d := D.d_is_answer) rfl
theorem Tx.f_chosen_in_order (T : Tx K mg) : ∃ fd, FunD K "chosen_in_order" "chosen_in_order" (defArgs s_chosen_in_order) (defBody s_chosen_in_order) (defScope s_chosen_in_order) [] [] (He.ga K "chosen_in_order") fd := T.c.def_ 64 (d := D.d_chosen_in_order) rfl
theorem Tx.f_is_number (T : Tx K mg) : ∃ fd, FunD K "is_number" "is_number" (defArgs s_is_number) (defBody s_is_number) (defScope s_is_number) [] [] (He.ga K "is_number") fd := T.c.def_ 65 (d := D.d_is_number) rfl
theorem Tx.f_Walk_init (T : Tx K mg) : ∃ fd, FunD K "__init__" "Walk.__init__" (defArgs s_Walk_init) (defBody s_Walk_init) (defScope s_Walk_init) [] [] (He.ma K (He.ga K "Walk") "__init__") fd := T.c.def_ 66 (d := D.d_Walk_init) rfl
theorem Tx.f_Road_init (T : Tx K mg) : ∃ fd, FunD K "__init__" "Road.__init__" (defArgs s_Road_init) (defBody s_Road_init) (defScope s_Road_init) [] [] (He.ma K (He.ga K "Road") "__init__") fd := T.c.def_ 67 (d := D.d_Road_init) rfl
theorem Tx.f_walked (T : Tx K mg) : ∃ fd, FunD K "walked" "walked" (defArgs s_walked) (defBody s_walked) (defScope s_walked) [] [] (He.ga K "walked") fd := T.c.def_ 68 (d := D.d_walked) rfl
theorem Tx.f_end_in_rows (T : Tx K mg) : ∃ fd, FunD K "end_in_rows" "end_in_rows" (defArgs s_end_in_rows) (defBody s_end_in_rows) (defScope s_end_in_rows) [] [] (He.ga K "end_in_rows") fd := T.c.def_ 69 (d := D.d_end_in_rows) rfl
theorem Tx.f_end_at_row (T : Tx K mg) : ∃ fd, FunD K "end_at_row" "end_at_row" (defArgs s_end_at_row) (defBody s_end_at_row) (defScope s_end_at_row) [] [] (He.ga K "end_at_row") fd := T.c.def_ 70 (d := D.d_end_at_row) rfl
theorem Tx.f_end_at_question (T : Tx K mg) : ∃ fd, FunD K "end_at_question" "end_at_question" (defArgs s_end_at_question) (defBody s_end_at_question) (defScope s_end_at_question) [] [] (He.ga K "end_at_question") fd := T.c.def_ 71 (d := D.d_end_at_question) rfl
theorem Tx.f_end_in_rounds (T : Tx K mg) : ∃ fd, FunD K "end_in_rounds" "end_in_rounds" (defArgs s_end_in_rounds) (defBody s_end_in_rounds) (defScope s_end_in_rounds) [] [] (He.ga K "end_in_rounds") fd := T.c.def_ 72 (d := D.d_end_in_rounds) rfl
theorem Tx.f_holds (T : Tx K mg) : ∃ fd, FunD K "holds" "holds" (defArgs s_holds) (defBody s_holds) (defScope s_holds) [] [] (He.ga K "holds") fd := T.c.def_ 73 (d := D.d_holds) rfl
theorem Tx.f_spoken_answer (T : Tx K mg) : ∃ fd, FunD K "spoken_answer" "spoken_answer" (defArgs s_spoken_answer) (defBody s_spoken_answer) (defScope s_spoken_answer) [] [] (He.ga K "spoken_answer") fd := T.c.def_ 74 (d := D.d_spoken_answer) rfl
theorem Tx.f_holds_of (T : Tx K mg) : ∃ fd, FunD K "holds_of" "holds_of" (defArgs s_holds_of) (defBody s_holds_of) (defScope s_holds_of) [] [] (He.ga K "holds_of") fd := T.c.def_ 75 (d := D.d_holds_of) rfl
theorem Tx.f__law_state (T : Tx K mg) : ∃ fd, FunD K "_law_state" "_law_state" (defArgs s__law_state) (defBody s__law_state) (defScope s__law_state) [] [] (He.ga K "_law_state") fd := T.c.def_ 77 (d := D.d__law_state) rfl
theorem Tx.f__law_digit (T : Tx K mg) : ∃ fd, FunD K "_law_digit" "_law_digit" (defArgs s__law_digit) (defBody s__law_digit) (defScope s__law_digit) [] [] (He.ga K "_law_digit") fd := T.c.def_ 78 (d := D.d__law_digit) rfl
theorem Tx.f__law_simple (T : Tx K mg) : ∃ fd, FunD K "_law_simple" "_law_simple" (defArgs s__law_simple) (defBody s__law_simple) (defScope s__law_simple) [] [] (He.ga K "_law_simple") fd := T.c.def_ 79 (d := D.d__law_simple) rfl
theorem Tx.f__law_held (T : Tx K mg) : ∃ fd, FunD K "_law_held" "_law_held" (defArgs s__law_held) (defBody s__law_held) (defScope s__law_held) [] [] (He.ga K "_law_held") fd := T.c.def_ 80 (d := D.d__law_held) rfl
theorem Tx.f__law_made_row (T : Tx K mg) : ∃ fd, FunD K "_law_made_row" "_law_made_row" (defArgs s__law_made_row) (defBody s__law_made_row) (defScope s__law_made_row) [] [] (He.ga K "_law_made_row") fd := T.c.def_ 81 (d := D.d__law_made_row) rfl
theorem Tx.f__law_made (T : Tx K mg) : ∃ fd, FunD K "_law_made" "_law_made" (defArgs s__law_made) (defBody s__law_made) (defScope s__law_made) [] [] (He.ga K "_law_made") fd := T.c.def_ 82 (d := D.d__law_made) rfl
theorem Tx.f__law_holds (T : Tx K mg) : ∃ fd, FunD K "_law_holds" "_law_holds" (defArgs s__law_holds) (defBody s__law_holds) (defScope s__law_holds) [] [] (He.ga K "_law_holds") fd := T.c.def_ 83 (d := D.d__law_holds) rfl
theorem Tx.f__law_fits (T : Tx K mg) : ∃ fd, FunD K "_law_fits" "_law_fits" (defArgs s__law_fits) (defBody s__law_fits) (defScope s__law_fits) [] [] (He.ga K "_law_fits") fd := T.c.def_ 84 (d := D.d__law_fits) rfl
theorem Tx.f__law_gone (T : Tx K mg) : ∃ fd, FunD K "_law_gone" "_law_gone" (defArgs s__law_gone) (defBody s__law_gone) (defScope s__law_gone) [] [] (He.ga K "_law_gone") fd := T.c.def_ 85 (d := D.d__law_gone) rfl
theorem Tx.f__law_inside (T : Tx K mg) : ∃ fd, FunD K "_law_inside" "_law_inside" (defArgs s__law_inside) (defBody s__law_inside) (defScope s__law_inside) [] [] (He.ga K "_law_inside") fd := T.c.def_ 86 (d := D.d__law_inside) rfl
theorem Tx.f__law_walk (T : Tx K mg) : ∃ fd, FunD K "_law_walk" "_law_walk" (defArgs s__law_walk) (defBody s__law_walk) (defScope s__law_walk) [] [] (He.ga K "_law_walk") fd := T.c.def_ 87 (d := D.d__law_walk) rfl
theorem Tx.f__law_questions (T : Tx K mg) : ∃ fd, FunD K "_law_questions" "_law_questions" (defArgs s__law_questions) (defBody s__law_questions) (defScope s__law_questions) [] [] (He.ga K "_law_questions") fd := T.c.def_ 88 (d := D.d__law_questions) rfl
theorem Tx.f__law_answer (T : Tx K mg) : ∃ fd, FunD K "_law_answer" "_law_answer" (defArgs s__law_answer) (defBody s__law_answer) (defScope s__law_answer) [] [] (He.ga K "_law_answer") fd := T.c.def_ 89 (d := D.d__law_answer) rfl
theorem Tx.f__law_wide (T : Tx K mg) : ∃ fd, FunD K "_law_wide" "_law_wide" (defArgs s__law_wide) (defBody s__law_wide) (defScope s__law_wide) [] [] (He.ga K "_law_wide") fd := T.c.def_ 90 (d := D.d__law_wide) rfl
theorem Tx.f__law_tag (T : Tx K mg) : ∃ fd, FunD K "_law_tag" "_law_tag" (defArgs s__law_tag) (defBody s__law_tag) (defScope s__law_tag) [] [] (He.ga K "_law_tag") fd := T.c.def_ 91 (d := D.d__law_tag) rfl
theorem Tx.f__law_more (T : Tx K mg) : ∃ fd, FunD K "_law_more" "_law_more" (defArgs s__law_more) (defBody s__law_more) (defScope s__law_more) [] [] (He.ga K "_law_more") fd := T.c.def_ 92 (d := D.d__law_more) rfl
theorem Tx.f__law_great_rows (T : Tx K mg) : ∃ fd, FunD K "_law_great_rows" "_law_great_rows" (defArgs s__law_great_rows) (defBody s__law_great_rows) (defScope s__law_great_rows) [] [] (He.ga K "_law_great_rows") fd := T.c.def_ 93 (d := D.d__law_great_rows) rfl
theorem Tx.f__law_facts (T : Tx K mg) : ∃ fd, FunD K "_law_facts" "_law_facts" (defArgs s__law_facts) (defBody s__law_facts) (defScope s__law_facts) [] [] (He.ga K "_law_facts") fd := T.c.def_ 94 (d := D.d__law_facts) rfl
theorem Tx.f_law (T : Tx K mg) : ∃ fd, FunD K "law" "law" (defArgs s_law) (defBody s_law) (defScope s_law) [] [] (He.ga K "law") fd := T.c.def_ 95 (d := D.d_law) rfl
end
end K3
end A0_part
section V0_part
set_option Elab.async false
set_option linter.all false
set_option maxRecDepth 100000
set_option maxHeartbeats 0
namespace L2
open PySem PySem.Spec PyProof.Rows
/-! ### a def and its promise, for all callers -/
structure Ok (P : Program) (w : World) (K : PySem.W.Frag) (mg : Str → Option Value) (base : Heap) (k : Nat) (f : Addr) (ps : List Str) (sp : Sp) : Prop where
  run : ∃ fd, FnOk P w K mg base (L2.CX P w) k f fd ps sp ∧ Binds K fd ps [] ∧ PySem.W.keepIn K (.ref f) = true
section
variable {X : Cx} {k : Nat} {f : Addr} {ps : List Str} {sp : Sp} {x : Str} {e : Expr} {es : List Expr} {p pos : Pos} {t : TA}
/-- f(e, ..), nothing is raised -/
theorem pe_f (O : Ok X.prog X.w X.K X.mg X.base k f ps sp) (hr : Room k X.A) (hm : X.mg x = some (.ref f)) (ha : PA X (e :: es) t) (hg : Gl X x := by rfl) (hdb : (x == ("__debug__" : Str)) = false := by decide)
    (he : starEach (e :: es) X.env = (false, eval e X.env) :: starEach es X.env := by rfl) (hpl : (backTo pos (starEach es X.env)).any (·.1) = false := by rfl) :
    PE X (.Call (.Name x p) (e :: es) [] pos) (tCall sp [] E0 t) := by
  obtain ⟨fd, F, b, kp⟩ := O.run
  exact pe_call F hr hg hm kp b .nil passL ha hdb he hpl
/-- f(e, ..), what is raised is wished for by W at the slots -/
theorem pe_fE {W : WX} (tk : Takes X W) (O : Ok X.prog X.w X.K X.mg X.base k f ps sp) (hr : Room k X.A) (hm : X.mg x = some (.ref f)) (ha : PA X (e :: es) t) (hg : Gl X x := by rfl) (hdb : (x == ("__debug__" : Str)) = false := by decide)
    (he : starEach (e :: es) X.env = (false, eval e X.env) :: starEach es X.env := by rfl) (hpl : (backTo pos (starEach es X.env)).any (·.1) = false := by rfl) :
    PE X (.Call (.Name x p) (e :: es) [] pos) (tCallS sp (WE W) t) := by
  obtain ⟨fd, F, b, kp⟩ := O.run
  exact pe_callS F hr hg hm kp b (fun σ => passAt tk σ) ha hdb he hpl
theorem pe_gint {i : Int} (hm : ∃ t, X.mg x = some (.int i t)) (hg : Gl X x := by rfl) (hd : (x == ("__debug__" : Str)) = false := by decide) : PE X (.Name x pos) (tC (.int i)) := by
  obtain ⟨t, h⟩ := hm
  exact pe_glob hg h ⟨_, rfl⟩ hd
theorem pe_gstr {i : Str} (hm : ∃ t, X.mg x = some (.str i t)) (hg : Gl X x := by rfl) (hd : (x == ("__debug__" : Str)) = false := by decide) : PE X (.Name x pos) (tC (.str i)) := by
  obtain ⟨t, h⟩ := hm
  exact pe_glob hg h ⟨_, rfl⟩ hd
theorem pe_gref {a : Addr} (hm : X.mg x = some (.ref a)) (hg : Gl X x := by rfl) (hd : (x == ("__debug__" : Str)) = false := by decide) : PE X (.Name x pos) (tC (.ref a)) := pe_glob hg hm rfl hd
end
/-! ### readings, step by step -/
section
variable {σ : St} {H : Hp} {D : Ends} {t u : TS} {te ta tb tc : TE} {tt tt2 : TT} {tr : TA} {Q : VK} {QB : Bool → Hp → Prop} {QA : List V → Hp → Prop} {i : Nat} {v x y : V}
theorem w_seq (h : t { D with nx := u D } σ H) : tSeq t u D σ H := h
theorem w_next (h : D.nx σ H) : tNext D σ H := h
theorem w_set (h : te σ H fun x H1 => D.nx (σ.set i (some x)) H1) : tAsg te (gName i) D σ H := h
theorem w_drop (h : te σ H fun _ H1 => D.nx σ H1) : tDrop te D σ H := h
theorem w_ret (h : te σ H D.rt) : tRet te D σ H := h
theorem w_retN (h : D.rt .non H) : tRetN D σ H := h
theorem w_if (h : tt σ H fun b H1 => if b = true then t D σ H1 else u D σ H1) : tIfS tt t u D σ H := h
theorem w_var (h : σ[i]? = some (some v)) (q : Q v H) : tVar i σ H Q := ⟨v, h, q⟩
theorem w_c (q : Q v H) : tC v σ H Q := q
theorem w_nil (q : QA [] H) : tNil σ H QA := q
theorem w_cons (h : te σ H fun x H1 => tr σ H1 fun xs H2 => QA (x :: xs) H2) : tCons te tr σ H QA := h
theorem w_op {r : R2} (h : ta σ H fun x H1 => tb σ H1 fun y H2 => r x y H2 Q) : tOp r ta tb σ H Q := h
theorem w_un {r : V → Hp → VK → Prop} (h : ta σ H fun x H1 => r x H1 Q) : tUn r ta σ H Q := h
theorem w_test (h : te σ H fun x H' => ∃ k, x = .bl k ∧ QB k H') : tTest te σ H QB := h
theorem w_tB (h : te σ H fun x H' => ∃ k, x = .bl k ∧ QB k H') : tB te σ H QB := h
theorem w_not (h : tt σ H fun c H1 => QB (!c) H1) : tNot tt σ H QB := h
theorem w_and (h : tt σ H fun c H1 => if c = true then tt2 σ H1 QB else QB false H1) : tAnd tt tt2 σ H QB := h
theorem w_or (h : tt σ H fun c H1 => if c = true then QB true H1 else tt2 σ H1 QB) : tOr tt tt2 σ H QB := h
theorem w_bl {b : Bool} {P : Bool → Prop} (h : P b) : ∃ k, V.bl b = .bl k ∧ P k := ⟨b, rfl, h⟩
theorem w_nT {A B : Prop} (h : B) : if (!true) = true then A else B := iteF h
theorem w_nF {A B : Prop} (h : A) : if (!false) = true then A else B := iteT h
theorem w_andV (h : ta σ H fun x H1 => ∃ c, x = .bl c ∧ if c = true then tb σ H1 Q else Q (.bl false) H1) : tAndV ta tb σ H Q := h
theorem w_orV (h : ta σ H fun x H1 => ∃ c, x = .bl c ∧ if c = true then Q (.bl true) H1 else tb σ H1 Q) : tOrV ta tb σ H Q := h
theorem w_notV (h : ta σ H fun x H1 => ∃ c, x = .bl c ∧ Q (.bl (!c)) H1) : tNotV ta σ H Q := h
theorem w_ifE (h : tt σ H fun c H1 => if c = true then ta σ H1 Q else tb σ H1 Q) : tIf tt ta tb σ H Q := h
theorem w_chain {r r' : R2} (h : ta σ H fun x H1 => tb σ H1 fun y H2 => r x y H2 fun z H3 => ∃ k, z = .bl k ∧ (if k = true then tc σ H3 fun w' H4 => r' y w' H4 Q else Q (.bl false) H3)) : tChain r r' ta tb tc σ H Q := h
theorem w_i0 {g : Int → Int → V} {i j : Int} (h : Q (g i j) H) : rI0 g (.int i) (.int j) H Q := ⟨i, j, rfl, rfl, h⟩
theorem w_i {C : Int → Int → Prop} {g : Int → Int → V} {i j : Int} (c : C i j) (h : Q (g i j) H) : rI C g (.int i) (.int j) H Q := ⟨i, j, rfl, rfl, c, h⟩
theorem w_call {sp : Sp} {dvs : List V} {E : XK} (h : tr σ H fun vs H1 => sp (vs ++ dvs) H1 Q E) : tCall sp dvs E tr σ H Q := h
theorem w_callS {sp : Sp} {E : St → XK} (h : tr σ H fun vs H1 => sp vs H1 Q (E σ)) : tCallS sp E tr σ H Q := h
theorem w_cB {r : List V → Hp → VK → Prop} (h : tr σ H fun vs H1 => r vs H1 Q) : tCB r tr σ H Q := h
theorem w_tup (h : tr σ H fun xs H1 => xs.length ≤ sizeLine ∧ ∀ p, H1 p = none → Q (.ref p) (upd H1 p (.tup xs))) : tTup tr σ H Q := h
theorem w_lst (h : tr σ H fun xs H1 => xs.length ≤ sizeLine ∧ ∀ p, H1 p = none → Q (.ref p) (upd H1 p (.lst xs))) : tLst tr σ H Q := h
theorem w_fldV {K : PySem.W.Frag} {f : Str} (h : ta σ H fun x H1 => ∃ a C dx fs v, x = .ref a ∧ H1 a = some (.ins C dx fs) ∧ Cls K C ∧ NoAttr K C f ∧ fs.lookup f = some v ∧ Q v H1) : tFld K ta f σ H Q := h
theorem w_neF {A B : Prop} {a b : Bool} (h : if b = true then A else B) : if (if false = true then a else b) = true then A else B := by
  rw [if_neg Bool.false_ne_true]
  exact h
theorem w_neT {A B : Prop} {a b : Bool} (h : if a = true then A else B) : if (if true = true then a else b) = true then A else B := by
  rw [if_pos (rfl : true = true)]
  exact h
theorem w_yes (h : QB true H) : tYes σ H QB := h
theorem w_notN (h : ta σ H fun x H1 => Q (.bl (!decide (x = .non))) H1) : tNotN ta σ H Q := h
theorem w_isN (h : ta σ H fun x H1 => Q (.bl (decide (x = .non))) H1) : tIsN ta σ H Q := h
theorem w_gname {QS : L2.St → Hp → Prop} (h : QS (σ.set i (some v)) H) : gName i v σ H QS := h
theorem w_gsub {to ti : TE} {t : TSet} {QS : L2.St → Hp → Prop} (h : to σ H fun o H1 => ti σ H1 fun i H2 => t o i v H2 fun H3 => QS σ H3) : gSub to ti t v σ H QS := h
theorem w_asg {g : TG} (h : te σ H fun x H1 => g x σ H1 D.nx) : tAsg te g D σ H := h
theorem w_ixL {K : PySem.W.Frag} {p : Addr} {xs : List V} {i : Int} (hl : H p = some (.lst xs)) (ha : atI xs i = some v) (h : Q v H) : rIxL K (.ref p) (.int i) H Q := ⟨p, xs, i, v, rfl, rfl, SqL.of hl, ha, h⟩
theorem w_ixT {K : PySem.W.Frag} {p : Addr} {xs : List V} {i : Int} (hl : SqT K H p xs) (ha : atI xs i = some v) (h : Q v H) : rIxT K (.ref p) (.int i) H Q := ⟨p, xs, i, v, rfl, rfl, hl, ha, h⟩
theorem w_setL {p : Addr} {xs : List V} {i : Int} {j : Nat} {QH : Hp → Prop} (hl : H p = some (.lst xs)) (hj : ixN xs.length i = some j) (h : QH (upd H p (.lst (xs.set j v)))) : rSetL (.ref p) (.int i) v H QH := ⟨p, xs, i, j, rfl, rfl, hl, hj, h⟩
theorem w_iteT {A B : Prop} (h : A) : if true = true then A else B := iteT h
theorem w_iteF {A B : Prop} (h : B) : if false = true then A else B := iteF h
end
end L2
namespace L2
open PySem PySem.Spec PyProof.Rows
theorem Same.new {H : Hp} {p : Addr} (h : H p = none) (o : HO) : Same H (upd H p o) := fun b u q => by rw [upd_ne (ne_of_none q h)]; exact q
theorem Same.at {H H' : Hp} (s : Same H H') {a : Addr} {o : HO} (h : H a = some o) : H' a = some o := s _ _ h
/-- an object that H does not know may change -/
theorem Same.mut {H H' : Hp} {p : Addr} {o : HO} (e : Same H H') (h : H p = none) : Same H (upd H' p o) := fun a u ha => by
  rw [upd_ne (ne_of_none ha h)]
  exact e a u ha
theorem Same.sqt {K : PySem.W.Frag} {H H' : Hp} {a : Addr} {xs : List V} (e : Same H H') (h : SqT K H a xs) : SqT K H' a xs := by
  rcases h with (h | ⟨o, h⟩) | h
  · exact .inl (.inl (e _ _ h))
  · exact .inl (.inr ⟨o, e _ _ h⟩)
  · exact .inr h
/-- instances and tuples stand -/
def keepF : List (Str × V) → Bool
  | [] => false
  | [(f, _)] => decide (f = ("inner" : Str))
  | [_, (g, _)] => !decide (g = ("questions" : Str))
  | _ => true
def keepO : HO → Bool
  | .ins _ _ fs => keepF fs
  | .tup _ => true
  | .frz _ _ => true
  | _ => false
def SI (H H' : Hp) : Prop := ∀ b o, keepO o = true → H b = some o → H' b = some o
theorem Same.si {H H' : Hp} (e : Same H H') : SI H H' := fun b o _ h => e b o h
theorem SI.trans {H H1 H2 : Hp} (a : SI H H1) (b : SI H1 H2) : SI H H2 := fun c o k h => b c o k (a c o k h)
theorem SI.refl (H : Hp) : SI H H := fun _ _ _ h => h
theorem SI.upd {H : Hp} {p : Addr} {u : HO} (h : H p = some u) (hu : keepO u = false) (o : HO) : SI H (upd H p o) := fun b o' k q => by
  rw [upd_ne (fun z => by rw [z, h] at q; rw [← Option.some.inj q, hu] at k; cases k)]
  exact q
theorem SI.sqt {K : PySem.W.Frag} {H H' : Hp} {a : Addr} {xs : List V} (e : SI H H') (h : SqT K H a xs) : SqT K H' a xs := by
  rcases h with (h | ⟨o, h⟩) | h
  · exact .inl (.inl (e _ _ rfl h))
  · exact .inl (.inr ⟨o, e _ _ rfl h⟩)
  · exact .inr h
/-- [te for c in z]: each element is f c -/
theorem lc_strF {z : Str} {f : Nat → V} {σ : St} {i : Nat} {vs : List Nat} {ta te : TE} {H : Hp} {Q : VK} (ha : ∀ (Q : VK), Q (.str z) H → ta σ H Q) (hz : z.cps.size ≤ 1000) (hw : ∀ x, wipe ((wipe σ vs).set i (some x)) vs = wipe σ vs)
    (he : ∀ (c : Nat) (H' : Hp) (Q : VK), Same H H' → Q (f c) H' → te ((wipe σ vs).set i (some (.str ⟨#[c]⟩))) H' Q)
    (q : ∀ (p : Addr) (H' : Hp), H p = none → Same H H' → H' p = some (.lst (z.cps.toList.map f)) → Q (.ref p) H') : tLc (iStr ta) (gName i) tYes te vs σ H Q := by
  refine ha _ ⟨z, rfl, fun p hp => ?_⟩
  refine lc_it (n := z.cps.size) walk_str (fun n H' => Same H H' ∧ H' p = some (.lst ((z.cps.toList.take n).map f))) ⟨Same.new hp _, upd_same⟩ (fun _ _ _ _ => trivial) ?_ ?_
  · rintro n x H1 H2 hn ⟨s1, e1⟩ ⟨rfl, c, hc, rfl⟩
    refine ⟨hw _, ?_⟩
    refine w_yes ?_
    refine w_iteT ?_
    refine (he c _ _ s1 ⟨_, e1, ?_, s1.mut hp, ?_⟩)
    · rw [List.length_map, List.length_take, Array.length_toList]
      exact Nat.lt_of_lt_of_le (Nat.lt_of_le_of_lt (Nat.min_le_left _ _) (Nat.lt_of_lt_of_le hn hz)) (by decide)
    · rw [upd_same, List.take_add_one]
      have : z.cps.toList[n]? = some c := by rw [Array.getElem?_toList]; exact hc
      rw [this]
      simp
  · rintro H' ⟨s1, e1⟩
    refine q p H' hp s1 ?_
    rw [e1, List.take_of_length_le (by rw [Array.length_toList] <;> exact Nat.le_refl _)]
end L2
end V0_part
section G0_part
set_option Elab.async false
set_option linter.all false
set_option maxRecDepth 100000
set_option maxHeartbeats 1000000
set_option pp.deepTerms true
open PySem PySem.Spec PyProof.Rows L2
/-- go on as far as nothing is open -/
local macro_rules | `(tactic| walk_at "go") => `(tactic| repeat (first
  | with_reducible refine w_seq ?_ | with_reducible refine w_next ?_ | with_reducible refine w_set ?_ | with_reducible refine w_drop ?_ | with_reducible refine w_ret ?_ | with_reducible refine w_retN ?_
  | with_reducible refine w_if ?_ | ((with_reducible refine' w_var ?hv ?_); (case hv => exact rfl)) | with_reducible refine w_c ?_ | with_reducible refine w_nil ?_ | with_reducible refine w_cons ?_ | with_reducible refine w_op ?_ | with_reducible refine w_un ?_
  | with_reducible refine w_test ?_ | with_reducible refine w_tB ?_ | with_reducible refine w_not ?_ | with_reducible refine w_and ?_ | with_reducible refine w_or ?_ | with_reducible refine w_bl ?_
  | with_reducible refine w_andV ?_ | with_reducible refine w_orV ?_ | with_reducible refine w_notV ?_ | with_reducible refine w_ifE ?_ | with_reducible refine w_chain ?_ | with_reducible refine w_i0 ?_
  | with_reducible refine w_call ?_ | with_reducible refine w_callS ?_ | with_reducible refine w_cB ?_ | with_reducible refine w_tup ?_ | with_reducible refine w_lst ?_ | with_reducible refine w_fldV ?_
  | with_reducible refine w_neF ?_ | with_reducible refine w_neT ?_ | with_reducible refine w_notN ?_ | with_reducible refine w_isN ?_ | with_reducible refine w_gname ?_ | with_reducible refine w_gsub ?_ | with_reducible refine w_asg ?_ | with_reducible refine w_yes ?_ | with_reducible refine w_nT ?_ | with_reducible refine w_nF ?_ | with_reducible refine w_iteT ?_ | with_reducible refine w_iteF ?_))
namespace L2
open PySem PySem.Spec PyProof.Rows
section
variable {σ : St} {H : Hp} {te : TE} {tl th : TO} {Q : VK} {QO : Option Int → Hp → Prop} {r : V → Option Int → Option Int → Hp → VK → Prop}
theorem w_sl (h : te σ H fun x H1 => tl σ H1 fun l H2 => th σ H2 fun u H3 => r x l u H3 Q) : tSl r te tl th σ H Q := h
theorem w_noP (h : QO none H) : tNoPart σ H QO := h
theorem w_part (h : te σ H fun x H1 => ∃ i, x = .int i ∧ QO (some i) H1) : tPart te σ H QO := h
theorem w_int1 {i : Int} {P : Int → Prop} (h : P i) : ∃ j, V.int i = .int j ∧ P j := ⟨i, rfl, h⟩
end
end L2
namespace K3
/-! ### heaps less what may change -/
def less (H : Hp) (M : List Addr) : Hp := fun b => if b ∈ M then none else H b
/-- all stands, what is in M perhaps changed -/
def BM (M : List Addr) (H H' : Hp) : Prop := ∀ b o, H b = some o → ∃ o', H' b = some o' ∧ (b ∉ M → o' = o)
theorem BM.refl (M : List Addr) (H : Hp) : BM M H H := fun _ o h => ⟨o, h, fun _ => rfl⟩
theorem BM.trans {M : List Addr} {H H1 H2 : Hp} (a : BM M H H1) (b : BM M H1 H2) : BM M H H2 := fun c o h => by
  obtain ⟨o1, h1, k1⟩ := a c o h
  obtain ⟨o2, h2, k2⟩ := b c o1 h1
  exact ⟨o2, h2, fun k => (k2 k).trans (k1 k)⟩
theorem BM.at {M : List Addr} {H H1 : Hp} (a : BM M H H1) {b : Addr} {o : HO} (h : H b = some o) (k : b ∉ M) : H1 b = some o := by
  obtain ⟨o1, h1, k1⟩ := a b o h
  rw [h1, k1 k]
theorem BM.of {M : List Addr} {H H1 : Hp} (a : Same H H1) : BM M H H1 := fun c o h => ⟨o, a c o h, fun _ => rfl⟩
theorem BM.mono {M N : List Addr} {H H1 : Hp} (a : BM M H H1) (s : ∀ b ∈ M, b ∈ N) : BM N H H1 := fun c o h => by
  obtain ⟨o1, h1, k1⟩ := a c o h
  exact ⟨o1, h1, fun k => k1 fun z => k (s c z)⟩
theorem BM.upd {M : List Addr} {H : Hp} {p : Addr} (hp : p ∈ M) (o : HO) : BM M H (upd H p o) := fun b u h => by
  by_cases c : b = p
  · exact ⟨o, by rw [c]; exact upd_same, fun k => absurd (by rw [c]; exact hp) k⟩
  · exact ⟨u, by rw [upd_ne c]; exact h, fun _ => rfl⟩
theorem BM.less {M : List Addr} {H H1 : Hp} (a : BM M H H1) : Same (less H M) (less H1 M) := fun b o h => by
  unfold K3.less at h ⊢
  by_cases c : b ∈ M
  · rw [if_pos c] at h; cases h
  · rw [if_neg c] at h ⊢
    exact a.at h c
theorem BM.free {M : List Addr} {H H1 : Hp} (h : BM M H H1) {p : Addr} (hp : H1 p = none) : H p = none := by
  cases e : H p with
  | none => rfl
  | some o =>
    obtain ⟨o1, h1, _⟩ := h p o e
    rw [hp] at h1
    cases h1
theorem less_at {H : Hp} {M : List Addr} {b : Addr} {o : HO} (h : less H M b = some o) : H b = some o ∧ b ∉ M := by
  unfold less at h
  by_cases c : b ∈ M
  · rw [if_pos c] at h; cases h
  · rw [if_neg c] at h; exact ⟨h, c⟩
theorem less_of {H : Hp} {M : List Addr} {b : Addr} {o : HO} (h : H b = some o) (c : b ∉ M) : less H M b = some o := by
  unfold less
  rw [if_neg c]
  exact h
/-- all of M is there -/
def In (M : List Addr) (H : Hp) : Prop := ∀ m ∈ M, ∃ o, H m = some o
theorem In.new {M : List Addr} {H : Hp} {p : Addr} (h : In M H) (hp : H p = none) : p ∉ M := fun z => by obtain ⟨o, e⟩ := h p z; rw [hp] at e; cases e
theorem In.bm {M N : List Addr} {H H' : Hp} (h : In M H) (e : BM N H H') : In M H' := fun m hm => by
  obtain ⟨o, q⟩ := h m hm
  obtain ⟨o', q', _⟩ := e m o q
  exact ⟨o', q'⟩
/-- the source of draws -/
def Src (H : Hp) (s : Addr) : Prop := ∃ a b c : Int, H s = some (.lst [.int a, .int b, .int c])
theorem Src.bm {M : List Addr} {H H' : Hp} {s : Addr} (h : Src H s) (e : BM M H H') (k : s ∉ M) : Src H' s := let ⟨a, b, c, q⟩ := h; ⟨a, b, c, e.at q k⟩
theorem Src.same {H H' : Hp} {s : Addr} (h : Src H s) (e : Same H H') : Src H' s := let ⟨a, b, c, q⟩ := h; ⟨a, b, c, e _ _ q⟩
theorem Paired.app {α β : Type} {F : α → β → Prop} : ∀ {l1 l3 : List α} {l2 l4 : List β}, Paired F l1 l2 → Paired F l3 l4 → Paired F (l1 ++ l3) (l2 ++ l4)
  | _, _, _, _, .nil, h => h
  | _, _, _, _, .cons a t, h => .cons a (Paired.app t h)
theorem Paired.get {α β : Type} {F : α → β → Prop} : ∀ {l1 : List α} {l2 : List β}, Paired F l1 l2 → ∀ {i : Nat} {x : α}, l1[i]? = some x → ∃ y, l2[i]? = some y ∧ F x y
  | _, _, .nil, i, x, h => by simp at h
  | _, _, .cons (a := a) (b := b) h t, 0, x, e => by
    have e' : a = x := by simpa using e
    subst e'
    exact ⟨b, rfl, h⟩
  | _, _, .cons h t, i + 1, x, e => Paired.get t (i := i) (by simpa using e)
theorem cut_to (xs : List V) (i : Nat) : cutV xs none (some (i : Int)) = xs.take i := by
  unfold cutV
  rw [HT.sIx_none, HT.sIx_nat, List.drop_zero, Nat.sub_zero]
  by_cases h : i ≤ xs.length
  · rw [Nat.min_eq_left h]
  · rw [Nat.min_eq_right (by omega), List.take_length, List.take_of_length_le (by omega)]
theorem less_upd {H : Hp} {M : List Addr} {p : Addr} (h : p ∈ M) (o : HO) : less (upd H p o) M = less H M := by
  funext b
  unfold K3.less
  by_cases c : b ∈ M
  · rw [if_pos c, if_pos c]
  · rw [if_neg c, if_neg c, upd_ne (fun z => c (by rw [z]; exact h))]
theorem less_sub {H : Hp} {M N : List Addr} (h : ∀ b ∈ M, b ∈ N) : Same (less H N) (less H M) := fun b o q => less_of (less_at q).1 fun z => (less_at q).2 (h b z)
end K3
end G0_part
section C1_part
set_option Elab.async false
set_option linter.all false
set_option maxRecDepth 100000
set_option maxHeartbeats 1000000
set_option pp.deepTerms true
open PySem PySem.Spec PyProof.Rows L2
/-- go on as far as nothing is open -/
local macro_rules | `(tactic| walk_at "go") => `(tactic| repeat (first
  | with_reducible refine w_seq ?_ | with_reducible refine w_next ?_ | with_reducible refine w_set ?_ | with_reducible refine w_drop ?_ | with_reducible refine w_ret ?_ | with_reducible refine w_retN ?_
  | with_reducible refine w_if ?_ | ((with_reducible refine' w_var ?hv ?_); (case hv => exact rfl)) | with_reducible refine w_c ?_ | with_reducible refine w_nil ?_ | with_reducible refine w_cons ?_ | with_reducible refine w_op ?_ | with_reducible refine w_un ?_
  | with_reducible refine w_test ?_ | with_reducible refine w_tB ?_ | with_reducible refine w_not ?_ | with_reducible refine w_and ?_ | with_reducible refine w_or ?_ | with_reducible refine w_bl ?_
  | with_reducible refine w_andV ?_ | with_reducible refine w_orV ?_ | with_reducible refine w_notV ?_ | with_reducible refine w_ifE ?_ | with_reducible refine w_chain ?_ | with_reducible refine w_i0 ?_
  | with_reducible refine w_call ?_ | with_reducible refine w_callS ?_ | with_reducible refine w_cB ?_ | with_reducible refine w_tup ?_ | with_reducible refine w_lst ?_ | with_reducible refine w_fldV ?_
  | with_reducible refine w_neF ?_ | with_reducible refine w_neT ?_ | with_reducible refine w_notN ?_ | with_reducible refine w_isN ?_ | with_reducible refine w_gname ?_ | with_reducible refine w_gsub ?_ | with_reducible refine w_asg ?_ | with_reducible refine w_sl ?_ | with_reducible refine w_noP ?_ | with_reducible refine w_int1 ?_ | with_reducible refine w_part ?_ | with_reducible refine w_yes ?_ | with_reducible refine w_nT ?_ | with_reducible refine w_nF ?_ | with_reducible refine w_iteT ?_ | with_reducible refine w_iteF ?_))
namespace K3
/-! ### tables -/
abbrev RowAt (H : Hp) (r : Addr) (row : List Int) : Prop := H r = some (.lst (row.map V.int))
structure Tab (H : Hp) (p : Addr) (rs : List Addr) (t : List (List Int)) : Prop where
  at_ : H p = some (.lst (rs.map V.ref))
  rows : Paired (RowAt H) rs t
theorem Tab.same {H H' : Hp} (e : Same H H') {p : Addr} {rs : List Addr} {t : List (List Int)} (h : Tab H p rs t) : Tab H' p rs t := ⟨e _ _ h.at_, L2.Paired.mapP h.rows fun _ _ z => e _ _ z⟩
theorem lc_open {wi : TI} {g : TG} {tt : TT} {te : TE} {vs : List Nat} {σ : L2.St} {H : Hp} {Q : VK} (h : wi σ H fun J H1 => ∀ D, H1 D = none → ∃ W : Nat → Nat → Hp → Prop, (∃ m, W 0 m (upd H1 D (.lst []))) ∧ ∀ i m H, W i m H →
    (J.stop i H ∧ Q (.ref D) H) ∨ (J.go i H ∧ ∃ Nx : Hp → Prop, (∀ H', Nx H' → ∃ m', m' < m ∧ W (i + 1) m' H') ∧ ∀ x H', J.yld i H x H' → g x (wipe σ vs) H' fun σ2 H2 => wipe σ2 vs = wipe σ vs ∧ tt σ2 H2 fun b H3 =>
      if b = true then te σ2 H3 fun y H4 => ∃ acc, H4 D = some (.lst acc) ∧ acc.length < sizeLine ∧ Nx (upd H4 D (.lst (acc ++ [y]))) else Nx H3)) : tLc wi g tt te vs σ H Q := h
theorem rng_open {ta : TA} {σ : L2.St} {H : Hp} {R : It → Hp → Prop} (h : ta σ H fun vs H1 => ∃ j : Int, vs = [.int j] ∧ -(2 ^ 62) ≤ j ∧ j < 2 ^ 62 ∧ R (Itr 0 j.toNat) H1) : iRng1 ta σ H R := h
theorem list_open {K : PySem.W.Frag} {tl : TE} {σ : L2.St} {H : Hp} {R : It → Hp → Prop} (h : tl σ H fun x H1 => ∃ a, x = .ref a ∧ (∃ xs, SqL K H1 a xs) ∧ R (Itl K a) H1) : iList K tl σ H R := h
theorem nodup_snoc {α : Type} {l : List α} {z : α} (h : l.Nodup) (hz : z ∉ l) : (l ++ [z]).Nodup := by
  rw [List.nodup_append]
  exact ⟨h, by simp, fun a ha b hb => by rw [List.mem_singleton.mp hb]; exact fun q => hz (q ▸ ha)⟩
end K3
namespace K3
def CellAt (H : Hp) (v : V) (c : Nat × Nat) : Prop := ∃ a, v = .ref a ∧ H a = some (.tup [.int (c.1 : Int), .int (c.2 : Int)])
theorem CellAt.same {H H' : Hp} (e : Same H H') {v : V} {c : Nat × Nat} (h : CellAt H v c) : CellAt H' v c := let ⟨a, h1, h2⟩ := h; ⟨a, h1, e _ _ h2⟩
end K3
namespace K3
theorem CellAt.bm {s : Addr} {H H' : Hp} (hs : Src H s) (e : BM [s] H H') {v : V} {c : Nat × Nat} (h : CellAt H v c) : CellAt H' v c := by
  obtain ⟨a, h1, h2⟩ := h
  refine ⟨a, h1, e.at h2 ?_⟩
  intro z
  obtain ⟨x, y, w, hs⟩ := hs
  rw [List.mem_singleton.mp z, hs] at h2
  cases h2
theorem BM.same {M : List Addr} {H H1 H2 : Hp} (a : BM M H H1) (b : Same H1 H2) : BM M H H2 := a.trans (BM.of b)
theorem BM.mut {M : List Addr} {H H' : Hp} {p : Addr} {o : HO} (e : BM M H H') (h : H p = none) : BM M H (L2.upd H' p o) := fun b u hb => by
  obtain ⟨o', h1, h2⟩ := e b u hb
  exact ⟨o', by rw [upd_ne (fun z => by rw [z, h] at hb; cases hb)]; exact h1, h2⟩
theorem Src.upd {H : Hp} {s p : Addr} (hs : Src H s) (ne : p ≠ s) (o : HO) : Src (L2.upd H p o) s := let ⟨a, b, c, h⟩ := hs; ⟨a, b, c, by rw [upd_ne ne.symm]; exact h⟩
end K3
namespace K3
theorem decV {i j : Int} : decide (V.int i = V.int j) = decide (i = j) := by
  by_cases h : i = j
  · rw [h]; simp
  · rw [decide_eq_false h, decide_eq_false (fun z => h (V.int.inj z))]
end K3
namespace K3
/-! ### a cell among cells -/
theorem Room.units65 {k : Nat} {A : Around} (h : Room k A) : A.units + 65 < cLine := Nat.lt_of_le_of_lt (by omega) h.un
end K3
namespace L2
open PySem PySem.Spec PyProof.Rows
end L2
namespace K3
theorem w_gtup {K : PySem.W.Frag} {n : Nat} {t : TGs} {a : Addr} {xs : List V} {σ : L2.St} {H : Hp} {Q : L2.St → Hp → Prop} (h1 : SqT K H a xs) (h2 : xs.length = n) (h : t xs σ H Q) : gTup K n t (.ref a) σ H Q := ⟨a, xs, rfl, h1, h2, h⟩
end K3
end C1_part
section E1_part
set_option Elab.async false
set_option linter.all false
set_option maxRecDepth 100000
set_option maxHeartbeats 1000000
set_option pp.deepTerms true
open PySem PySem.Spec PyProof.Rows L2
/-- go on as far as nothing is open -/
local macro_rules | `(tactic| walk_at "go") => `(tactic| repeat (first
  | with_reducible refine w_seq ?_ | with_reducible refine w_next ?_ | with_reducible refine w_set ?_ | with_reducible refine w_drop ?_ | with_reducible refine w_ret ?_ | with_reducible refine w_retN ?_
  | with_reducible refine w_if ?_ | ((with_reducible refine' w_var ?hv ?_); (case hv => exact rfl)) | with_reducible refine w_c ?_ | with_reducible refine w_nil ?_ | with_reducible refine w_cons ?_ | with_reducible refine w_op ?_ | with_reducible refine w_un ?_
  | with_reducible refine w_test ?_ | with_reducible refine w_tB ?_ | with_reducible refine w_not ?_ | with_reducible refine w_and ?_ | with_reducible refine w_or ?_ | with_reducible refine w_bl ?_
  | with_reducible refine w_andV ?_ | with_reducible refine w_orV ?_ | with_reducible refine w_notV ?_ | with_reducible refine w_ifE ?_ | with_reducible refine w_chain ?_ | with_reducible refine w_i0 ?_
  | with_reducible refine w_call ?_ | with_reducible refine w_callS ?_ | with_reducible refine w_cB ?_ | with_reducible refine w_tup ?_ | with_reducible refine w_lst ?_ | with_reducible refine w_fldV ?_
  | with_reducible refine w_neF ?_ | with_reducible refine w_neT ?_ | with_reducible refine w_notN ?_ | with_reducible refine w_isN ?_ | with_reducible refine w_gname ?_ | with_reducible refine w_gsub ?_ | with_reducible refine w_asg ?_ | with_reducible refine w_sl ?_ | with_reducible refine w_noP ?_ | with_reducible refine w_int1 ?_ | with_reducible refine w_part ?_ | with_reducible refine w_yes ?_ | with_reducible refine w_nT ?_ | with_reducible refine w_nF ?_ | with_reducible refine w_iteT ?_ | with_reducible refine w_iteF ?_))
namespace L2
open PySem PySem.Spec PyProof.Rows
/-! ### a list or a tuple -/
def SqB (K : PySem.W.Frag) (H : Hp) : Bool → Addr → List V → Prop
  | false => SqL K H
  | true => SqT K H
def SqE (K : PySem.W.Frag) (H : Hp) (a : Addr) (xs : List V) : Prop := ∃ b, SqB K H b a xs
theorem SqE.either {K : PySem.W.Frag} {H : Hp} {a : Addr} {xs : List V} : SqE K H a xs → SqL K H a xs ∨ SqT K H a xs
  | ⟨false, h⟩ => .inl h
  | ⟨true, h⟩ => .inr h
theorem SqB.same {K : PySem.W.Frag} {H H' : Hp} {a : Addr} {xs : List V} (e : Same H H') : ∀ {b : Bool}, SqB K H b a xs → SqB K H' b a xs
  | false, h => e.seq h
  | true, h => e.sqt h
theorem SqE.same {K : PySem.W.Frag} {H H' : Hp} {a : Addr} {xs : List V} (h : SqE K H a xs) (e : Same H H') : SqE K H' a xs := h.imp fun _ z => z.same e
theorem SqE.lst {K : PySem.W.Frag} {H : Hp} {a : Addr} {xs : List V} (h : H a = some (.lst xs)) : SqE K H a xs := ⟨false, SqL.of h⟩
theorem SqE.tup {K : PySem.W.Frag} {H : Hp} {a : Addr} {xs : List V} (h : H a = some (.tup xs)) : SqE K H a xs := ⟨true, SqT.of h⟩
def ItB (K : PySem.W.Frag) : Bool → Addr → It
  | false => Itl K
  | true => Itt K
theorem walk_B {K : PySem.W.Frag} {a : Addr} {xs : List V} : ∀ {b : Bool}, Walk (ItB K b a) xs.length (fun H => SqB K H b a xs) (YAt xs)
  | false => walk_list
  | true => walk_tup
def iSeq (K : PySem.W.Frag) (tl : TE) : TI := fun σ H R => tl σ H fun x H1 => ∃ a b, x = .ref a ∧ (∃ xs, SqB K H1 b a xs) ∧ R (ItB K b a) H1
section
variable {X : Cx} {tg l : Expr} {tl : TE}
theorem pi_seq (hl : PE X l tl) : PI X tg l (iSeq X.K tl) := by
  constructor
  intro pins s σ H R I h
  refine thn (hl.run pins s σ H _ I h) ?_
  rintro v s1 ⟨x, H1, I1, r1, a, b, rfl, ⟨xs, hq⟩, q⟩
  cases r1
  have kept : ∀ o : Obj, Inv X pins σ H1 { s1 with heap := s1.heap.push o, toks := s1.toks } := fun o => I1.kept fun b u e => Heap.get?_push_of_some o e
  have out : ∀ b ∈ [s1.heap.objs.size], _ := fun b hb => by
    obtain rfl := List.mem_singleton.mp hb
    exact I1.fpOk (Nat.le_refl _) (I1.hok.fresh (Nat.le_refl _))
  cases b with
  | false =>
    obtain ⟨its, _, p, _⟩ := I1.list hq
    exact wpAny_pyIter_list p.isList ⟨s1.heap.objs.size, [s1.heap.objs.size], _, _, H1, rfl, kept _, turn_list a _, ⟨_, Heap.get?_push_size _ rfl, rfl, rfl⟩, out, q⟩
  | true =>
    obtain ⟨its, _, p, _⟩ := I1.tuple hq
    exact wpAny_pyIter_tuple (show s1.heap.IsTuple a its.toArray from p) ⟨s1.heap.objs.size, [s1.heap.objs.size], _, _, H1, rfl, kept _, turn_tuple a _, ⟨_, Heap.get?_push_size _ rfl, rfl, rfl⟩, out, q⟩
end
end L2
namespace K3
/-- a grid: lists of lists, tuples of tuples, or both -/
structure GT (K : PySem.W.Frag) (H : Hp) (g : Addr) (rs : List Addr) (t : List (List Int)) : Prop where
  at_ : SqE K H g (rs.map V.ref)
  rows : Paired (fun r row => SqE K H r (row.map V.int)) rs t
theorem GT.same {K : PySem.W.Frag} {H H' : Hp} {g : Addr} {rs : List Addr} {t : List (List Int)} (h : GT K H g rs t) (e : Same H H') : GT K H' g rs t := ⟨h.at_.same e, L2.Paired.mapP h.rows fun _ _ z => z.same e⟩
def RowE (K : PySem.W.Frag) (H : Hp) (v : V) (r : List Int) : Prop := ∃ a, v = .ref a ∧ SqE K H a (r.map V.int)
theorem RowE.same {K : PySem.W.Frag} {H H' : Hp} (e : Same H H') {v : V} {r : List Int} (h : RowE K H v r) : RowE K H' v r := let ⟨a, h1, h2⟩ := h; ⟨a, h1, h2.same e⟩
end K3
end E1_part
section P1_part
set_option Elab.async false
set_option linter.all false
set_option maxRecDepth 100000
set_option maxHeartbeats 1000000
set_option pp.deepTerms true
open PySem PySem.Spec PyProof.Rows L2
/-- go on as far as nothing is open -/
local macro_rules | `(tactic| walk_at "go") => `(tactic| repeat (first
  | with_reducible refine w_seq ?_ | with_reducible refine w_next ?_ | with_reducible refine w_set ?_ | with_reducible refine w_drop ?_ | with_reducible refine w_ret ?_ | with_reducible refine w_retN ?_
  | with_reducible refine w_if ?_ | ((with_reducible refine' w_var ?hv ?_); (case hv => exact rfl)) | with_reducible refine w_c ?_ | with_reducible refine w_nil ?_ | with_reducible refine w_cons ?_ | with_reducible refine w_op ?_ | with_reducible refine w_un ?_
  | with_reducible refine w_test ?_ | with_reducible refine w_tB ?_ | with_reducible refine w_not ?_ | with_reducible refine w_and ?_ | with_reducible refine w_or ?_ | with_reducible refine w_bl ?_
  | with_reducible refine w_andV ?_ | with_reducible refine w_orV ?_ | with_reducible refine w_notV ?_ | with_reducible refine w_ifE ?_ | with_reducible refine w_chain ?_ | with_reducible refine w_i0 ?_
  | with_reducible refine w_call ?_ | with_reducible refine w_callS ?_ | with_reducible refine w_cB ?_ | with_reducible refine w_tup ?_ | with_reducible refine w_lst ?_ | with_reducible refine w_fldV ?_
  | with_reducible refine w_neF ?_ | with_reducible refine w_neT ?_ | with_reducible refine w_notN ?_ | with_reducible refine w_isN ?_ | with_reducible refine w_gname ?_ | with_reducible refine w_gsub ?_ | with_reducible refine w_asg ?_ | with_reducible refine w_yes ?_ | with_reducible refine w_nT ?_ | with_reducible refine w_nF ?_ | with_reducible refine w_iteT ?_ | with_reducible refine w_iteF ?_))
namespace K3
/-! ### names -/
def lets : Str := "abcdefghijklmnopqrstuvwxyz"
def figs : Str := "0123456789"
def isName (z : Str) : Bool := decide (1 ≤ z.length) && (decide (z.length ≤ 8) && (match z.cps.toList with
  | [] => false
  | c :: r => decide (c ∈ lets.cps.toList) && (c :: r).all fun c => decide (c ∈ lets.cps.toList) || decide (c ∈ figs.cps.toList)))
def spIsName : Sp := fun vs H Q _ => ∃ z : Str, vs = [.str z] ∧ z.length ≤ 1000 ∧ ∀ H', Same H H' → Q (.bl (isName z)) H'
section
variable {P : Program} {w : World} {K : PySem.W.Frag} {mg : Str → Option Value} {base : Heap}
theorem sc_is_name : FnScope ["text", "sign"] ["text"] (defScope s_is_name) := ⟨rfl, rfl, rfl, by decide +kernel, rfl, by decide +kernel, by decide +kernel⟩
theorem ok_is_name (T : Tx K mg) : Ok P w K mg base 1 (He.ga K "is_name") ["text"] spIsName := by
  obtain ⟨fd, F⟩ := T.f_is_name
  refine ⟨fd, F.ok sc_is_name (fun vs H Q E h => ?_) (fun cdv A outer s H vs Q E hr h => ?_), F.bindsN fun _ _ _ _ _ _ us hl => match us, hl with | [_], _ => rfl, F.kp⟩
  · obtain ⟨z, rfl, _⟩ := h
    rfl
  obtain ⟨z, rfl, hz, q⟩ := h
  refine ⟨_, pss_cons (ps_if (pt_not (pt_chain op_le op_le pe_int (pe_callB call_len_str (by rfl) T.z_len PySem.boot_len (pa_cons (pv 0) pa_nil)) (pe_gint T.i_LONGEST_NAME))) (pss_one (ps_ret pe_bl)) pss_nil)
    (pss_one (ps_ret (pe_and (pe_cmpR op_in_sign (pe_ix ix_str (pv 0) pe_int (fun _ _ => rfl)) (pe_gstr T.s_LETTERS) rfl)
      (pe_one (pe_callB (cr_all rfl) (by rfl) T.z_all (by decide +kernel) (pa_cons (pe_lc (own := [("sign", 1)]) (g := gName 1) (by rfl) sc_is_name.nd (pi_str (pv 0)) (blkOk_by (own := [("sign", 1)]) (N := ["text", "sign"]) (sc := defScope s_is_name) (by decide +kernel))
        (fun _ _ _ _ _ => pg_name (i := 1) sc_is_name.nd rfl (Or.inl rfl)) (fun _ _ _ _ _ => pts_nil) (fun _ _ _ _ _ => pe_or (pe_cmpR op_in_sign (pv 1) (pe_gstr T.s_LETTERS) rfl) (pe_one (pe_cmpR op_in_sign (pv 1) (pe_gstr T.s_FIGURES) rfl)))) pa_nil)))))), ?_⟩
  walk_at "go"
  refine ⟨z, rfl, Nat.le_trans hz (by decide), ?_⟩
  walk_at "go"
  have key : ∀ H', Same H H' → ∀ b, isName z = b → Q (.bl b) H' := fun H' e b h => h ▸ q H' e
  by_cases h1 : (1 : Int) ≤ (z.length : Int)
  · rw [decide_eq_true h1]
    walk_at "go"
    by_cases h2 : (z.length : Int) ≤ 8
    · rw [decide_eq_true h2]
      walk_at "go"
      obtain ⟨c, r, hc⟩ : ∃ c r, z.cps.toList = c :: r := by
        cases e : z.cps.toList with
        | nil =>
          have : z.length = 0 := by show z.cps.size = 0; rw [← Array.length_toList, e]; rfl
          omega
        | cons c r => exact ⟨c, r, rfl⟩
      refine ⟨z, 0, c, rfl, rfl, Nat.le_trans hz (by decide), by rw [hc]; exact atI_nat (j := 0) rfl, ?_⟩
      walk_at "go"
      refine ⟨c, lets, rfl, rfl, ?_⟩
      walk_at "go"
      cases h3 : decide (c ∈ lets.cps.toList) with
      | false =>
        walk_at "go"
        refine key _ (Same.refl _) _ ?_
        unfold isName
        rw [hc]
        simp only [h3, Bool.false_and, Bool.and_false]
      | true =>
        walk_at "go"
        refine lc_strF (z := z) (f := fun c => .bl (decide (c ∈ lets.cps.toList) || decide (c ∈ figs.cps.toList))) (fun Q h => w_var rfl h) hz (fun _ => rfl) (fun c H' Q e k => ?_) (fun p H' hp e h => ?_)
        · walk_at "go"
          refine ⟨c, lets, rfl, rfl, ?_⟩
          walk_at "go"
          cases h4 : decide (c ∈ lets.cps.toList) with
          | true =>
            walk_at "go"
            rw [h4] at k
            exact k
          | false =>
            walk_at "go"
            refine ⟨c, figs, rfl, rfl, ?_⟩
            rw [h4] at k
            exact k
        · walk_at "go"
          refine ⟨p, z.cps.toList.map fun c => decide (c ∈ lets.cps.toList) || decide (c ∈ figs.cps.toList), rfl, SqL.of (by rw [h, List.map_map]; rfl), ?_⟩
          refine key _ e _ ?_
          unfold isName
          rw [decide_eq_true (show 1 ≤ z.length by omega), decide_eq_true (show z.length ≤ 8 by omega), hc]
          simp only [h3, Bool.true_and, List.all_map, Function.comp_def, id]
    · rw [decide_eq_false h2]
      walk_at "go"
      refine key _ (Same.refl _) _ ?_
      unfold isName
      rw [decide_eq_false (show ¬ z.length ≤ 8 by omega)]
      simp
  · rw [decide_eq_false h1]
    walk_at "go"
    refine key _ (Same.refl _) _ ?_
    unfold isName
    rw [decide_eq_false (show ¬ 1 ≤ z.length by omega)]
    simp
end
end K3
end P1_part
section P2_part
set_option Elab.async false
set_option linter.all false
set_option maxRecDepth 100000
set_option maxHeartbeats 1000000
set_option pp.deepTerms true
open PySem PySem.Spec PyProof.Rows L2
/-- go on as far as nothing is open -/
local macro_rules | `(tactic| walk_at "go") => `(tactic| repeat (first
  | with_reducible refine w_seq ?_ | with_reducible refine w_next ?_ | with_reducible refine w_set ?_ | with_reducible refine w_drop ?_ | with_reducible refine w_ret ?_ | with_reducible refine w_retN ?_
  | with_reducible refine w_if ?_ | ((with_reducible refine' w_var ?hv ?_); (case hv => exact rfl)) | with_reducible refine w_c ?_ | with_reducible refine w_nil ?_ | with_reducible refine w_cons ?_ | with_reducible refine w_op ?_ | with_reducible refine w_un ?_
  | with_reducible refine w_test ?_ | with_reducible refine w_tB ?_ | with_reducible refine w_not ?_ | with_reducible refine w_and ?_ | with_reducible refine w_or ?_ | with_reducible refine w_bl ?_
  | with_reducible refine w_andV ?_ | with_reducible refine w_orV ?_ | with_reducible refine w_notV ?_ | with_reducible refine w_ifE ?_ | with_reducible refine w_chain ?_ | with_reducible refine w_i0 ?_
  | with_reducible refine w_call ?_ | with_reducible refine w_callS ?_ | with_reducible refine w_cB ?_ | with_reducible refine w_tup ?_ | with_reducible refine w_lst ?_ | with_reducible refine w_fldV ?_
  | with_reducible refine w_neF ?_ | with_reducible refine w_neT ?_ | with_reducible refine w_notN ?_ | with_reducible refine w_isN ?_ | with_reducible refine w_gname ?_ | with_reducible refine w_gsub ?_ | with_reducible refine w_asg ?_ | with_reducible refine w_yes ?_ | with_reducible refine w_nT ?_ | with_reducible refine w_nF ?_ | with_reducible refine w_iteT ?_ | with_reducible refine w_iteF ?_))
namespace K3
/-! ### the refusals -/
theorem and2 {a b : Bool} (h : (a && b) = true) : a = true ∧ b = true := Bool.and_eq_true_iff.mp h
section
variable {K : PySem.W.Frag} {mg : Str → Option Value}
theorem oexcB_ok {C : Addr} (h : oexcB K C = true) : ∃ nm q N bs bm sn sub ab col dd k0 k1 k2 k3 k5, K.lookup C = some (excClassObj nm q C N bs bm true sn sub ab col dd k0 k1 k2 k3 k5 "ValueError.__new__") ∧ PySem.HandSPX.refsVE bm = true := by
  unfold oexcB at h
  split at h
  · rename_i dd cd sl ho
    split at h
    · rename_i C' bm k0 k1 k2 k3 n k5 hm hs
      simp only [Bool.and_eq_true, beq_iff_eq, Bool.not_eq_true'] at h
      obtain ⟨rfl, rfl, hdel, hhd, ht⟩ := h
      obtain ⟨nm, bs, mro, ns, qn, hd, sn, sub, ab, col, del⟩ := cd
      dsimp only at hm hdel hhd
      subst hm hdel hhd
      have hsl : sl = #[k0, k1, k2, k3, some (.builtin "ValueError.__new__"), k5] := by
        obtain ⟨l⟩ := sl
        simp only at hs
        rw [hs]
      subst hsl
      exact ⟨nm, qn, ns, bs, bm, sn, sub, ab, col, dd, k0, k1, k2, k3, k5, ho, ht⟩
    · cases h
  · cases h
/-- what K says of the error class x -/
structure ErrC (K : PySem.W.Frag) (x : Str) : Prop where
  o : OexC K (He.ga K x)
  f : XfC K (He.ga K x)
  k : kclsB K (He.ga K x) = true
  m : PySem.W.exmOne K (.ref (He.ga K x)) (.ref (He.ga K "HallError")) = some true
  v : PySem.W.kitOne K (.ref (He.ga K x)) (.type "ValueError") = some true
  i : ∀ y ∈ errN, PySem.W.kitOne K (.ref (He.ga K x)) (.ref (He.ga K y)) = some (x == y)
theorem Tx.err (T : Tx K mg) {x : Str} (hx : x ∈ errN) : ErrC K x := by
  have e := (and2 (and2 (and2 T.e).1).2).1
  have q := List.all_eq_true.mp e x hx
  obtain ⟨q1, q⟩ := and2 q
  obtain ⟨q2, q⟩ := and2 q
  obtain ⟨q3, q⟩ := and2 q
  obtain ⟨q4, q5⟩ := and2 q
  obtain ⟨r1, r⟩ := and2 (show (oexcB K (He.ga K x) && _) = true from q1)
  obtain ⟨r2, r⟩ := and2 r
  obtain ⟨r3, r⟩ := and2 r
  obtain ⟨r4, r5⟩ := and2 r
  have X := xfB_ok r5
  exact ⟨⟨oexcB_ok r1, eqB_ok r2, X.exC, eqB_ok r3, r4⟩, X, q2, eqB_ok q3, eqB_ok q4, fun y hy => eqB_ok (List.all_eq_true.mp q5 y hy)⟩
end
/-- an exception of the error class x, with these fields -/
def Err (K : PySem.W.Frag) (x : Str) (fs : List (Str × V)) (cls : Value) (d : Option Addr) (H : Hp) : Prop := cls = .ref (He.ga K x) ∧ ∃ dd, d = some dd ∧ H dd = some (.xd fs)
/-- __init__(self, f) of an error class -/
def spE1 (K : PySem.W.Frag) (x f : Str) : Sp := fun vs H Q _ => ∃ (a : Addr) (v : V), vs = [.ref a, v] ∧ H a = some (exo a (He.ga K x) none) ∧
  ∀ dx, H dx = none → dx ≠ a → Q .non (upd (upd H dx (exd dx [(f, v)])) a (exo a (He.ga K x) (some dx)))
def spE2 (K : PySem.W.Frag) (x f g : Str) : Sp := fun vs H Q _ => ∃ (a : Addr) (v u : V), vs = [.ref a, v, u] ∧ H a = some (exo a (He.ga K x) none) ∧
  ∀ dx, H dx = none → dx ≠ a → Q .non (upd (upd (upd H dx (exd dx [(f, v)])) a (exo a (He.ga K x) (some dx))) dx (exd dx [(g, u), (f, v)]))
/-- what the making of it asks: all that was tracked stands, its dict is new -/
def gErr1 (K : PySem.W.Frag) (x f : Str) (v : V) (H1 : Hp) (Q : XK) : Prop := [v].length ≤ 1000 ∧ ∀ a, H1 a = none → spE1 K x f (.ref a :: ([v] ++ [])) (upd H1 a (exo a (He.ga K x) none))
  (fun u H2 => u = .non ∧ ∃ (d : Addr) (fs : List (Str × V)), H2 a = some (exo a (He.ga K x) (some d)) ∧ H2 d = some (exd d fs) ∧ H1 d = none ∧ Q (.ref (He.ga K x)) (some d) (upd (del H2 a) d (.xd fs))) (fun _ _ _ => False)
def gErr2 (K : PySem.W.Frag) (x f g : Str) (v u : V) (H1 : Hp) (Q : XK) : Prop := [v, u].length ≤ 1000 ∧ ∀ a, H1 a = none → spE2 K x f g (.ref a :: ([v, u] ++ [])) (upd H1 a (exo a (He.ga K x) none))
  (fun u H2 => u = .non ∧ ∃ (d : Addr) (fs : List (Str × V)), H2 a = some (exo a (He.ga K x) (some d)) ∧ H2 d = some (exd d fs) ∧ H1 d = none ∧ Q (.ref (He.ga K x)) (some d) (upd (del H2 a) d (.xd fs))) (fun _ _ _ => False)
theorem gErr1_of {K : PySem.W.Frag} {x f : Str} {v : V} {H : Hp} {Q : XK} (q : ∀ (d : Addr) (H' : Hp), Same H H' → H' d = some (.xd [(f, v)]) → Q (.ref (He.ga K x)) (some d) H') : gErr1 K x f v H Q := by
  refine ⟨(by show 1 ≤ 1000; decide), fun a ha => ⟨a, v, rfl, upd_same, fun dx hd hne => ⟨rfl, dx, [(f, v)], upd_same, by rw [upd_ne hne]; exact upd_same, ?_, ?_⟩⟩⟩
  · rw [upd_ne hne] at hd
    exact hd
  · rw [upd_ne hne] at hd
    refine q dx _ (fun b o hb => ?_) upd_same
    rw [upd_ne (ne_of_none hb hd), del_ne (ne_of_none hb ha), upd_ne (ne_of_none hb ha), upd_ne (ne_of_none hb hd), upd_ne (ne_of_none hb ha)]
    exact hb
theorem gErr2_of {K : PySem.W.Frag} {x f g : Str} {v u : V} {H : Hp} {Q : XK} (q : ∀ (d : Addr) (H' : Hp), Same H H' → H' d = some (.xd [(g, u), (f, v)]) → Q (.ref (He.ga K x)) (some d) H') : gErr2 K x f g v u H Q := by
  refine ⟨(by show 2 ≤ 1000; decide), fun a ha => ⟨a, v, u, rfl, upd_same, fun dx hd hne => ⟨rfl, dx, [(g, u), (f, v)], by rw [upd_ne (Ne.symm hne)]; exact upd_same, upd_same, ?_, ?_⟩⟩⟩
  · rw [upd_ne hne] at hd
    exact hd
  · rw [upd_ne hne] at hd
    refine q dx _ (fun b o hb => ?_) upd_same
    rw [upd_ne (ne_of_none hb hd), del_ne (ne_of_none hb ha), upd_ne (ne_of_none hb hd), upd_ne (ne_of_none hb ha), upd_ne (ne_of_none hb hd), upd_ne (ne_of_none hb ha)]
    exact hb
def tErr1 (K : PySem.W.Frag) (x f : Str) (te : TE) (W : WX) : TS := fun _ σ H => te σ H fun v H1 => gErr1 K x f v H1 fun cls d H' => W cls d σ H'
def tErr2 (K : PySem.W.Frag) (x f g : Str) (te tu : TE) (W : WX) : TS := fun _ σ H => te σ H fun v H1 => tu σ H1 fun u H2 => gErr2 K x f g v u H2 fun cls d H' => W cls d σ H'
theorem w_err1 {K : PySem.W.Frag} {x f : Str} {te : TE} {W : WX} {D : Ends} {σ : L2.St} {H : Hp} (h : te σ H fun v H1 => gErr1 K x f v H1 fun cls d H' => W cls d σ H') : tErr1 K x f te W D σ H := h
theorem w_err2 {K : PySem.W.Frag} {x f g : Str} {te tu : TE} {W : WX} {D : Ends} {σ : L2.St} {H : Hp} (h : te σ H fun v H1 => tu σ H1 fun u H2 => gErr2 K x f g v u H2 fun cls d H' => W cls d σ H') : tErr2 K x f g te tu W D σ H := h
section
variable {X : Cx} {x f g : Str} {k : Nat} {fI : Addr} {p pos pos2 : Pos} {e e2 : Expr} {te te2 : TE} {ta : TA} {ps : List Str} {W : WX}
theorem ps_err1 (C : ErrC X.K x) (iC : Meth X.K (He.ga X.K x) "__init__" fI) (O : Ok X.prog X.w X.K X.mg X.base k fI ps (spE1 X.K x f)) (hr : Room (k + 1) X.A) (hm : X.mg x = some (.ref (He.ga X.K x))) (tk : Takes X W)
    (ha : PE X e te) (hc : X.calm = true := by rfl) (hg : Gl X x := by rfl) (hdb : (x == ("__debug__" : Str)) = false := by decide) (he : starEach (e :: []) X.env = (false, eval e X.env) :: starEach [] X.env := by rfl) (hpl : (backTo pos (starEach [] X.env)).any (·.1) = false := by rfl) :
    PS X (.Raise (some (.Call (.Name x p) [e] [] pos)) none pos2) (tErr1 X.K x f te W) := by
  obtain ⟨fd, F, b, kp⟩ := O.run
  exact ps_raise (pos := pos2) hc tk (pmk_oex (pos := pos) (p := p) C.o iC.at_ (beq_iff_eq.mp iC.fn) F hr b .nil passL hg hm (pa_cons ha pa_nil he) hdb he hpl)
theorem ps_err2 (C : ErrC X.K x) (iC : Meth X.K (He.ga X.K x) "__init__" fI) (O : Ok X.prog X.w X.K X.mg X.base k fI ps (spE2 X.K x f g)) (hr : Room (k + 1) X.A) (hm : X.mg x = some (.ref (He.ga X.K x))) (tk : Takes X W)
    (ha : PE X e te) (ha2 : PE X e2 te2) (hc : X.calm = true := by rfl) (hg : Gl X x := by rfl) (hdb : (x == ("__debug__" : Str)) = false := by decide) (he : starEach (e :: [e2]) X.env = (false, eval e X.env) :: starEach [e2] X.env := by rfl)
    (he2 : starEach (e2 :: []) X.env = (false, eval e2 X.env) :: starEach [] X.env := by rfl) (hpl : (backTo pos (starEach [e2] X.env)).any (·.1) = false := by rfl) :
    PS X (.Raise (some (.Call (.Name x p) [e, e2] [] pos)) none pos2) (tErr2 X.K x f g te te2 W) := by
  obtain ⟨fd, F, b, kp⟩ := O.run
  exact ps_raise (pos := pos2) hc tk (pmk_oex (pos := pos) (p := p) C.o iC.at_ (beq_iff_eq.mp iC.fn) F hr b .nil passL hg hm (pa_cons ha (pa_cons ha2 pa_nil he2) he) hdb he hpl)
end
section
variable {P : Program} {w : World} {K : PySem.W.Frag} {mg : Str → Option Value} {base : Heap}
theorem sc_NoName : FnScope ["self", "name"] ["self", "name"] (defScope s_NoName_init) := ⟨rfl, rfl, rfl, by decide +kernel, rfl, by decide +kernel, by decide +kernel⟩
theorem ok_NoName (T : Tx K mg) : Ok P w K mg base 1 (He.ma K (He.ga K "NoName") "__init__") ["self", "name"] (spE1 K "NoName" "name") := by
  obtain ⟨fd, F⟩ := T.f_NoName_init
  refine ⟨fd, F.ok sc_NoName (fun vs H Q E h => ?_) (fun cdv A outer s H vs Q E hr h => ?_), F.bindsN fun _ _ _ _ _ _ us hl => match us, hl with | [_, _], _ => rfl, F.kp⟩
  · obtain ⟨a, v, rfl, _⟩ := h
    rfl
  obtain ⟨a, v, rfl, ha, q⟩ := h
  refine ⟨_, pss_one (ps_ost (pv 0) (pv 1)), ?_⟩
  exact ⟨_, rfl, _, rfl, a, _, rfl, (T.err (x := "NoName") (by decide)).o, T.n_NoName_name, .inl ⟨ha, fun dx hd hne => q dx hd hne⟩⟩
theorem sc_Twice : FnScope ["self", "name"] ["self", "name"] (defScope s_Twice_init) := ⟨rfl, rfl, rfl, by decide +kernel, rfl, by decide +kernel, by decide +kernel⟩
theorem ok_Twice (T : Tx K mg) : Ok P w K mg base 1 (He.ma K (He.ga K "Twice") "__init__") ["self", "name"] (spE1 K "Twice" "name") := by
  obtain ⟨fd, F⟩ := T.f_Twice_init
  refine ⟨fd, F.ok sc_Twice (fun vs H Q E h => ?_) (fun cdv A outer s H vs Q E hr h => ?_), F.bindsN fun _ _ _ _ _ _ us hl => match us, hl with | [_, _], _ => rfl, F.kp⟩
  · obtain ⟨a, v, rfl, _⟩ := h
    rfl
  obtain ⟨a, v, rfl, ha, q⟩ := h
  refine ⟨_, pss_one (ps_ost (pv 0) (pv 1)), ?_⟩
  exact ⟨_, rfl, _, rfl, a, _, rfl, (T.err (x := "Twice") (by decide)).o, T.n_Twice_name, .inl ⟨ha, fun dx hd hne => q dx hd hne⟩⟩
theorem sc_NoQuestion : FnScope ["self", "name"] ["self", "name"] (defScope s_NoQuestion_init) := ⟨rfl, rfl, rfl, by decide +kernel, rfl, by decide +kernel, by decide +kernel⟩
theorem ok_NoQuestion (T : Tx K mg) : Ok P w K mg base 1 (He.ma K (He.ga K "NoQuestion") "__init__") ["self", "name"] (spE1 K "NoQuestion" "name") := by
  obtain ⟨fd, F⟩ := T.f_NoQuestion_init
  refine ⟨fd, F.ok sc_NoQuestion (fun vs H Q E h => ?_) (fun cdv A outer s H vs Q E hr h => ?_), F.bindsN fun _ _ _ _ _ _ us hl => match us, hl with | [_, _], _ => rfl, F.kp⟩
  · obtain ⟨a, v, rfl, _⟩ := h
    rfl
  obtain ⟨a, v, rfl, ha, q⟩ := h
  refine ⟨_, pss_one (ps_ost (pv 0) (pv 1)), ?_⟩
  exact ⟨_, rfl, _, rfl, a, _, rfl, (T.err (x := "NoQuestion") (by decide)).o, T.n_NoQuestion_name, .inl ⟨ha, fun dx hd hne => q dx hd hne⟩⟩
theorem sc_NoFit : FnScope ["self", "name"] ["self", "name"] (defScope s_NoFit_init) := ⟨rfl, rfl, rfl, by decide +kernel, rfl, by decide +kernel, by decide +kernel⟩
theorem ok_NoFit (T : Tx K mg) : Ok P w K mg base 1 (He.ma K (He.ga K "NoFit") "__init__") ["self", "name"] (spE1 K "NoFit" "name") := by
  obtain ⟨fd, F⟩ := T.f_NoFit_init
  refine ⟨fd, F.ok sc_NoFit (fun vs H Q E h => ?_) (fun cdv A outer s H vs Q E hr h => ?_), F.bindsN fun _ _ _ _ _ _ us hl => match us, hl with | [_, _], _ => rfl, F.kp⟩
  · obtain ⟨a, v, rfl, _⟩ := h
    rfl
  obtain ⟨a, v, rfl, ha, q⟩ := h
  refine ⟨_, pss_one (ps_ost (pv 0) (pv 1)), ?_⟩
  exact ⟨_, rfl, _, rfl, a, _, rfl, (T.err (x := "NoFit") (by decide)).o, T.n_NoFit_name, .inl ⟨ha, fun dx hd hne => q dx hd hne⟩⟩
theorem sc_BadCount : FnScope ["self", "what", "count"] ["self", "what", "count"] (defScope s_BadCount_init) := ⟨rfl, rfl, rfl, by decide +kernel, rfl, by decide +kernel, by decide +kernel⟩
theorem ok_BadCount (T : Tx K mg) : Ok P w K mg base 1 (He.ma K (He.ga K "BadCount") "__init__") ["self", "what", "count"] (spE2 K "BadCount" "what" "count") := by
  obtain ⟨fd, F⟩ := T.f_BadCount_init
  refine ⟨fd, F.ok sc_BadCount (fun vs H Q E h => ?_) (fun cdv A outer s H vs Q E hr h => ?_), F.bindsN fun _ _ _ _ _ _ us hl => match us, hl with | [_, _, _], _ => rfl, F.kp⟩
  · obtain ⟨a, v, u, rfl, _⟩ := h
    rfl
  obtain ⟨a, v, u, rfl, ha, q⟩ := h
  refine ⟨_, pss_cons (ps_ost (pv 0) (pv 1)) (pss_one (ps_ost (pv 0) (pv 2))), ?_⟩
  refine ⟨_, rfl, _, rfl, a, _, rfl, (T.err (x := "BadCount") (by decide)).o, T.n_BadCount_what, .inl ⟨ha, fun dx hd hne => ?_⟩⟩
  refine ⟨_, rfl, _, rfl, a, _, rfl, (T.err (x := "BadCount") (by decide)).o, T.n_BadCount_count, .inr ⟨dx, _, upd_same, by rw [upd_ne hne]; exact upd_same, (by show 1 ≤ 900; decide), ?_⟩⟩
  have := q dx hd hne
  exact this
end
end K3
end P2_part
section P3_part
set_option Elab.async false
set_option linter.all false
set_option maxRecDepth 100000
set_option maxHeartbeats 1000000
set_option pp.deepTerms true
open PySem PySem.Spec PyProof.Rows L2
/-- go on as far as nothing is open -/
local macro_rules | `(tactic| walk_at "go") => `(tactic| repeat (first
  | with_reducible refine w_seq ?_ | with_reducible refine w_next ?_ | with_reducible refine w_set ?_ | with_reducible refine w_drop ?_ | with_reducible refine w_ret ?_ | with_reducible refine w_retN ?_
  | with_reducible refine w_if ?_ | ((with_reducible refine' w_var ?hv ?_); (case hv => exact rfl)) | with_reducible refine w_c ?_ | with_reducible refine w_nil ?_ | with_reducible refine w_cons ?_ | with_reducible refine w_op ?_ | with_reducible refine w_un ?_
  | with_reducible refine w_test ?_ | with_reducible refine w_tB ?_ | with_reducible refine w_not ?_ | with_reducible refine w_and ?_ | with_reducible refine w_or ?_ | with_reducible refine w_bl ?_
  | with_reducible refine w_andV ?_ | with_reducible refine w_orV ?_ | with_reducible refine w_notV ?_ | with_reducible refine w_ifE ?_ | with_reducible refine w_chain ?_ | with_reducible refine w_i0 ?_
  | with_reducible refine w_call ?_ | with_reducible refine w_callS ?_ | with_reducible refine w_cB ?_ | with_reducible refine w_tup ?_ | with_reducible refine w_lst ?_ | with_reducible refine w_fldV ?_
  | with_reducible refine w_neF ?_ | with_reducible refine w_neT ?_ | with_reducible refine w_notN ?_ | with_reducible refine w_isN ?_ | with_reducible refine w_gname ?_ | with_reducible refine w_gsub ?_ | with_reducible refine w_asg ?_ | with_reducible refine w_yes ?_ | with_reducible refine w_nT ?_ | with_reducible refine w_nF ?_ | with_reducible refine w_iteT ?_ | with_reducible refine w_iteF ?_))
namespace K3
/-! ### what a form refuses -/
inductive Flt where
  | count (what : Str) (n : Int)
  | name (z : Str)
  | twice (z : Str)
  | quest (z : Str)
  | fit (z : Str)
def IsF (K : PySem.W.Frag) : Flt → Value → Option Addr → Hp → Prop
  | .count w n => Err K "BadCount" [("count", .int n), ("what", .str w)]
  | .name z => Err K "NoName" [("name", .str z)]
  | .twice z => Err K "Twice" [("name", .str z)]
  | .quest z => Err K "NoQuestion" [("name", .str z)]
  | .fit z => Err K "NoFit" [("name", .str z)]
/-- refused by r, or told nothing; all that was tracked stands -/
def End (K : PySem.W.Frag) (r : Option Flt) (H : Hp) (Q : VK) (E : XK) : Prop := match r with
  | none => ∀ H', Same H H' → Q .non H'
  | some f => ∀ cls d H', Same H H' → IsF K f cls d H' → E cls d H'
theorem End.mono {K : PySem.W.Frag} {r : Option Flt} {H H1 : Hp} {Q : VK} {E : XK} (h : End K r H Q E) (s : Same H H1) : End K r H1 Q E := by
  cases r with
  | none => exact fun H' e => h H' (s.trans e)
  | some f => exact fun cls d H' e => h cls d H' (s.trans e)
def nameF (z : Str) : Option Flt := if isName z then none else some (.name z)
def spNoName (K : PySem.W.Frag) : Sp := fun vs H Q E => ∃ z : Str, vs = [.str z] ∧ z.length ≤ 1000 ∧ End K (nameF z) H Q E
/-- the first that stands ahead of it -/
def dupOf : List Str → List Str → Option Str
  | _, [] => none
  | seen, x :: r => if x ∈ seen then some x else dupOf (seen ++ [x]) r
def dupF (os : List Str) : Option Flt := (dupOf [] os).map .twice
def spTwice (K : PySem.W.Frag) : Sp := fun vs H Q E => ∃ (a : Addr) (os : List Str), vs = [.ref a] ∧ SqE K H a (os.map V.str) ∧ os.length ≤ 1000 ∧ End K (dupF os) H Q E
theorem dupOf_take {os : List Str} : ∀ {seen : List Str} {i : Nat} {x : Str}, os[i]? = some x → dupOf seen (os.take i) = none →
    (x ∈ seen ++ os.take i → dupOf seen os = some x) ∧ (x ∉ seen ++ os.take i → dupOf seen (os.take (i + 1)) = none) := by
  induction os with
  | nil => intro seen i x h; simp at h
  | cons a r ih =>
    intro seen i x h hn
    cases i with
    | zero =>
      have e : a = x := by simpa using h
      subst e
      refine ⟨fun m => ?_, fun m => ?_⟩
      · have m' : a ∈ seen := by simpa using m
        unfold dupOf
        rw [if_pos m']
      · have m' : a ∉ seen := by simpa using m
        show dupOf seen [a] = none
        unfold dupOf
        rw [if_neg m'] <;> rfl
    | succ i =>
      have h' : r[i]? = some x := by simpa using h
      have hn' : dupOf seen (a :: r.take i) = none := hn
      unfold dupOf at hn'
      by_cases m : a ∈ seen
      · rw [if_pos m] at hn'
        cases hn'
      · rw [if_neg m] at hn'
        have q := ih h' hn'
        refine ⟨fun mm => ?_, fun mm => ?_⟩
        · unfold dupOf
          rw [if_neg m]
          exact q.1 (by simpa using mm)
        · show dupOf seen (a :: r.take (i + 1)) = none
          unfold dupOf
          rw [if_neg m]
          exact q.2 (by simpa using mm)
/-- which keys are among these texts -/
def inK (l : List Str) : Key → Bool
  | .inl _ => false
  | .inr z => decide (z ∈ l)
theorem inK_nil : inK [] = fun _ => false := by
  funext k
  cases k <;> rfl
section
variable {P : Program} {w : World} {K : PySem.W.Frag} {mg : Str → Option Value} {base : Heap}
theorem sc_refuse_no_name : FnScope ["text"] ["text"] (defScope s_refuse_no_name) := ⟨rfl, rfl, rfl, by decide +kernel, rfl, by decide +kernel, by decide +kernel⟩
theorem ok_refuse_no_name (T : Tx K mg) : Ok P w K mg base 3 (He.ga K "refuse_no_name") ["text"] (spNoName K) := by
  obtain ⟨fd, F⟩ := T.f_refuse_no_name
  refine ⟨fd, F.ok sc_refuse_no_name (fun vs H Q E h => ?_) (fun cdv A outer s H vs Q E hr h => ?_), F.bindsN fun _ _ _ _ _ _ us hl => match us, hl with | [_], _ => rfl, F.kp⟩
  · obtain ⟨z, rfl, _⟩ := h
    rfl
  obtain ⟨z, rfl, hz, q⟩ := h
  refine ⟨_, pss_one (ps_if (pt_not (pt_val (pe_f (ok_is_name T) (hr.mono (by decide)) T.g_is_name (pa_cons (pv 0) pa_nil)))) (pss_one (ps_err1 (T.err (x := "NoName") (by decide)) T.m_NoName_init (ok_NoName T) (hr.mono (by decide)) T.g_NoName (takes_of rfl rfl rfl rfl) (pv 0))) pss_nil), ?_⟩
  walk_at "go"
  refine ⟨z, rfl, hz, fun H' e => ?_⟩
  have q' := q.mono e
  unfold nameF at q'
  cases hb : isName z with
  | true =>
    rw [hb] at q'
    walk_at "go"
    exact q' H' (Same.refl _)
  | false =>
    rw [hb] at q'
    walk_at "go"
    refine w_err1 ?_
    walk_at "go"
    exact gErr1_of fun d H2 e2 h2 => q' _ _ H2 e2 ⟨rfl, d, rfl, h2⟩
theorem sc_refuse_twice : FnScope ["names", "seen", "name"] ["names"] (defScope s_refuse_twice) := ⟨rfl, rfl, rfl, by decide +kernel, rfl, by decide +kernel, by decide +kernel⟩
theorem ok_refuse_twice (T : Tx K mg) : Ok P w K mg base 3 (He.ga K "refuse_twice") ["names"] (spTwice K) := by
  obtain ⟨fd, F⟩ := T.f_refuse_twice
  refine ⟨fd, F.ok sc_refuse_twice (fun vs H Q E h => ?_) (fun cdv A outer s H vs Q E hr h => ?_), F.bindsN fun _ _ _ _ _ _ us hl => match us, hl with | [_], _ => rfl, F.kp⟩
  · obtain ⟨a, os, rfl, _⟩ := h
    rfl
  obtain ⟨a, os, rfl, ⟨bq, ha⟩, hz, q⟩ := h
  refine ⟨_, pss_cons (ps_set (i := 1) sc_refuse_twice.nd rfl (Or.inl rfl) (pe_callTy0 cr_set0K (by rfl) T.z_set (by decide +kernel)))
    (pss_one (ps_for (passes_of rfl) rfl (pi_seq (pv 0)) (pg_name (i := 2) sc_refuse_twice.nd rfl (Or.inl rfl))
      (pss_cons (ps_if (pt_cmpR or_sinK (pv 2) (pv 1) rfl) (pss_one (ps_err1 (T.err (x := "Twice") (by decide)) T.m_Twice_init (ok_Twice T) (hr.mono (by decide)) T.g_Twice (takes_of rfl rfl rfl rfl) (pv 2))) pss_nil)
        (pss_one (ps_expr (pe_saddK (pv 1) (pa_cons (pv 2) pa_nil))))))), ?_⟩
  walk_at "go"
  refine ⟨rfl, fun p hp => ?_⟩
  walk_at "go"
  refine ⟨_, rfl, a, bq, rfl, ⟨_, ha.same (Same.new hp _)⟩, ?_⟩
  refine for_it (walk_B (K := K) (a := a) (xs := os.map V.str) (b := bq)) (fun (i : Nat) σ H' => ∃ v : Option V, σ = [some (.ref a), some (.ref p), v] ∧ Same H H' ∧ dupOf [] (os.take i) = none ∧
    ∃ n : Nat, n ≤ i ∧ H' p = some (SetK P w p (inK (os.take i)) n)) ⟨none, rfl, Same.new hp _, rfl, 0, Nat.le_refl _, by show _ = some (SetK P w p (inK []) 0); rw [inK_nil]; exact upd_same⟩ (fun i σ H' _ ⟨_, _, e, _⟩ => ha.same e) ?_ ?_
  · rintro i x σ H' _ hi0 ⟨v, rfl, e, hd, n, hn, hs⟩ ⟨rfl, hi⟩
    obtain ⟨z, hz', rfl⟩ : ∃ z, os[i]? = some z ∧ x = V.str z := by
      rw [List.getElem?_map] at hi
      cases e : os[i]? with
      | none => rw [e] at hi; cases hi
      | some z => rw [e] at hi; exact ⟨z, rfl, (Option.some.inj hi).symm⟩
    have hlt : i < os.length := (List.getElem?_eq_some_iff.mp hz').1
    have hq := dupOf_take (seen := []) hz' hd
    show tSeq _ _ _ _ _
    walk_at "go"
    refine ⟨Sum.inr z, p, _, n, rfl, rfl, hs, ?_⟩
    walk_at "go"
    by_cases c : z ∈ os.take i
    · rw [show inK (os.take i) (Sum.inr z) = true from decide_eq_true c]
      walk_at "go"
      refine w_err1 ?_
      walk_at "go"
      have q' := q.mono e
      have ed : dupF os = some (.twice z) := by
        unfold dupF
        rw [hq.1 (by simpa using c)] <;> rfl
      rw [ed] at q'
      exact gErr1_of fun d H2 e2 h2 => q' _ _ H2 e2 ⟨rfl, d, rfl, h2⟩
    · rw [show inK (os.take i) (Sum.inr z) = false from decide_eq_false c]
      walk_at "go"
      refine ⟨_, rfl, ?_⟩
      refine ⟨⟨p, _, n, rfl, hs⟩, ?_⟩
      walk_at "go"
      refine ⟨p, Sum.inr z, _, n, rfl, rfl, hs, (by unfold scanBound; omega), ?_⟩
      refine ⟨some (.str z), rfl, e.mut hp, hq.2 (by simpa using c), n + 1, by omega, ?_⟩
      rw [upd_same, show inK (os.take i) (Sum.inr z) = false from decide_eq_false c]
      have ef : (fun j : Key => inK (os.take i) j || decide (j = Sum.inr z)) = inK (os.take (i + 1)) := by
        funext j
        rw [List.take_add_one, hz']
        cases j with
        | inl k => rfl
        | inr y =>
          show (decide (y ∈ os.take i) || decide ((Sum.inr y : Key) = Sum.inr z)) = decide (y ∈ os.take i ++ [z])
          by_cases h1 : y ∈ os.take i <;> by_cases h2 : y = z <;> simp [h1, h2]
      rw [ef] <;> rfl
  · rintro σ H' ⟨v, rfl, e, hd, _⟩
    rw [List.length_map, List.take_length] at hd
    have ed : dupF os = none := by
      unfold dupF
      rw [hd] <;> rfl
    rw [ed] at q
    exact q H' e
end
end K3
end P3_part
section P4_part
set_option Elab.async false
set_option linter.all false
set_option maxRecDepth 100000
set_option maxHeartbeats 1000000
set_option pp.deepTerms true
open PySem PySem.Spec PyProof.Rows L2
/-- go on as far as nothing is open -/
local macro_rules | `(tactic| walk_at "go") => `(tactic| repeat (first
  | with_reducible refine w_seq ?_ | with_reducible refine w_next ?_ | with_reducible refine w_set ?_ | with_reducible refine w_drop ?_ | with_reducible refine w_ret ?_ | with_reducible refine w_retN ?_
  | with_reducible refine w_if ?_ | ((with_reducible refine' w_var ?hv ?_); (case hv => exact rfl)) | with_reducible refine w_c ?_ | with_reducible refine w_nil ?_ | with_reducible refine w_cons ?_ | with_reducible refine w_op ?_ | with_reducible refine w_un ?_
  | with_reducible refine w_test ?_ | with_reducible refine w_tB ?_ | with_reducible refine w_not ?_ | with_reducible refine w_and ?_ | with_reducible refine w_or ?_ | with_reducible refine w_bl ?_
  | with_reducible refine w_andV ?_ | with_reducible refine w_orV ?_ | with_reducible refine w_notV ?_ | with_reducible refine w_ifE ?_ | with_reducible refine w_chain ?_ | with_reducible refine w_i0 ?_
  | with_reducible refine w_call ?_ | with_reducible refine w_callS ?_ | with_reducible refine w_cB ?_ | with_reducible refine w_tup ?_ | with_reducible refine w_lst ?_ | with_reducible refine w_fldV ?_
  | with_reducible refine w_neF ?_ | with_reducible refine w_neT ?_ | with_reducible refine w_notN ?_ | with_reducible refine w_isN ?_ | with_reducible refine w_gname ?_ | with_reducible refine w_gsub ?_ | with_reducible refine w_asg ?_ | with_reducible refine w_yes ?_ | with_reducible refine w_nT ?_ | with_reducible refine w_nF ?_ | with_reducible refine w_iteT ?_ | with_reducible refine w_iteF ?_))
namespace K3
/-! ### conditions, rows -/
inductive Cd where
  | is (n o : Str)
  | has (n o : Str)
  | over (n : Str) (k : Int)
  | under (n : Str) (k : Int)
  | no (c : Cd)
  | both (c d : Cd)
  | either (c d : Cd)
inductive Rw where
  | one (n : Str) (os : List Str) (w : Option Cd)
  | some (n : Str) (os : List Str) (w : Option Cd)
  | number (n : Str) (lo hi : Int) (w : Option Cd)
  | check (n : Str) (m : Cd) (w : Option Cd)
  | sect (rs : List Rw) (w : Option Cd)
  | rounds (n : Str) (rs : List Rw) (w : Option Cd)
def Cd.nm : Cd → Str
  | .is _ _ => "Is" | .has _ _ => "Has" | .over _ _ => "Above" | .under _ _ => "Below" | .no _ => "Not" | .both _ _ => "Both" | .either _ _ => "Either"
def Rw.nm : Rw → Str
  | .one _ _ _ => "One" | .some _ _ _ => "Some" | .number _ _ _ _ => "Number" | .check _ _ _ => "Check" | .sect _ _ => "Section" | .rounds _ _ _ => "Rounds"
def Ins (K : PySem.W.Frag) (H : Hp) (a : Addr) (x : Str) (fs : List (Str × V)) : Prop := ∃ dx, H a = some (.ins (He.ga K x) dx fs)
theorem Ins.si {K : PySem.W.Frag} {H H' : Hp} {a : Addr} {x : Str} {fs : List (Str × V)} (h : Ins K H a x fs) (e : SI H H') (k : keepF fs = true := by rfl) : Ins K H' a x fs := let ⟨dx, q⟩ := h; ⟨dx, e _ _ k q⟩
theorem Ins.same {K : PySem.W.Frag} {H H' : Hp} {a : Addr} {x : Str} {fs : List (Str × V)} (h : Ins K H a x fs) (e : Same H H') : Ins K H' a x fs := let ⟨dx, q⟩ := h; ⟨dx, e _ _ q⟩
inductive CO (K : PySem.W.Frag) (H : Hp) : V → Cd → Prop where
  | is {a n o} : Ins K H a "Is" [("name", .str n), ("option", .str o)] → CO K H (.ref a) (.is n o)
  | has {a n o} : Ins K H a "Has" [("name", .str n), ("option", .str o)] → CO K H (.ref a) (.has n o)
  | over {a n k} : Ins K H a "Above" [("name", .str n), ("number", .int k)] → CO K H (.ref a) (.over n k)
  | under {a n k} : Ins K H a "Below" [("name", .str n), ("number", .int k)] → CO K H (.ref a) (.under n k)
  | no {a v c} : Ins K H a "Not" [("inner", v)] → CO K H v c → CO K H (.ref a) (.no c)
  | both {a v u c d} : Ins K H a "Both" [("left", v), ("right", u)] → CO K H v c → CO K H u d → CO K H (.ref a) (.both c d)
  | either {a v u c d} : Ins K H a "Either" [("left", v), ("right", u)] → CO K H v c → CO K H u d → CO K H (.ref a) (.either c d)
theorem CO.si {K : PySem.W.Frag} {H H' : Hp} (e : SI H H') : ∀ {c : Cd} {v : V}, CO K H v c → CO K H' v c := by
  intro c v h
  induction h with
  | is h => exact .is (h.si e)
  | has h => exact .has (h.si e)
  | over h => exact .over (h.si e)
  | under h => exact .under (h.si e)
  | no h _ i => exact .no (h.si e) i
  | both h _ _ i j => exact .both (h.si e) i j
  | either h _ _ i j => exact .either (h.si e) i j
theorem CO.same {K : PySem.W.Frag} {H H' : Hp} (e : Same H H') {c : Cd} {v : V} (h : CO K H v c) : CO K H' v c := h.si e.si
inductive WO (K : PySem.W.Frag) (H : Hp) : V → Option Cd → Prop where
  | none : WO K H .non none
  | some {v c} : CO K H v c → WO K H v (some c)
theorem WO.si {K : PySem.W.Frag} {H H' : Hp} (e : SI H H') {c : Option Cd} {v : V} (h : WO K H v c) : WO K H' v c := by
  cases h with
  | none => exact .none
  | some h => exact .some (h.si e)
theorem WO.same {K : PySem.W.Frag} {H H' : Hp} (e : Same H H') {c : Option Cd} {v : V} (h : WO K H v c) : WO K H' v c := h.si e.si
mutual
inductive RO (K : PySem.W.Frag) (H : Hp) : V → Rw → Prop where
  | one {a t n os w wv} : Ins K H a "One" [("name", .str n), ("options", .ref t), ("where", wv)] → SqT K H t (os.map V.str) → WO K H wv w → RO K H (.ref a) (.one n os w)
  | some {a t n os w wv} : Ins K H a "Some" [("name", .str n), ("options", .ref t), ("where", wv)] → SqT K H t (os.map V.str) → WO K H wv w → RO K H (.ref a) (.some n os w)
  | number {a n lo hi w wv} : Ins K H a "Number" [("name", .str n), ("low", .int lo), ("high", .int hi), ("where", wv)] → WO K H wv w → RO K H (.ref a) (.number n lo hi w)
  | check {a n m mv w wv} : Ins K H a "Check" [("name", .str n), ("must", mv), ("where", wv)] → CO K H mv m → WO K H wv w → RO K H (.ref a) (.check n m w)
  | sect {a t xs rs w wv} : Ins K H a "Section" [("rows", .ref t), ("where", wv)] → SqT K H t xs → ROs K H xs rs → WO K H wv w → RO K H (.ref a) (.sect rs w)
  | rounds {a t n xs rs w wv} : Ins K H a "Rounds" [("count", .str n), ("rows", .ref t), ("where", wv)] → SqT K H t xs → ROs K H xs rs → WO K H wv w → RO K H (.ref a) (.rounds n rs w)
inductive ROs (K : PySem.W.Frag) (H : Hp) : List V → List Rw → Prop where
  | nil : ROs K H [] []
  | cons {v vs r rs} : RO K H v r → ROs K H vs rs → ROs K H (v :: vs) (r :: rs)
end
mutual
theorem RO.si {K : PySem.W.Frag} {H H' : Hp} (e : SI H H') : ∀ {r : Rw} {v : V}, RO K H v r → RO K H' v r
  | _, _, .one h t w => .one (h.si e) (e.sqt t) (w.si e)
  | _, _, .some h t w => .some (h.si e) (e.sqt t) (w.si e)
  | _, _, .number h w => .number (h.si e) (w.si e)
  | _, _, .check h m w => .check (h.si e) (m.si e) (w.si e)
  | _, _, .sect h t rs w => .sect (h.si e) (e.sqt t) (ROs.si e rs) (w.si e)
  | _, _, .rounds h t rs w => .rounds (h.si e) (e.sqt t) (ROs.si e rs) (w.si e)
theorem ROs.si {K : PySem.W.Frag} {H H' : Hp} (e : SI H H') : ∀ {rs : List Rw} {vs : List V}, ROs K H vs rs → ROs K H' vs rs
  | _, _, .nil => .nil
  | _, _, .cons h t => .cons (RO.si e h) (ROs.si e t)
end
theorem RO.same {K : PySem.W.Frag} {H H' : Hp} (e : Same H H') {r : Rw} {v : V} (h : RO K H v r) : RO K H' v r := RO.si e.si h
theorem ROs.same {K : PySem.W.Frag} {H H' : Hp} (e : Same H H') {rs : List Rw} {vs : List V} (h : ROs K H vs rs) : ROs K H' vs rs := ROs.si e.si h
/-! ### isinstance -/
section
variable {K : PySem.W.Frag} {mg : Str → Option Value} {H : Hp}
theorem Tx.gs (T : Tx K mg) : getsetB K = true := (and2 (and2 T.e).1).1
theorem Tx.kc (T : Tx K mg) {x : Str} (hx : x ∈ cndN) : kclsB K (He.ga K x) = true ∧ ∀ y ∈ cndT, PySem.W.kitOne K (.ref (He.ga K x)) (.ref (He.ga K y)) = some (x == y) := by
  have q := List.all_eq_true.mp (and2 (and2 (and2 (and2 T.e).1).2).2).1 x hx
  obtain ⟨q1, q2⟩ := and2 q
  exact ⟨q1, fun y hy => eqB_ok (List.all_eq_true.mp q2 y hy)⟩
theorem Tx.kr (T : Tx K mg) {x : Str} (hx : x ∈ rowN) : kclsB K (He.ga K x) = true ∧ ∀ y ∈ rowN, PySem.W.kitOne K (.ref (He.ga K x)) (.ref (He.ga K y)) = some (x == y) := by
  have q := List.all_eq_true.mp (and2 (and2 (and2 (and2 T.e).1).2).2).2 x hx
  obtain ⟨q1, q2⟩ := and2 q
  exact ⟨q1, fun y hy => eqB_ok (List.all_eq_true.mp q2 y hy)⟩
theorem Tx.ty (T : Tx K mg) {x : Str} {a : Addr} {fs : List (Str × V)} (k : kclsB K (He.ga K x) = true) (c : Cls K (He.ga K x)) (h : Ins K H a x fs) : TyX K H (.ref a) (.ref (He.ga K x)) := by
  obtain ⟨dx, h⟩ := h
  obtain ⟨k1, k2⟩ := and2 (show (eqB _ _ && eqB _ _) = true from k)
  obtain ⟨g1, g2⟩ := and2 (show (eqB _ _ && eqB _ _) = true from T.gs)
  exact .base (.ins h c (eqB_ok k1) (eqB_ok g1) (eqB_ok g2) (eqB_ok k2))
theorem Tx.tyC (T : Tx K mg) {c : Cd} {v : V} (h : CO K H v c) : c.nm ∈ cndN ∧ TyX K H v (.ref (He.ga K c.nm)) := by
  cases h with
  | is h => exact ⟨(by show ("Is" : Str) ∈ cndN; decide), T.ty (T.kc (x := "Is") (by decide)).1 T.cl_Is h⟩
  | has h => exact ⟨(by show ("Has" : Str) ∈ cndN; decide), T.ty (T.kc (x := "Has") (by decide)).1 T.cl_Has h⟩
  | over h => exact ⟨(by show ("Above" : Str) ∈ cndN; decide), T.ty (T.kc (x := "Above") (by decide)).1 T.cl_Above h⟩
  | under h => exact ⟨(by show ("Below" : Str) ∈ cndN; decide), T.ty (T.kc (x := "Below") (by decide)).1 T.cl_Below h⟩
  | no h _ => exact ⟨(by show ("Not" : Str) ∈ cndN; decide), T.ty (T.kc (x := "Not") (by decide)).1 T.cl_Not h⟩
  | both h _ _ => exact ⟨(by show ("Both" : Str) ∈ cndN; decide), T.ty (T.kc (x := "Both") (by decide)).1 T.cl_Both h⟩
  | either h _ _ => exact ⟨(by show ("Either" : Str) ∈ cndN; decide), T.ty (T.kc (x := "Either") (by decide)).1 T.cl_Either h⟩
theorem Tx.tyR (T : Tx K mg) {r : Rw} {v : V} (h : RO K H v r) : r.nm ∈ rowN ∧ TyX K H v (.ref (He.ga K r.nm)) := by
  cases h with
  | one h _ _ => exact ⟨(by show ("One" : Str) ∈ rowN; decide), T.ty (T.kr (x := "One") (by decide)).1 T.cl_One h⟩
  | some h _ _ => exact ⟨(by show ("Some" : Str) ∈ rowN; decide), T.ty (T.kr (x := "Some") (by decide)).1 T.cl_Some h⟩
  | number h _ => exact ⟨(by show ("Number" : Str) ∈ rowN; decide), T.ty (T.kr (x := "Number") (by decide)).1 T.cl_Number h⟩
  | check h _ _ => exact ⟨(by show ("Check" : Str) ∈ rowN; decide), T.ty (T.kr (x := "Check") (by decide)).1 T.cl_Check h⟩
  | sect h _ _ _ => exact ⟨(by show ("Section" : Str) ∈ rowN; decide), T.ty (T.kr (x := "Section") (by decide)).1 T.cl_Section h⟩
  | rounds h _ _ _ => exact ⟨(by show ("Rounds" : Str) ∈ rowN; decide), T.ty (T.kr (x := "Rounds") (by decide)).1 T.cl_Rounds h⟩
theorem isiC (T : Tx K mg) {c : Cd} {v : V} {y : Str} {Q : VK} (h : CO K H v c) (hy : y ∈ cndT) (q : Q (.bl (c.nm == y)) H) : rIsi K [v, .ref (He.ga K y)] H Q :=
  ⟨_, _, _, _, _, rfl, .own _, (T.tyC h).2, (T.kc (T.tyC h).1).2 y hy, q⟩
theorem isiR (T : Tx K mg) {r : Rw} {v : V} {y : Str} {Q : VK} (h : RO K H v r) (hy : y ∈ rowN) (q : Q (.bl (r.nm == y)) H) : rIsi K [v, .ref (He.ga K y)] H Q :=
  ⟨_, _, _, _, _, rfl, .own _, (T.tyR h).2, (T.kr (T.tyR h).1).2 y hy, q⟩
theorem kitAny2 {t c d : Value} {a b : Bool} (h1 : PySem.W.kitOne K t c = some a) (h2 : PySem.W.kitOne K t d = some b) : PySem.W.kitAny K t [c, d] = some (a || b) := by
  unfold PySem.W.kitAny
  rw [h1]
  cases a with
  | true => rfl
  | false =>
    show PySem.W.kitAny K t [d] = _
    unfold PySem.W.kitAny
    rw [h2]
    cases b <;> rfl
theorem kitAny3 {t c d e : Value} {a b f : Bool} (h1 : PySem.W.kitOne K t c = some a) (h2 : PySem.W.kitOne K t d = some b) (h3 : PySem.W.kitOne K t e = some f) : PySem.W.kitAny K t [c, d, e] = some (a || (b || f)) := by
  have q := kitAny2 h2 h3
  unfold PySem.W.kitAny
  rw [h1]
  cases a with
  | true => rfl
  | false => exact q
theorem isiC2 (T : Tx K mg) {c : Cd} {v : V} {y z : Str} {p : Addr} {Q : VK} (h : CO K H v c) (hp : H p = some (.tup [.ref (He.ga K y), .ref (He.ga K z)])) (hy : y ∈ cndT) (hz : z ∈ cndT) (q : Q (.bl (c.nm == y || c.nm == z)) H) : rIsiT K [v, .ref p] H Q :=
  ⟨_, _, _, _, _, _, rfl, hp, .cons (.own _) (.cons (.own _) .nil), (T.tyC h).2, kitAny2 ((T.kc (T.tyC h).1).2 y hy) ((T.kc (T.tyC h).1).2 z hz), q⟩
theorem isiR2 (T : Tx K mg) {r : Rw} {v : V} {y z : Str} {p : Addr} {Q : VK} (h : RO K H v r) (hp : H p = some (.tup [.ref (He.ga K y), .ref (He.ga K z)])) (hy : y ∈ rowN) (hz : z ∈ rowN) (q : Q (.bl (r.nm == y || r.nm == z)) H) : rIsiT K [v, .ref p] H Q :=
  ⟨_, _, _, _, _, _, rfl, hp, .cons (.own _) (.cons (.own _) .nil), (T.tyR h).2, kitAny2 ((T.kr (T.tyR h).1).2 y hy) ((T.kr (T.tyR h).1).2 z hz), q⟩
theorem isiR3 (T : Tx K mg) {r : Rw} {v : V} {y z x : Str} {p : Addr} {Q : VK} (h : RO K H v r) (hp : H p = some (.tup [.ref (He.ga K y), .ref (He.ga K z), .ref (He.ga K x)])) (hy : y ∈ rowN) (hz : z ∈ rowN) (hx : x ∈ rowN) (q : Q (.bl (r.nm == y || (r.nm == z || r.nm == x))) H) : rIsiT K [v, .ref p] H Q :=
  ⟨_, _, _, _, _, _, rfl, hp, .cons (.own _) (.cons (.own _) (.cons (.own _) .nil)), (T.tyR h).2, kitAny3 ((T.kr (T.tyR h).1).2 y hy) ((T.kr (T.tyR h).1).2 z hz) ((T.kr (T.tyR h).1).2 x hx), q⟩
end
/-! ### the making of conditions and rows -/
/-- what __init__ leaves: the instance with these fields, all else as it was -/
def Left (K : PySem.W.Frag) (H : Hp) (a : Addr) (x : Str) (dx : Addr) (fs : List (Str × V)) (Q : VK) : Prop := ∀ H', H' a = some (.ins (He.ga K x) dx fs) → (∀ b o, b ≠ a → H b = some o → H' b = some o) → Q .non H'
def spI (K : PySem.W.Frag) (x : Str) (fs : List Str) : Sp := fun vs H Q _ => ∃ (a dx : Addr) (ws : List V), vs = .ref a :: ws ∧ ws.length = fs.length ∧ H a = some (.ins (He.ga K x) dx []) ∧ Left K H a x dx (fs.zip ws) Q
/-- with a row at the second place -/
def spIT (K : PySem.W.Frag) (x : Str) (f1 f2 f3 : Str) : Sp := fun vs H Q _ => ∃ (a dx l : Addr) (v1 v3 : V) (xs : List V), vs = [.ref a, v1, .ref l, v3] ∧ (SqL K H l xs ∨ SqT K H l xs) ∧ H a = some (.ins (He.ga K x) dx []) ∧
  ∀ t H', H' a = some (.ins (He.ga K x) dx [(f1, v1), (f2, .ref t), (f3, v3)]) → SqT K H' t xs → (∀ b o, b ≠ a → H b = some o → H' b = some o) → Q .non H'
def spIS (K : PySem.W.Frag) : Sp := fun vs H Q _ => ∃ (a dx l : Addr) (v3 : V) (xs : List V), vs = [.ref a, .ref l, v3] ∧ (SqL K H l xs ∨ SqT K H l xs) ∧ H a = some (.ins (He.ga K "Section") dx []) ∧
  ∀ t H', H' a = some (.ins (He.ga K "Section") dx [("rows", .ref t), ("where", v3)]) → SqT K H' t xs → (∀ b o, b ≠ a → H b = some o → H' b = some o) → Q .non H'
theorem SqL.far {K : PySem.W.Frag} {H : Hp} {l a C dx : Addr} {fs : List (Str × V)} {xs : List V} {o : HO} (ha : H a = some (.ins C dx fs)) (h : SqL K H l xs) : SqL K (upd H a o) l xs := by
  have q : ∀ u, H l = some u → (∀ C dx fs, u ≠ .ins C dx fs) → upd H a o l = some u := fun u hu hn => by
    rw [upd_ne (fun z => hn C dx fs (by rw [z, ha] at hu; exact (Option.some.inj hu).symm))]
    exact hu
  rcases h with (h | ⟨o', h⟩) | h
  · exact .inl (.inl (q _ h (by intro _ _ _ z; cases z)))
  · exact .inl (.inr ⟨o', q _ h (by intro _ _ _ z; cases z)⟩)
  · exact .inr h
theorem SqT.far {K : PySem.W.Frag} {H : Hp} {l a C dx : Addr} {fs : List (Str × V)} {xs : List V} {o : HO} (ha : H a = some (.ins C dx fs)) (h : SqT K H l xs) : SqT K (upd H a o) l xs := by
  have q : ∀ u, H l = some u → (∀ C dx fs, u ≠ .ins C dx fs) → upd H a o l = some u := fun u hu hn => by
    rw [upd_ne (fun z => hn C dx fs (by rw [z, ha] at hu; exact (Option.some.inj hu).symm))]
    exact hu
  rcases h with (h | ⟨o', h⟩) | h
  · exact .inl (.inl (q _ h (by intro _ _ _ z; cases z)))
  · exact .inl (.inr ⟨o', q _ h (by intro _ _ _ z; cases z)⟩)
  · exact .inr h
section
variable {P : Program} {w : World} {K : PySem.W.Frag} {mg : Str → Option Value} {base : Heap}
theorem sc_Is : FnScope ["self", "name", "option"] ["self", "name", "option"] (defScope s_Is_init) := ⟨rfl, rfl, rfl, by decide +kernel, rfl, by decide +kernel, by decide +kernel⟩
theorem ok_Is (T : Tx K mg) : Ok P w K mg base 1 (He.ma K (He.ga K "Is") "__init__") ["self", "name", "option"] (spI K "Is" ["name", "option"]) := by
  obtain ⟨fd, F⟩ := T.f_Is_init
  refine ⟨fd, F.ok sc_Is (fun vs H Q E h => ?_) (fun cdv A outer s H vs Q E hr h => ?_), F.bindsN fun _ _ _ _ _ _ us hl => match us, hl with | [_, _, _], _ => rfl, F.kp⟩
  · obtain ⟨a, dx, ws, rfl, hl, _⟩ := h
    exact congrArg Nat.succ hl
  obtain ⟨a, dx, ws, rfl, hl, ha, q⟩ := h
  obtain ⟨v1, v2, rfl⟩ : ∃ v1 v2, ws = [v1, v2] := match ws, hl with | [v1, v2], _ => ⟨v1, v2, rfl⟩
  refine ⟨_, pss_cons (ps_fld (pv 0) (pv 1) rfl) (pss_one (ps_fld (pv 0) (pv 2) rfl)), ?_⟩
  refine ⟨_, rfl, _, rfl, a, _, dx, _, rfl, ha, T.cl_Is, T.n_Is_name, (by show 0 < 1000; decide), ?_⟩
  refine ⟨_, rfl, _, rfl, a, _, dx, _, rfl, upd_same, T.cl_Is, T.n_Is_option, (by show 1 < 1000; decide), ?_⟩
  refine q _ upd_same fun b o hb ho => ?_
  rw [upd_ne hb, upd_ne hb]
  exact ho
theorem sc_Has : FnScope ["self", "name", "option"] ["self", "name", "option"] (defScope s_Has_init) := ⟨rfl, rfl, rfl, by decide +kernel, rfl, by decide +kernel, by decide +kernel⟩
theorem ok_Has (T : Tx K mg) : Ok P w K mg base 1 (He.ma K (He.ga K "Has") "__init__") ["self", "name", "option"] (spI K "Has" ["name", "option"]) := by
  obtain ⟨fd, F⟩ := T.f_Has_init
  refine ⟨fd, F.ok sc_Has (fun vs H Q E h => ?_) (fun cdv A outer s H vs Q E hr h => ?_), F.bindsN fun _ _ _ _ _ _ us hl => match us, hl with | [_, _, _], _ => rfl, F.kp⟩
  · obtain ⟨a, dx, ws, rfl, hl, _⟩ := h
    exact congrArg Nat.succ hl
  obtain ⟨a, dx, ws, rfl, hl, ha, q⟩ := h
  obtain ⟨v1, v2, rfl⟩ : ∃ v1 v2, ws = [v1, v2] := match ws, hl with | [v1, v2], _ => ⟨v1, v2, rfl⟩
  refine ⟨_, pss_cons (ps_fld (pv 0) (pv 1) rfl) (pss_one (ps_fld (pv 0) (pv 2) rfl)), ?_⟩
  refine ⟨_, rfl, _, rfl, a, _, dx, _, rfl, ha, T.cl_Has, T.n_Has_name, (by show 0 < 1000; decide), ?_⟩
  refine ⟨_, rfl, _, rfl, a, _, dx, _, rfl, upd_same, T.cl_Has, T.n_Has_option, (by show 1 < 1000; decide), ?_⟩
  refine q _ upd_same fun b o hb ho => ?_
  rw [upd_ne hb, upd_ne hb]
  exact ho
theorem sc_Above : FnScope ["self", "name", "number"] ["self", "name", "number"] (defScope s_Above_init) := ⟨rfl, rfl, rfl, by decide +kernel, rfl, by decide +kernel, by decide +kernel⟩
theorem ok_Above (T : Tx K mg) : Ok P w K mg base 1 (He.ma K (He.ga K "Above") "__init__") ["self", "name", "number"] (spI K "Above" ["name", "number"]) := by
  obtain ⟨fd, F⟩ := T.f_Above_init
  refine ⟨fd, F.ok sc_Above (fun vs H Q E h => ?_) (fun cdv A outer s H vs Q E hr h => ?_), F.bindsN fun _ _ _ _ _ _ us hl => match us, hl with | [_, _, _], _ => rfl, F.kp⟩
  · obtain ⟨a, dx, ws, rfl, hl, _⟩ := h
    exact congrArg Nat.succ hl
  obtain ⟨a, dx, ws, rfl, hl, ha, q⟩ := h
  obtain ⟨v1, v2, rfl⟩ : ∃ v1 v2, ws = [v1, v2] := match ws, hl with | [v1, v2], _ => ⟨v1, v2, rfl⟩
  refine ⟨_, pss_cons (ps_fld (pv 0) (pv 1) rfl) (pss_one (ps_fld (pv 0) (pv 2) rfl)), ?_⟩
  refine ⟨_, rfl, _, rfl, a, _, dx, _, rfl, ha, T.cl_Above, T.n_Above_name, (by show 0 < 1000; decide), ?_⟩
  refine ⟨_, rfl, _, rfl, a, _, dx, _, rfl, upd_same, T.cl_Above, T.n_Above_number, (by show 1 < 1000; decide), ?_⟩
  refine q _ upd_same fun b o hb ho => ?_
  rw [upd_ne hb, upd_ne hb]
  exact ho
theorem sc_Below : FnScope ["self", "name", "number"] ["self", "name", "number"] (defScope s_Below_init) := ⟨rfl, rfl, rfl, by decide +kernel, rfl, by decide +kernel, by decide +kernel⟩
theorem ok_Below (T : Tx K mg) : Ok P w K mg base 1 (He.ma K (He.ga K "Below") "__init__") ["self", "name", "number"] (spI K "Below" ["name", "number"]) := by
  obtain ⟨fd, F⟩ := T.f_Below_init
  refine ⟨fd, F.ok sc_Below (fun vs H Q E h => ?_) (fun cdv A outer s H vs Q E hr h => ?_), F.bindsN fun _ _ _ _ _ _ us hl => match us, hl with | [_, _, _], _ => rfl, F.kp⟩
  · obtain ⟨a, dx, ws, rfl, hl, _⟩ := h
    exact congrArg Nat.succ hl
  obtain ⟨a, dx, ws, rfl, hl, ha, q⟩ := h
  obtain ⟨v1, v2, rfl⟩ : ∃ v1 v2, ws = [v1, v2] := match ws, hl with | [v1, v2], _ => ⟨v1, v2, rfl⟩
  refine ⟨_, pss_cons (ps_fld (pv 0) (pv 1) rfl) (pss_one (ps_fld (pv 0) (pv 2) rfl)), ?_⟩
  refine ⟨_, rfl, _, rfl, a, _, dx, _, rfl, ha, T.cl_Below, T.n_Below_name, (by show 0 < 1000; decide), ?_⟩
  refine ⟨_, rfl, _, rfl, a, _, dx, _, rfl, upd_same, T.cl_Below, T.n_Below_number, (by show 1 < 1000; decide), ?_⟩
  refine q _ upd_same fun b o hb ho => ?_
  rw [upd_ne hb, upd_ne hb]
  exact ho
theorem sc_Not : FnScope ["self", "inner"] ["self", "inner"] (defScope s_Not_init) := ⟨rfl, rfl, rfl, by decide +kernel, rfl, by decide +kernel, by decide +kernel⟩
theorem ok_Not (T : Tx K mg) : Ok P w K mg base 1 (He.ma K (He.ga K "Not") "__init__") ["self", "inner"] (spI K "Not" ["inner"]) := by
  obtain ⟨fd, F⟩ := T.f_Not_init
  refine ⟨fd, F.ok sc_Not (fun vs H Q E h => ?_) (fun cdv A outer s H vs Q E hr h => ?_), F.bindsN fun _ _ _ _ _ _ us hl => match us, hl with | [_, _], _ => rfl, F.kp⟩
  · obtain ⟨a, dx, ws, rfl, hl, _⟩ := h
    exact congrArg Nat.succ hl
  obtain ⟨a, dx, ws, rfl, hl, ha, q⟩ := h
  obtain ⟨v1, rfl⟩ : ∃ v1, ws = [v1] := match ws, hl with | [v1], _ => ⟨v1, rfl⟩
  refine ⟨_, pss_one (ps_fld (pv 0) (pv 1) rfl), ?_⟩
  refine ⟨_, rfl, _, rfl, a, _, dx, _, rfl, ha, T.cl_Not, T.n_Not_inner, (by show 0 < 1000; decide), ?_⟩
  refine q _ upd_same fun b o hb ho => ?_
  rw [upd_ne hb]
  exact ho
theorem sc_Both : FnScope ["self", "left", "right"] ["self", "left", "right"] (defScope s_Both_init) := ⟨rfl, rfl, rfl, by decide +kernel, rfl, by decide +kernel, by decide +kernel⟩
theorem ok_Both (T : Tx K mg) : Ok P w K mg base 1 (He.ma K (He.ga K "Both") "__init__") ["self", "left", "right"] (spI K "Both" ["left", "right"]) := by
  obtain ⟨fd, F⟩ := T.f_Both_init
  refine ⟨fd, F.ok sc_Both (fun vs H Q E h => ?_) (fun cdv A outer s H vs Q E hr h => ?_), F.bindsN fun _ _ _ _ _ _ us hl => match us, hl with | [_, _, _], _ => rfl, F.kp⟩
  · obtain ⟨a, dx, ws, rfl, hl, _⟩ := h
    exact congrArg Nat.succ hl
  obtain ⟨a, dx, ws, rfl, hl, ha, q⟩ := h
  obtain ⟨v1, v2, rfl⟩ : ∃ v1 v2, ws = [v1, v2] := match ws, hl with | [v1, v2], _ => ⟨v1, v2, rfl⟩
  refine ⟨_, pss_cons (ps_fld (pv 0) (pv 1) rfl) (pss_one (ps_fld (pv 0) (pv 2) rfl)), ?_⟩
  refine ⟨_, rfl, _, rfl, a, _, dx, _, rfl, ha, T.cl_Both, T.n_Both_left, (by show 0 < 1000; decide), ?_⟩
  refine ⟨_, rfl, _, rfl, a, _, dx, _, rfl, upd_same, T.cl_Both, T.n_Both_right, (by show 1 < 1000; decide), ?_⟩
  refine q _ upd_same fun b o hb ho => ?_
  rw [upd_ne hb, upd_ne hb]
  exact ho
theorem sc_Either : FnScope ["self", "left", "right"] ["self", "left", "right"] (defScope s_Either_init) := ⟨rfl, rfl, rfl, by decide +kernel, rfl, by decide +kernel, by decide +kernel⟩
theorem ok_Either (T : Tx K mg) : Ok P w K mg base 1 (He.ma K (He.ga K "Either") "__init__") ["self", "left", "right"] (spI K "Either" ["left", "right"]) := by
  obtain ⟨fd, F⟩ := T.f_Either_init
  refine ⟨fd, F.ok sc_Either (fun vs H Q E h => ?_) (fun cdv A outer s H vs Q E hr h => ?_), F.bindsN fun _ _ _ _ _ _ us hl => match us, hl with | [_, _, _], _ => rfl, F.kp⟩
  · obtain ⟨a, dx, ws, rfl, hl, _⟩ := h
    exact congrArg Nat.succ hl
  obtain ⟨a, dx, ws, rfl, hl, ha, q⟩ := h
  obtain ⟨v1, v2, rfl⟩ : ∃ v1 v2, ws = [v1, v2] := match ws, hl with | [v1, v2], _ => ⟨v1, v2, rfl⟩
  refine ⟨_, pss_cons (ps_fld (pv 0) (pv 1) rfl) (pss_one (ps_fld (pv 0) (pv 2) rfl)), ?_⟩
  refine ⟨_, rfl, _, rfl, a, _, dx, _, rfl, ha, T.cl_Either, T.n_Either_left, (by show 0 < 1000; decide), ?_⟩
  refine ⟨_, rfl, _, rfl, a, _, dx, _, rfl, upd_same, T.cl_Either, T.n_Either_right, (by show 1 < 1000; decide), ?_⟩
  refine q _ upd_same fun b o hb ho => ?_
  rw [upd_ne hb, upd_ne hb]
  exact ho
theorem sc_Number : FnScope ["self", "name", "low", "high", "where"] ["self", "name", "low", "high", "where"] (defScope s_Number_init) := ⟨rfl, rfl, rfl, by decide +kernel, rfl, by decide +kernel, by decide +kernel⟩
theorem ok_Number (T : Tx K mg) {fd : FuncData} (F : FunD K "__init__" "Number.__init__" (defArgs s_Number_init) (defBody s_Number_init) (defScope s_Number_init) [] [("where", V.non)] (He.ma K (He.ga K "Number") "__init__") fd) : FnOk P w K mg base (L2.CX P w) 1 (He.ma K (He.ga K "Number") "__init__") fd ["self", "name", "low", "high", "where"] (spI K "Number" ["name", "low", "high", "where"]) := by
  refine F.ok sc_Number (fun vs H Q E h => ?_) (fun cdv A outer s H vs Q E hr h => ?_)
  · obtain ⟨a, dx, ws, rfl, hl, _⟩ := h
    exact congrArg Nat.succ hl
  obtain ⟨a, dx, ws, rfl, hl, ha, q⟩ := h
  obtain ⟨v1, v2, v3, v4, rfl⟩ : ∃ v1 v2 v3 v4, ws = [v1, v2, v3, v4] := match ws, hl with | [v1, v2, v3, v4], _ => ⟨v1, v2, v3, v4, rfl⟩
  refine ⟨_, pss_cons (ps_fld (pv 0) (pv 1) rfl) (pss_cons (ps_fld (pv 0) (pv 2) rfl) (pss_cons (ps_fld (pv 0) (pv 3) rfl) (pss_one (ps_fld (pv 0) (pv 4) rfl)))), ?_⟩
  refine ⟨_, rfl, _, rfl, a, _, dx, _, rfl, ha, T.cl_Number, T.n_Number_name, (by show 0 < 1000; decide), ?_⟩
  refine ⟨_, rfl, _, rfl, a, _, dx, _, rfl, upd_same, T.cl_Number, T.n_Number_low, (by show 1 < 1000; decide), ?_⟩
  refine ⟨_, rfl, _, rfl, a, _, dx, _, rfl, upd_same, T.cl_Number, T.n_Number_high, (by show 2 < 1000; decide), ?_⟩
  refine ⟨_, rfl, _, rfl, a, _, dx, _, rfl, upd_same, T.cl_Number, T.n_Number_where, (by show 3 < 1000; decide), ?_⟩
  refine q _ upd_same fun b o hb ho => ?_
  rw [upd_ne hb, upd_ne hb, upd_ne hb, upd_ne hb]
  exact ho
theorem sc_Check : FnScope ["self", "name", "must", "where"] ["self", "name", "must", "where"] (defScope s_Check_init) := ⟨rfl, rfl, rfl, by decide +kernel, rfl, by decide +kernel, by decide +kernel⟩
theorem ok_Check (T : Tx K mg) {fd : FuncData} (F : FunD K "__init__" "Check.__init__" (defArgs s_Check_init) (defBody s_Check_init) (defScope s_Check_init) [] [("where", V.non)] (He.ma K (He.ga K "Check") "__init__") fd) : FnOk P w K mg base (L2.CX P w) 1 (He.ma K (He.ga K "Check") "__init__") fd ["self", "name", "must", "where"] (spI K "Check" ["name", "must", "where"]) := by
  refine F.ok sc_Check (fun vs H Q E h => ?_) (fun cdv A outer s H vs Q E hr h => ?_)
  · obtain ⟨a, dx, ws, rfl, hl, _⟩ := h
    exact congrArg Nat.succ hl
  obtain ⟨a, dx, ws, rfl, hl, ha, q⟩ := h
  obtain ⟨v1, v2, v3, rfl⟩ : ∃ v1 v2 v3, ws = [v1, v2, v3] := match ws, hl with | [v1, v2, v3], _ => ⟨v1, v2, v3, rfl⟩
  refine ⟨_, pss_cons (ps_fld (pv 0) (pv 1) rfl) (pss_cons (ps_fld (pv 0) (pv 2) rfl) (pss_one (ps_fld (pv 0) (pv 3) rfl))), ?_⟩
  refine ⟨_, rfl, _, rfl, a, _, dx, _, rfl, ha, T.cl_Check, T.n_Check_name, (by show 0 < 1000; decide), ?_⟩
  refine ⟨_, rfl, _, rfl, a, _, dx, _, rfl, upd_same, T.cl_Check, T.n_Check_must, (by show 1 < 1000; decide), ?_⟩
  refine ⟨_, rfl, _, rfl, a, _, dx, _, rfl, upd_same, T.cl_Check, T.n_Check_where, (by show 2 < 1000; decide), ?_⟩
  refine q _ upd_same fun b o hb ho => ?_
  rw [upd_ne hb, upd_ne hb, upd_ne hb]
  exact ho
theorem sc_One : FnScope ["self", "name", "options", "where"] ["self", "name", "options", "where"] (defScope s_One_init) := ⟨rfl, rfl, rfl, by decide +kernel, rfl, by decide +kernel, by decide +kernel⟩
theorem ok_One (T : Tx K mg) {fd : FuncData} (F : FunD K "__init__" "One.__init__" (defArgs s_One_init) (defBody s_One_init) (defScope s_One_init) [] [("where", V.non)] (He.ma K (He.ga K "One") "__init__") fd) : FnOk P w K mg base (L2.CX P w) 1 (He.ma K (He.ga K "One") "__init__") fd ["self", "name", "options", "where"] (spIT K "One" "name" "options" "where") := by
  refine F.ok sc_One (fun vs H Q E h => ?_) (fun cdv A outer s H vs Q E hr h => ?_)
  · obtain ⟨a, dx, l, v1, v3, xs, rfl, _⟩ := h
    rfl
  obtain ⟨a, dx, l, v1, v3, xs, rfl, hl, ha, q⟩ := h
  refine ⟨_, pss_cons (ps_fld (pv 0) (pv 1) rfl) (pss_cons (ps_fld (pv 0) (pe_callTy call_tuple_of (by rfl) T.z_tuple (by decide +kernel) (pa_cons (pv 2) pa_nil)) rfl) (pss_one (ps_fld (pv 0) (pv 3) rfl))), ?_⟩
  refine ⟨_, rfl, _, rfl, a, _, dx, _, rfl, ha, T.cl_One, T.n_One_name, (by show 0 < 1000; decide), ?_⟩
  have fin : ∀ t H1, H1 a = some (.ins (He.ga K "One") dx [("name", v1)]) → SqT K H1 t xs → (∀ b o, b ≠ a → H b = some o → H1 b = some o) → (tSeq (sFld K (tVar 0) (tC (.ref t)) "options") (sFld K (tVar 0) (tVar 3) "where")) { nx := fun _ H' => Q .non H', rt := Q } (L2.start ["self", "name", "options", "where"] [.ref a, v1, .ref l, v3]) H1 := fun t H1 h1 ht hk => by
    refine ⟨_, rfl, a, _, dx, _, rfl, h1, T.cl_One, T.n_One_options, (by show 1 < 1000; decide), ?_⟩
    refine ⟨_, rfl, _, rfl, a, _, dx, _, rfl, upd_same, T.cl_One, T.n_One_where, (by show 2 < 1000; decide), ?_⟩
    refine q t _ upd_same (SqT.far upd_same (SqT.far h1 ht)) fun b o hb ho => ?_
    rw [upd_ne hb, upd_ne hb]
    exact hk b o hb ho
  rcases hl with hl | hl
  · refine ⟨_, rfl, l, xs, rfl, .inl ⟨SqL.far ha hl, fun t ht => ?_⟩⟩
    refine fin t _ (by rw [upd_ne (ne_of_none upd_same ht)]; exact upd_same) (SqT.of upd_same) fun b o hb ho => ?_
    rw [upd_ne (fun z => by rw [← z, upd_ne hb, ho] at ht; cases ht), upd_ne hb]
    exact ho
  · refine ⟨_, rfl, l, xs, rfl, .inr ⟨SqT.far ha hl, ?_⟩⟩
    refine fin l _ upd_same (SqT.far ha hl) fun b o hb ho => ?_
    rw [upd_ne hb]
    exact ho
theorem sc_Some : FnScope ["self", "name", "options", "where"] ["self", "name", "options", "where"] (defScope s_Some_init) := ⟨rfl, rfl, rfl, by decide +kernel, rfl, by decide +kernel, by decide +kernel⟩
theorem ok_Some (T : Tx K mg) {fd : FuncData} (F : FunD K "__init__" "Some.__init__" (defArgs s_Some_init) (defBody s_Some_init) (defScope s_Some_init) [] [("where", V.non)] (He.ma K (He.ga K "Some") "__init__") fd) : FnOk P w K mg base (L2.CX P w) 1 (He.ma K (He.ga K "Some") "__init__") fd ["self", "name", "options", "where"] (spIT K "Some" "name" "options" "where") := by
  refine F.ok sc_Some (fun vs H Q E h => ?_) (fun cdv A outer s H vs Q E hr h => ?_)
  · obtain ⟨a, dx, l, v1, v3, xs, rfl, _⟩ := h
    rfl
  obtain ⟨a, dx, l, v1, v3, xs, rfl, hl, ha, q⟩ := h
  refine ⟨_, pss_cons (ps_fld (pv 0) (pv 1) rfl) (pss_cons (ps_fld (pv 0) (pe_callTy call_tuple_of (by rfl) T.z_tuple (by decide +kernel) (pa_cons (pv 2) pa_nil)) rfl) (pss_one (ps_fld (pv 0) (pv 3) rfl))), ?_⟩
  refine ⟨_, rfl, _, rfl, a, _, dx, _, rfl, ha, T.cl_Some, T.n_Some_name, (by show 0 < 1000; decide), ?_⟩
  have fin : ∀ t H1, H1 a = some (.ins (He.ga K "Some") dx [("name", v1)]) → SqT K H1 t xs → (∀ b o, b ≠ a → H b = some o → H1 b = some o) → (tSeq (sFld K (tVar 0) (tC (.ref t)) "options") (sFld K (tVar 0) (tVar 3) "where")) { nx := fun _ H' => Q .non H', rt := Q } (L2.start ["self", "name", "options", "where"] [.ref a, v1, .ref l, v3]) H1 := fun t H1 h1 ht hk => by
    refine ⟨_, rfl, a, _, dx, _, rfl, h1, T.cl_Some, T.n_Some_options, (by show 1 < 1000; decide), ?_⟩
    refine ⟨_, rfl, _, rfl, a, _, dx, _, rfl, upd_same, T.cl_Some, T.n_Some_where, (by show 2 < 1000; decide), ?_⟩
    refine q t _ upd_same (SqT.far upd_same (SqT.far h1 ht)) fun b o hb ho => ?_
    rw [upd_ne hb, upd_ne hb]
    exact hk b o hb ho
  rcases hl with hl | hl
  · refine ⟨_, rfl, l, xs, rfl, .inl ⟨SqL.far ha hl, fun t ht => ?_⟩⟩
    refine fin t _ (by rw [upd_ne (ne_of_none upd_same ht)]; exact upd_same) (SqT.of upd_same) fun b o hb ho => ?_
    rw [upd_ne (fun z => by rw [← z, upd_ne hb, ho] at ht; cases ht), upd_ne hb]
    exact ho
  · refine ⟨_, rfl, l, xs, rfl, .inr ⟨SqT.far ha hl, ?_⟩⟩
    refine fin l _ upd_same (SqT.far ha hl) fun b o hb ho => ?_
    rw [upd_ne hb]
    exact ho
theorem sc_Rounds : FnScope ["self", "count", "rows", "where"] ["self", "count", "rows", "where"] (defScope s_Rounds_init) := ⟨rfl, rfl, rfl, by decide +kernel, rfl, by decide +kernel, by decide +kernel⟩
theorem ok_Rounds (T : Tx K mg) {fd : FuncData} (F : FunD K "__init__" "Rounds.__init__" (defArgs s_Rounds_init) (defBody s_Rounds_init) (defScope s_Rounds_init) [] [("where", V.non)] (He.ma K (He.ga K "Rounds") "__init__") fd) : FnOk P w K mg base (L2.CX P w) 1 (He.ma K (He.ga K "Rounds") "__init__") fd ["self", "count", "rows", "where"] (spIT K "Rounds" "count" "rows" "where") := by
  refine F.ok sc_Rounds (fun vs H Q E h => ?_) (fun cdv A outer s H vs Q E hr h => ?_)
  · obtain ⟨a, dx, l, v1, v3, xs, rfl, _⟩ := h
    rfl
  obtain ⟨a, dx, l, v1, v3, xs, rfl, hl, ha, q⟩ := h
  refine ⟨_, pss_cons (ps_fld (pv 0) (pv 1) rfl) (pss_cons (ps_fld (pv 0) (pe_callTy call_tuple_of (by rfl) T.z_tuple (by decide +kernel) (pa_cons (pv 2) pa_nil)) rfl) (pss_one (ps_fld (pv 0) (pv 3) rfl))), ?_⟩
  refine ⟨_, rfl, _, rfl, a, _, dx, _, rfl, ha, T.cl_Rounds, T.n_Rounds_count, (by show 0 < 1000; decide), ?_⟩
  have fin : ∀ t H1, H1 a = some (.ins (He.ga K "Rounds") dx [("count", v1)]) → SqT K H1 t xs → (∀ b o, b ≠ a → H b = some o → H1 b = some o) → (tSeq (sFld K (tVar 0) (tC (.ref t)) "rows") (sFld K (tVar 0) (tVar 3) "where")) { nx := fun _ H' => Q .non H', rt := Q } (L2.start ["self", "count", "rows", "where"] [.ref a, v1, .ref l, v3]) H1 := fun t H1 h1 ht hk => by
    refine ⟨_, rfl, a, _, dx, _, rfl, h1, T.cl_Rounds, T.n_Rounds_rows, (by show 1 < 1000; decide), ?_⟩
    refine ⟨_, rfl, _, rfl, a, _, dx, _, rfl, upd_same, T.cl_Rounds, T.n_Rounds_where, (by show 2 < 1000; decide), ?_⟩
    refine q t _ upd_same (SqT.far upd_same (SqT.far h1 ht)) fun b o hb ho => ?_
    rw [upd_ne hb, upd_ne hb]
    exact hk b o hb ho
  rcases hl with hl | hl
  · refine ⟨_, rfl, l, xs, rfl, .inl ⟨SqL.far ha hl, fun t ht => ?_⟩⟩
    refine fin t _ (by rw [upd_ne (ne_of_none upd_same ht)]; exact upd_same) (SqT.of upd_same) fun b o hb ho => ?_
    rw [upd_ne (fun z => by rw [← z, upd_ne hb, ho] at ht; cases ht), upd_ne hb]
    exact ho
  · refine ⟨_, rfl, l, xs, rfl, .inr ⟨SqT.far ha hl, ?_⟩⟩
    refine fin l _ upd_same (SqT.far ha hl) fun b o hb ho => ?_
    rw [upd_ne hb]
    exact ho
theorem sc_Section : FnScope ["self", "rows", "where"] ["self", "rows", "where"] (defScope s_Section_init) := ⟨rfl, rfl, rfl, by decide +kernel, rfl, by decide +kernel, by decide +kernel⟩
theorem ok_Section (T : Tx K mg) {fd : FuncData} (F : FunD K "__init__" "Section.__init__" (defArgs s_Section_init) (defBody s_Section_init) (defScope s_Section_init) [] [("where", V.non)] (He.ma K (He.ga K "Section") "__init__") fd) : FnOk P w K mg base (L2.CX P w) 1 (He.ma K (He.ga K "Section") "__init__") fd ["self", "rows", "where"] (spIS K) := by
  refine F.ok sc_Section (fun vs H Q E h => ?_) (fun cdv A outer s H vs Q E hr h => ?_)
  · obtain ⟨a, dx, l, v3, xs, rfl, _⟩ := h
    rfl
  obtain ⟨a, dx, l, v3, xs, rfl, hl, ha, q⟩ := h
  refine ⟨_, pss_cons (ps_fld (pv 0) (pe_callTy call_tuple_of (by rfl) T.z_tuple (by decide +kernel) (pa_cons (pv 1) pa_nil)) rfl) (pss_one (ps_fld (pv 0) (pv 2) rfl)), ?_⟩
  have fin : ∀ t H1, H1 a = some (.ins (He.ga K "Section") dx []) → SqT K H1 t xs → (∀ b o, b ≠ a → H b = some o → H1 b = some o) → (tSeq (sFld K (tVar 0) (tC (.ref t)) "rows") (sFld K (tVar 0) (tVar 2) "where")) { nx := fun _ H' => Q .non H', rt := Q } (L2.start ["self", "rows", "where"] [.ref a, .ref l, v3]) H1 := fun t H1 h1 ht hk => by
    refine ⟨_, rfl, a, _, dx, _, rfl, h1, T.cl_Section, T.n_Section_rows, (by show 0 < 1000; decide), ?_⟩
    refine ⟨_, rfl, _, rfl, a, _, dx, _, rfl, upd_same, T.cl_Section, T.n_Section_where, (by show 1 < 1000; decide), ?_⟩
    refine q t _ upd_same (SqT.far upd_same (SqT.far h1 ht)) fun b o hb ho => ?_
    rw [upd_ne hb, upd_ne hb]
    exact hk b o hb ho
  rcases hl with hl | hl
  · refine ⟨_, rfl, l, xs, rfl, .inl ⟨hl, fun t ht => ?_⟩⟩
    refine fin t _ (by rw [upd_ne (ne_of_none ha ht)]; exact ha) (SqT.of upd_same) fun b o hb ho => ?_
    rw [upd_ne (ne_of_none ho ht)]
    exact ho
  · refine ⟨_, rfl, l, xs, rfl, .inr ⟨hl, ?_⟩⟩
    exact fin l _ ha hl fun b o hb ho => ho
end
end K3
end P4_part
section P5_part
set_option Elab.async false
set_option linter.all false
set_option maxRecDepth 100000
set_option maxHeartbeats 1000000
set_option pp.deepTerms true
open PySem PySem.Spec PyProof.Rows L2
/-- go on as far as nothing is open -/
local macro_rules | `(tactic| walk_at "go") => `(tactic| repeat (first
  | with_reducible refine w_seq ?_ | with_reducible refine w_next ?_ | with_reducible refine w_set ?_ | with_reducible refine w_drop ?_ | with_reducible refine w_ret ?_ | with_reducible refine w_retN ?_
  | with_reducible refine w_if ?_ | ((with_reducible refine' w_var ?hv ?_); (case hv => exact rfl)) | with_reducible refine w_c ?_ | with_reducible refine w_nil ?_ | with_reducible refine w_cons ?_ | with_reducible refine w_op ?_ | with_reducible refine w_un ?_
  | with_reducible refine w_test ?_ | with_reducible refine w_tB ?_ | with_reducible refine w_not ?_ | with_reducible refine w_and ?_ | with_reducible refine w_or ?_ | with_reducible refine w_bl ?_
  | with_reducible refine w_andV ?_ | with_reducible refine w_orV ?_ | with_reducible refine w_notV ?_ | with_reducible refine w_ifE ?_ | with_reducible refine w_chain ?_ | with_reducible refine w_i0 ?_
  | with_reducible refine w_call ?_ | with_reducible refine w_callS ?_ | with_reducible refine w_cB ?_ | with_reducible refine w_tup ?_ | with_reducible refine w_lst ?_ | with_reducible refine w_fldV ?_
  | with_reducible refine w_neF ?_ | with_reducible refine w_neT ?_ | with_reducible refine w_notN ?_ | with_reducible refine w_isN ?_ | with_reducible refine w_gname ?_ | with_reducible refine w_gsub ?_ | with_reducible refine w_asg ?_ | with_reducible refine w_yes ?_ | with_reducible refine w_nT ?_ | with_reducible refine w_nF ?_ | with_reducible refine w_iteT ?_ | with_reducible refine w_iteF ?_))
namespace K3
/-! ### conditions laid out -/
def Cd.simp : Cd → List Cd
  | .no c => c.simp
  | .both c d => c.simp ++ d.simp
  | .either c d => c.simp ++ d.simp
  | c => [c]
def Cd.dep : Cd → Nat
  | .no c => c.dep + 1
  | .both c d => max c.dep d.dep + 1
  | .either c d => max c.dep d.dep + 1
  | _ => 0
/-- a new list of objects of these conditions -/
def RetC (K : PySem.W.Frag) (cs : List Cd) (H : Hp) (Q : VK) : Prop := ∀ p H' xs, H p = none → Same H H' → H' p = some (.lst xs) → Paired (CO K H') xs cs → Q (.ref p) H'
def spSimp (K : PySem.W.Frag) (n : Nat) : Sp := fun vs H Q _ => ∃ (v : V) (c : Cd), vs = [v] ∧ CO K H v c ∧ c.dep < n ∧ c.simp.length ≤ 1000 ∧ RetC K c.simp H Q
theorem Paired.same {K : PySem.W.Frag} {H H' : Hp} (e : Same H H') {xs : List V} {cs : List Cd} (h : Paired (CO K H) xs cs) : Paired (CO K H') xs cs := L2.Paired.mapP h fun _ _ q => q.same e
section
variable {P : Program} {w : World} {K : PySem.W.Frag} {mg : Str → Option Value} {base : Heap}
theorem ok_none {f : Addr} {fd : FuncData} {ps : List Str} {sp : Sp} (no : ∀ vs H Q E, ¬ sp vs H Q E) : FnOk P w K mg base (L2.CX P w) 0 f fd ps sp :=
  ⟨fun vs H Q E h => absurd h (no vs H Q E), fun A outer s H args us vs Q E _ _ _ _ h => absurd h (no vs H Q E)⟩
theorem sc_simple_ones : FnScope ["condition"] ["condition"] (defScope s_simple_ones) := ⟨rfl, rfl, rfl, by decide +kernel, rfl, by decide +kernel, by decide +kernel⟩
theorem ok_simple_ones (T : Tx K mg) : ∀ n, Ok P w K mg base n (He.ga K "simple_ones") ["condition"] (spSimp K n) := by
  obtain ⟨fd, F⟩ := T.f_simple_ones
  have b : Binds K fd ["condition"] [] := F.bindsN fun _ _ _ _ _ _ us hl => match us, hl with | [_], _ => rfl
  intro n
  induction n with
  | zero =>
    refine ⟨fd, ok_none fun vs H Q E h => ?_, b, F.kp⟩
    obtain ⟨v, c, _, _, h, _⟩ := h
    omega
  | succ n ih =>
    refine ⟨fd, F.ok sc_simple_ones (fun vs H Q E h => ?_) (fun cdv A outer s H vs Q E hr h => ?_), b, F.kp⟩
    · obtain ⟨v, c, rfl, _⟩ := h
      rfl
    obtain ⟨v, c, rfl, hc, hd, hl, q⟩ := h
    refine ⟨_, pss_cons (ps_if (pt_val (pe_callB call_isi (by rfl) T.z_isinstance (by decide +kernel) (pa_cons (pv 0) (pa_cons (pe_gref T.g_Not) pa_nil)))) (pss_one (ps_ret (pe_f ih hr T.g_simple_ones (pa_cons (pe_fld (pv 0) rfl) pa_nil)))) pss_nil)
      (pss_cons (ps_if (pt_val (pe_callB call_isiT (by rfl) T.z_isinstance (by decide +kernel) (pa_cons (pv 0) (pa_cons (pe_tup (pa_cons (pe_gref T.g_Both) (pa_cons (pe_gref T.g_Either) pa_nil))) pa_nil))))
          (pss_one (ps_ret (pe_op op_cat (pe_f ih hr T.g_simple_ones (pa_cons (pe_fld (pv 0) rfl) pa_nil)) (pe_f ih hr T.g_simple_ones (pa_cons (pe_fld (pv 0) rfl) pa_nil))))) pss_nil)
        (pss_one (ps_ret (pe_lst (pa_cons (pv 0) pa_nil))))), ?_⟩
    walk_at "go"
    refine isiC T hc (y := "Not") (by decide) ?_
    walk_at "go"
    have two : ∀ (x : Str) (a : Addr) (l r : V) (c1 c2 : Cd), c.simp = c1.simp ++ c2.simp → c.dep = max c1.dep c2.dep + 1 → v = .ref a → Ins K H a x [("left", l), ("right", r)] → Cls K (He.ga K x) → NoAttr K (He.ga K x) "left" → NoAttr K (He.ga K x) "right" → CO K H l c1 → CO K H r c2 →
        ∀ (p : Addr) (H1 : Hp), Same H H1 → tRet (tOp rCat (tCall (spSimp K n) [] E0 (tCons (tFld K (tVar 0) "left") tNil)) (tCall (spSimp K n) [] E0 (tCons (tFld K (tVar 0) "right") tNil))) { nx := fun _ H' => Q .non H', rt := Q } (L2.start ["condition"] [v]) H1 := by
      intro x a l r c1 c2 es ed ev hi hcl hn1 hn2 h1 h2 p H1 e1
      subst ev
      have hi1 := hi.same e1
      obtain ⟨dx, hi1⟩ := hi1
      have hl1 : c1.simp.length + c2.simp.length ≤ 1000 := by rw [es, List.length_append] at hl; exact hl
      walk_at "go"
      refine ⟨a, _, dx, _, l, rfl, hi1, hcl, hn1, rfl, ?_⟩
      walk_at "go"
      refine ⟨l, c1, rfl, h1.same e1, by omega, by omega, fun p1 H2 xs1 _ e2 hp1 q1 => ?_⟩
      walk_at "go"
      refine ⟨a, _, dx, _, r, rfl, e2 _ _ hi1, hcl, hn2, rfl, ?_⟩
      walk_at "go"
      refine ⟨r, c2, rfl, (h2.same e1).same e2, by omega, by omega, fun p2 H3 xs2 _ e3 hp2 q2 => ?_⟩
      have g1 := q1.length
      have g2 := q2.length
      refine ⟨p1, p2, xs1, xs2, rfl, rfl, e3 _ _ hp1, hp2, Nat.le_trans (show xs1.length + xs2.length ≤ 1000 by omega) (by decide), fun p3 hp3 => ?_⟩
      have e4 : Same H1 (upd H3 p3 (.lst (xs1 ++ xs2))) := (e2.trans e3).trans (Same.new hp3 _)
      refine q p3 _ _ ((e1.trans (e2.trans e3)).free hp3) (e1.trans e4) upd_same ?_
      rw [es]
      exact K3.Paired.app (K3.Paired.same (e3.trans (Same.new hp3 _)) q1) (K3.Paired.same (Same.new hp3 _) q2)
    have one : c.simp = [c] → tRet (tLst (tCons (tVar 0) tNil)) { nx := fun _ H' => Q .non H', rt := Q } (L2.start ["condition"] [v]) = tRet (tLst (tCons (tVar 0) tNil)) { nx := fun _ H' => Q .non H', rt := Q } (L2.start ["condition"] [v]) ∧
        ∀ H1, Same H H1 → tRet (tLst (tCons (tVar 0) tNil)) { nx := fun _ H' => Q .non H', rt := Q } (L2.start ["condition"] [v]) H1 := fun es => ⟨rfl, fun H1 e1 => by
      walk_at "go"
      refine ⟨(by show 1 ≤ sizeLine; decide), fun p hp => ?_⟩
      refine q p _ [v] (e1.free hp) (e1.trans (Same.new hp _)) upd_same ?_
      rw [es]
      exact .cons (hc.same (e1.trans (Same.new hp _))) .nil⟩
    cases hc with
    | @no a u c' h1 h2 =>
      show if true = true then _ else _
      walk_at "go"
      obtain ⟨dx, h1⟩ := h1
      refine ⟨a, _, dx, _, u, rfl, h1, T.cl_Not, T.n_Not_inner, rfl, ?_⟩
      walk_at "go"
      exact ⟨u, c', rfl, h2, (by have : c'.dep + 1 < n + 1 := hd; omega), hl, q⟩
    | @both a l r c1 c2 h1 h2 h3 =>
      show if false = true then _ else _
      walk_at "go"
      refine ⟨(by show 2 ≤ sizeLine; decide), fun p hp => ?_⟩
      walk_at "go"
      refine isiC2 T (y := "Both") (z := "Either") (c := .both c1 c2) (CO.same (Same.new hp _) (.both h1 h2 h3)) upd_same (by decide) (by decide) ?_
      walk_at "go"
      show if true = true then _ else _
      refine w_iteT ?_
      exact two "Both" a l r c1 c2 rfl rfl rfl h1 T.cl_Both T.n_Both_left T.n_Both_right h2 h3 p _ (Same.new hp _)
    | @either a l r c1 c2 h1 h2 h3 =>
      show if false = true then _ else _
      walk_at "go"
      refine ⟨(by show 2 ≤ sizeLine; decide), fun p hp => ?_⟩
      walk_at "go"
      refine isiC2 T (y := "Both") (z := "Either") (c := .either c1 c2) (CO.same (Same.new hp _) (.either h1 h2 h3)) upd_same (by decide) (by decide) ?_
      walk_at "go"
      show if true = true then _ else _
      refine w_iteT ?_
      exact two "Either" a l r c1 c2 rfl rfl rfl h1 T.cl_Either T.n_Either_left T.n_Either_right h2 h3 p _ (Same.new hp _)
    | @is a x y h1 =>
      show if false = true then _ else _
      walk_at "go"
      refine ⟨(by show 2 ≤ sizeLine; decide), fun p hp => ?_⟩
      walk_at "go"
      refine isiC2 T (y := "Both") (z := "Either") (CO.same (Same.new hp _) (.is h1)) upd_same (by decide) (by decide) ?_
      walk_at "go"
      show if false = true then _ else _
      refine w_iteF ?_
      exact (one rfl).2 _ (Same.new hp _)
    | @has a x y h1 =>
      show if false = true then _ else _
      walk_at "go"
      refine ⟨(by show 2 ≤ sizeLine; decide), fun p hp => ?_⟩
      walk_at "go"
      refine isiC2 T (y := "Both") (z := "Either") (CO.same (Same.new hp _) (.has h1)) upd_same (by decide) (by decide) ?_
      walk_at "go"
      show if false = true then _ else _
      refine w_iteF ?_
      exact (one rfl).2 _ (Same.new hp _)
    | @over a x y h1 =>
      show if false = true then _ else _
      walk_at "go"
      refine ⟨(by show 2 ≤ sizeLine; decide), fun p hp => ?_⟩
      walk_at "go"
      refine isiC2 T (y := "Both") (z := "Either") (CO.same (Same.new hp _) (.over h1)) upd_same (by decide) (by decide) ?_
      walk_at "go"
      show if false = true then _ else _
      refine w_iteF ?_
      exact (one rfl).2 _ (Same.new hp _)
    | @under a x y h1 =>
      show if false = true then _ else _
      walk_at "go"
      refine ⟨(by show 2 ≤ sizeLine; decide), fun p hp => ?_⟩
      walk_at "go"
      refine isiC2 T (y := "Both") (z := "Either") (CO.same (Same.new hp _) (.under h1)) upd_same (by decide) (by decide) ?_
      walk_at "go"
      show if false = true then _ else _
      refine w_iteF ?_
      exact (one rfl).2 _ (Same.new hp _)
end
end K3
end P5_part
section P6_part
set_option Elab.async false
set_option linter.all false
set_option maxRecDepth 100000
set_option maxHeartbeats 1000000
set_option pp.deepTerms true
open PySem PySem.Spec PyProof.Rows L2
/-- go on as far as nothing is open -/
local macro_rules | `(tactic| walk_at "go") => `(tactic| repeat (first
  | with_reducible refine w_seq ?_ | with_reducible refine w_next ?_ | with_reducible refine w_set ?_ | with_reducible refine w_drop ?_ | with_reducible refine w_ret ?_ | with_reducible refine w_retN ?_
  | with_reducible refine w_if ?_ | ((with_reducible refine' w_var ?hv ?_); (case hv => exact rfl)) | with_reducible refine w_c ?_ | with_reducible refine w_nil ?_ | with_reducible refine w_cons ?_ | with_reducible refine w_op ?_ | with_reducible refine w_un ?_
  | with_reducible refine w_test ?_ | with_reducible refine w_tB ?_ | with_reducible refine w_not ?_ | with_reducible refine w_and ?_ | with_reducible refine w_or ?_ | with_reducible refine w_bl ?_
  | with_reducible refine w_andV ?_ | with_reducible refine w_orV ?_ | with_reducible refine w_notV ?_ | with_reducible refine w_ifE ?_ | with_reducible refine w_chain ?_ | with_reducible refine w_i0 ?_
  | with_reducible refine w_call ?_ | with_reducible refine w_callS ?_ | with_reducible refine w_cB ?_ | with_reducible refine w_tup ?_ | with_reducible refine w_lst ?_ | with_reducible refine w_fldV ?_
  | with_reducible refine w_neF ?_ | with_reducible refine w_neT ?_ | with_reducible refine w_notN ?_ | with_reducible refine w_isN ?_ | with_reducible refine w_gname ?_ | with_reducible refine w_gsub ?_ | with_reducible refine w_asg ?_ | with_reducible refine w_yes ?_ | with_reducible refine w_nT ?_ | with_reducible refine w_nF ?_ | with_reducible refine w_iteT ?_ | with_reducible refine w_iteF ?_))
namespace K3
def Rw.isQ : Rw → Bool
  | .one _ _ _ => true | .some _ _ _ => true | .number _ _ _ _ => true | _ => false
def Rw.isN : Rw → Bool
  | .sect _ _ => false | .rounds _ _ _ => false | _ => true
def Rw.wh : Rw → Option Cd
  | .one _ _ w => w | .some _ _ w => w | .number _ _ _ w => w | .check _ _ w => w | .sect _ w => w | .rounds _ _ w => w
def owh : Option Cd → List Cd
  | none => []
  | some c => c.simp
def Rw.mu : Rw → List Cd
  | .check _ m _ => m.simp
  | _ => []
def Rw.conds (r : Rw) : List Cd := owh r.wh ++ r.mu
def odep : Option Cd → Nat
  | none => 0
  | some c => c.dep
def Rw.cdep : Rw → Nat
  | .check _ m w => max m.dep (odep w)
  | r => odep r.wh
theorem CO.ref {K : PySem.W.Frag} {H : Hp} {v : V} {c : Cd} (h : CO K H v c) : ∃ a, v = .ref a := by cases h <;> exact ⟨_, rfl⟩
theorem RO.ref {K : PySem.W.Frag} {H : Hp} {v : V} {r : Rw} (h : RO K H v r) : ∃ a, v = .ref a := by cases h <;> exact ⟨_, rfl⟩
def spRB (K : PySem.W.Frag) (f : Rw → Bool) : Sp := fun vs H Q _ => ∃ (v : V) (r : Rw), vs = [v] ∧ RO K H v r ∧ ∀ H', Same H H' → Q (.bl (f r)) H'
def spConds (K : PySem.W.Frag) (n : Nat) : Sp := fun vs H Q _ => ∃ (v : V) (r : Rw), vs = [v] ∧ RO K H v r ∧ r.cdep < n ∧ (owh r.wh).length ≤ 1000 ∧ r.mu.length ≤ 1000 ∧ RetC K r.conds H Q
section
variable {P : Program} {w : World} {K : PySem.W.Frag} {mg : Str → Option Value} {base : Heap}
/-- the field where of a row -/
theorem ro_where (T : Tx K mg) {H : Hp} {v : V} {r : Rw} (h : RO K H v r) : ∃ a dx fs wv, v = .ref a ∧ H a = some (.ins (He.ga K r.nm) dx fs) ∧ Cls K (He.ga K r.nm) ∧ NoAttr K (He.ga K r.nm) "where" ∧ fs.lookup ("where" : Str) = some wv ∧ WO K H wv r.wh := by
  cases h with
  | one h _ w => obtain ⟨dx, h⟩ := h; exact ⟨_, dx, _, _, rfl, h, T.cl_One, T.n_One_where, rfl, w⟩
  | some h _ w => obtain ⟨dx, h⟩ := h; exact ⟨_, dx, _, _, rfl, h, T.cl_Some, T.n_Some_where, rfl, w⟩
  | number h w => obtain ⟨dx, h⟩ := h; exact ⟨_, dx, _, _, rfl, h, T.cl_Number, T.n_Number_where, rfl, w⟩
  | check h _ w => obtain ⟨dx, h⟩ := h; exact ⟨_, dx, _, _, rfl, h, T.cl_Check, T.n_Check_where, rfl, w⟩
  | sect h _ _ w => obtain ⟨dx, h⟩ := h; exact ⟨_, dx, _, _, rfl, h, T.cl_Section, T.n_Section_where, rfl, w⟩
  | rounds h _ _ w => obtain ⟨dx, h⟩ := h; exact ⟨_, dx, _, _, rfl, h, T.cl_Rounds, T.n_Rounds_where, rfl, w⟩
theorem sc_is_question : FnScope ["row"] ["row"] (defScope s_is_question) := ⟨rfl, rfl, rfl, by decide +kernel, rfl, by decide +kernel, by decide +kernel⟩
theorem ok_is_question (T : Tx K mg) : Ok P w K mg base 1 (He.ga K "is_question") ["row"] (spRB K Rw.isQ) := by
  obtain ⟨fd, F⟩ := T.f_is_question
  refine ⟨fd, F.ok sc_is_question (fun vs H Q E h => ?_) (fun cdv A outer s H vs Q E hr h => ?_), F.bindsN fun _ _ _ _ _ _ us hl => match us, hl with | [_], _ => rfl, F.kp⟩
  · obtain ⟨v, r, rfl, _⟩ := h
    rfl
  obtain ⟨v, r, rfl, hv, q⟩ := h
  refine ⟨_, pss_one (ps_ret (pe_callB call_isiT (by rfl) T.z_isinstance (by decide +kernel) (pa_cons (pv 0) (pa_cons (pe_tup (pa_cons (pe_gref T.g_One) (pa_cons (pe_gref T.g_Some) (pa_cons (pe_gref T.g_Number) pa_nil)))) pa_nil)))), ?_⟩
  walk_at "go"
  refine ⟨(by show 3 ≤ sizeLine; decide), fun p hp => ?_⟩
  walk_at "go"
  refine isiR3 T (y := "One") (z := "Some") (x := "Number") (hv.same (Same.new hp _)) upd_same (by decide) (by decide) (by decide) ?_
  have := q _ (Same.new hp (.tup [.ref (He.ga K "One"), .ref (He.ga K "Some"), .ref (He.ga K "Number")]))
  cases r <;> exact this
theorem sc_is_named : FnScope ["row"] ["row"] (defScope s_is_named) := ⟨rfl, rfl, rfl, by decide +kernel, rfl, by decide +kernel, by decide +kernel⟩
theorem ok_is_named (T : Tx K mg) : Ok P w K mg base 2 (He.ga K "is_named") ["row"] (spRB K Rw.isN) := by
  obtain ⟨fd, F⟩ := T.f_is_named
  refine ⟨fd, F.ok sc_is_named (fun vs H Q E h => ?_) (fun cdv A outer s H vs Q E hr h => ?_), F.bindsN fun _ _ _ _ _ _ us hl => match us, hl with | [_], _ => rfl, F.kp⟩
  · obtain ⟨v, r, rfl, _⟩ := h
    rfl
  obtain ⟨v, r, rfl, hv, q⟩ := h
  refine ⟨_, pss_one (ps_ret (pe_or (pe_f (ok_is_question T) (hr.mono (by decide)) T.g_is_question (pa_cons (pv 0) pa_nil)) (pe_one (pe_callB call_isi (by rfl) T.z_isinstance (by decide +kernel) (pa_cons (pv 0) (pa_cons (pe_gref T.g_Check) pa_nil)))))), ?_⟩
  walk_at "go"
  refine ⟨v, r, rfl, hv, fun H1 e1 => ?_⟩
  have hv1 := hv.same e1
  have q1 := q H1 e1
  cases hq : r.isQ with
  | true =>
    walk_at "go"
    cases r <;> first | exact q1 | cases hq
  | false =>
    walk_at "go"
    refine isiR T (y := "Check") hv1 (by decide) ?_
    cases r <;> first | exact q1 | cases hq
theorem sc_conditions_of : FnScope ["row", "conditions"] ["row"] (defScope s_conditions_of) := ⟨rfl, rfl, rfl, by decide +kernel, rfl, by decide +kernel, by decide +kernel⟩
theorem ok_conditions_of (T : Tx K mg) (n : Nat) : Ok P w K mg base (n + 1) (He.ga K "conditions_of") ["row"] (spConds K n) := by
  obtain ⟨fd, F⟩ := T.f_conditions_of
  refine ⟨fd, F.ok sc_conditions_of (fun vs H Q E h => ?_) (fun cdv A outer s H vs Q E hr h => ?_), F.bindsN fun _ _ _ _ _ _ us hl => match us, hl with | [_], _ => rfl, F.kp⟩
  · obtain ⟨v, r, rfl, _⟩ := h
    rfl
  obtain ⟨v, r, rfl, hv, hd, l1, l2, q⟩ := h
  refine ⟨_, pss_cons (ps_set (i := 1) sc_conditions_of.nd rfl (Or.inl rfl) (pe_lst pa_nil))
    (pss_cons (ps_if (pt_cmp (pc_notN (pe_fld (pv 0) rfl))) (pss_one (ps_expr (pe_bm PySem.F.plainAttrs_list PySem.F.slot_list_extend PySem.F.type_list_extend mt_extend (pv 1) (pa_cons (pe_f (ok_simple_ones T n) hr T.g_simple_ones (pa_cons (pe_fld (pv 0) rfl) pa_nil)) pa_nil)))) pss_nil)
    (pss_cons (ps_if (pt_val (pe_callB call_isi (by rfl) T.z_isinstance (by decide +kernel) (pa_cons (pv 0) (pa_cons (pe_gref T.g_Check) pa_nil)))) (pss_one (ps_expr (pe_bm PySem.F.plainAttrs_list PySem.F.slot_list_extend PySem.F.type_list_extend mt_extend (pv 1) (pa_cons (pe_f (ok_simple_ones T n) hr T.g_simple_ones (pa_cons (pe_fld (pv 0) rfl) pa_nil)) pa_nil)))) pss_nil)
    (pss_one (ps_ret (pv 1))))), ?_⟩
  walk_at "go"
  refine ⟨Nat.zero_le _, fun p hp => ?_⟩
  walk_at "go"
  obtain ⟨a, dx, fs, wv, rfl, hi, hcl, hn, hlk, hw⟩ := ro_where T hv
  have stp : ∀ (H1 : Hp) (xs : List V) (cs : List Cd) (u : V) (c : Cd), Same H H1 → H1 p = some (.lst xs) → Paired (CO K H1) xs cs → xs.length ≤ 1000 → CO K H1 u c → c.dep < n → c.simp.length ≤ 1000 → ∀ (G : VK), (∀ H2 ys, Same H H2 → H2 p = some (.lst (xs ++ ys)) → Paired (CO K H2) (xs ++ ys) (cs ++ c.simp) → (xs ++ ys).length ≤ 2000 → G .non H2) →
      spSimp K n ([u] ++ []) H1 (fun x H2 => tNil (L2.start ["row"] []) H2 fun ys H3 => rExtend (.ref p) (x :: ys) H3 G) E0 := by
    intro H1 xs cs u c e1 h1 hx hxl hu hdc hlc G k
    refine ⟨u, c, rfl, hu, hdc, hlc, fun p2 H2 ys hp2n e2 hp2 hys => ?_⟩
    have ly := hys.length
    have lx := hx.length
    refine ⟨p, p2, xs, ys, rfl, rfl, e2 _ _ h1, hp2, Nat.le_trans (show xs.length + ys.length ≤ 2000 by omega) (by decide), ?_⟩
    have si : SI H2 (upd H2 p (.lst (xs ++ ys))) := SI.upd (e2 _ _ h1) rfl _
    refine k _ ys ((e1.trans e2).mut hp) upd_same ?_ (by rw [List.length_append]; omega)
    exact K3.Paired.app (L2.Paired.mapP hx fun _ _ q => (q.same e2).si si) (L2.Paired.mapP hys fun _ _ q => q.si si)
  have tail : ∀ (H1 : Hp) (xs : List V), Same H H1 → H1 p = some (.lst xs) → Paired (CO K H1) xs (owh r.wh) →
      (tSeq (tIfS (tB (tCB (rIsi K) (tCons (tVar 0) (tCons (tC (.ref (He.ga K "Check"))) tNil)))) (tDrop (tBM K "list" rExtend (tVar 1) (tCons (tCall (spSimp K n) [] E0 (tCons (tFld K (tVar 0) "must") tNil)) tNil))) tNext) (tRet (tVar 1)))
        { nx := fun _ H' => Q .non H', rt := Q } [some (.ref a), some (.ref p)] H1 := by
    intro H1 xs e1 h1 hx
    have lx := hx.length
    have hv1 := hv.same e1
    walk_at "go"
    refine isiR T hv1 (y := "Check") (by decide) ?_
    walk_at "go"
    have fin : r.mu = [] → Q (.ref p) H1 := fun hm => q p H1 xs hp e1 h1 (by unfold Rw.conds; rw [hm, List.append_nil]; exact hx)
    cases hv1 with
    | check h hm hw =>
      obtain ⟨dx2, h⟩ := h
      show if true = true then _ else _
      refine w_iteT ?_
      walk_at "go"
      refine ⟨_, rfl, .inl ⟨rfl, _, SqL.of h1⟩, ?_⟩
      walk_at "go"
      refine ⟨a, _, dx2, _, _, rfl, h, T.cl_Check, T.n_Check_must, rfl, ?_⟩
      walk_at "go"
      refine stp H1 xs _ _ _ e1 h1 hx (by rw [lx]; exact l1) hm ?_ l2 _ fun H2 ys e2 h2 hp2 _ => ?_
      · exact Nat.lt_of_le_of_lt (Nat.le_max_left _ _) hd
      · walk_at "go"
        exact q p H2 _ hp e2 h2 hp2
    | _ =>
      show if false = true then _ else _
      refine w_iteF ?_
      exact ⟨_, rfl, fin rfl⟩
  refine ⟨a, _, dx, fs, wv, rfl, Same.new hp _ _ _ hi, hcl, hn, hlk, ?_⟩
  walk_at "go"
  have hdw : odep r.wh < n := by
    cases r <;> first | exact hd | exact Nat.lt_of_le_of_lt (Nat.le_max_right _ _) hd
  generalize hr' : r.wh = o at hw tail l1 hdw
  cases hw with
  | none =>
    walk_at "go"
    exact tail _ [] (Same.new hp _) upd_same .nil
  | @some _ c hc =>
    obtain ⟨a', rfl⟩ := hc.ref
    walk_at "go"
    refine ⟨_, rfl, .inl ⟨rfl, _, SqL.of upd_same⟩, ?_⟩
    walk_at "go"
    refine ⟨a, _, dx, fs, _, rfl, Same.new hp _ _ _ hi, hcl, hn, hlk, ?_⟩
    walk_at "go"
    refine stp _ [] [] _ c (Same.new hp _) upd_same .nil (Nat.zero_le _) (hc.same (Same.new hp _)) hdw l1 _ fun H2 ys e2 h2 hp2 _ => ?_
    exact tail H2 _ e2 h2 hp2
end
end K3
end P6_part
section P7_part
set_option Elab.async false
set_option linter.all false
set_option maxRecDepth 100000
set_option maxHeartbeats 1000000
set_option pp.deepTerms true
open PySem PySem.Spec PyProof.Rows L2
/-- go on as far as nothing is open -/
local macro_rules | `(tactic| walk_at "go") => `(tactic| repeat (first
  | with_reducible refine w_seq ?_ | with_reducible refine w_next ?_ | with_reducible refine w_set ?_ | with_reducible refine w_drop ?_ | with_reducible refine w_ret ?_ | with_reducible refine w_retN ?_
  | with_reducible refine w_if ?_ | ((with_reducible refine' w_var ?hv ?_); (case hv => exact rfl)) | with_reducible refine w_c ?_ | with_reducible refine w_nil ?_ | with_reducible refine w_cons ?_ | with_reducible refine w_op ?_ | with_reducible refine w_un ?_
  | with_reducible refine w_test ?_ | with_reducible refine w_tB ?_ | with_reducible refine w_not ?_ | with_reducible refine w_and ?_ | with_reducible refine w_or ?_ | with_reducible refine w_bl ?_
  | with_reducible refine w_andV ?_ | with_reducible refine w_orV ?_ | with_reducible refine w_notV ?_ | with_reducible refine w_ifE ?_ | with_reducible refine w_chain ?_ | with_reducible refine w_i0 ?_
  | with_reducible refine w_call ?_ | with_reducible refine w_callS ?_ | with_reducible refine w_cB ?_ | with_reducible refine w_tup ?_ | with_reducible refine w_lst ?_ | with_reducible refine w_fldV ?_
  | with_reducible refine w_neF ?_ | with_reducible refine w_neT ?_ | with_reducible refine w_notN ?_ | with_reducible refine w_isN ?_ | with_reducible refine w_gname ?_ | with_reducible refine w_gsub ?_ | with_reducible refine w_asg ?_ | with_reducible refine w_yes ?_ | with_reducible refine w_nT ?_ | with_reducible refine w_nF ?_ | with_reducible refine w_iteT ?_ | with_reducible refine w_iteF ?_))
namespace K3
def oV : Option Nat → V
  | none => .non
  | some n => .int (n : Int)
mutual
def Rw.cnt : Rw → Nat
  | .sect rs _ => 1 + Rws.cnt rs
  | .rounds _ rs _ => 1 + Rws.cnt rs
  | _ => 1
def Rws.cnt : List Rw → Nat
  | [] => 0
  | r :: rs => r.cnt + Rws.cnt rs
end
mutual
def Rw.dep : Rw → Nat
  | .sect rs _ => 1 + Rws.dep rs
  | .rounds _ rs _ => 1 + Rws.dep rs
  | _ => 0
def Rws.dep : List Rw → Nat
  | [] => 0
  | r :: rs => max r.dep (Rws.dep rs)
end
mutual
def Rw.flat : Rw → Option Nat → Nat → List (Rw × Option Nat)
  | .sect rs w, ar, n => (.sect rs w, ar) :: Rws.flat rs ar (n + 1)
  | .rounds c rs w, ar, n => (.rounds c rs w, ar) :: Rws.flat rs (some n) (n + 1)
  | .one n os w, ar, _ => [(.one n os w, ar)]
  | .some n os w, ar, _ => [(.some n os w, ar)]
  | .number n l h w, ar, _ => [(.number n l h w, ar)]
  | .check n m w, ar, _ => [(.check n m w, ar)]
def Rws.flat : List Rw → Option Nat → Nat → List (Rw × Option Nat)
  | [], _, _ => []
  | r :: rs, ar, n => r.flat ar n ++ Rws.flat rs ar (n + r.cnt)
end
mutual
theorem Rw.flat_len : ∀ (r : Rw) (ar : Option Nat) (n : Nat), (r.flat ar n).length = r.cnt
  | .sect rs w, ar, n => by unfold Rw.flat Rw.cnt; rw [List.length_cons, Rws.flat_len rs]; omega
  | .rounds c rs w, ar, n => by unfold Rw.flat Rw.cnt; rw [List.length_cons, Rws.flat_len rs]; omega
  | .one _ _ _, _, _ => by unfold Rw.flat Rw.cnt; rfl
  | .some _ _ _, _, _ => by unfold Rw.flat Rw.cnt; rfl
  | .number _ _ _ _, _, _ => by unfold Rw.flat Rw.cnt; rfl
  | .check _ _ _, _, _ => by unfold Rw.flat Rw.cnt; rfl
theorem Rws.flat_len : ∀ (rs : List Rw) (ar : Option Nat) (n : Nat), (Rws.flat rs ar n).length = Rws.cnt rs
  | [], _, _ => by unfold Rws.flat Rws.cnt; rfl
  | r :: rs, ar, n => by unfold Rws.flat Rws.cnt; rw [List.length_append, Rw.flat_len r, Rws.flat_len rs]
end
theorem Rws.flat_app (r : Rw) (ar : Option Nat) : ∀ (rs : List Rw) (n : Nat), Rws.flat (rs ++ [r]) ar n = Rws.flat rs ar n ++ r.flat ar (n + Rws.cnt rs)
  | [], n => by
    show Rws.flat [r] ar n = _
    unfold Rws.flat Rws.flat Rws.cnt
    simp
  | q :: rs, n => by
    show Rws.flat (q :: (rs ++ [r])) ar n = _
    have ih := Rws.flat_app r ar rs (n + q.cnt)
    rw [Rws.flat, ih, Rws.flat, Rws.cnt, List.append_assoc, Nat.add_assoc]
theorem Rws.cnt_app (r : Rw) : ∀ rs : List Rw, Rws.cnt (rs ++ [r]) = Rws.cnt rs + r.cnt
  | [] => by show Rws.cnt [r] = _; unfold Rws.cnt Rws.cnt; omega
  | q :: rs => by
    show Rws.cnt (q :: (rs ++ [r])) = _
    rw [Rws.cnt, Rws.cnt_app r rs, Rws.cnt]
    omega
theorem Rws.cnt_take : ∀ (rs : List Rw) (i : Nat), Rws.cnt (rs.take i) ≤ Rws.cnt rs
  | [], i => by simp
  | r :: rs, 0 => by simp [Rws.cnt]
  | r :: rs, i + 1 => by
    have := Rws.cnt_take rs i
    show Rws.cnt (r :: rs.take i) ≤ _
    rw [Rws.cnt, Rws.cnt]
    omega
theorem Rws.dep_get : ∀ {rs : List Rw} {i : Nat} {r : Rw}, rs[i]? = some r → r.dep ≤ Rws.dep rs
  | [], i, r, h => by simp at h
  | q :: rs, 0, r, h => by
    have e : q = r := by simpa using h
    rw [Rws.dep, e]
    omega
  | q :: rs, i + 1, r, h => by
    have := Rws.dep_get (rs := rs) (i := i) (r := r) (by simpa using h)
    rw [Rws.dep]
    omega
theorem ROs.get {K : PySem.W.Frag} {H : Hp} : ∀ {vs : List V} {rs : List Rw}, ROs K H vs rs → ∀ {i : Nat} {v : V}, vs[i]? = some v → ∃ r, rs[i]? = some r ∧ RO K H v r
  | _, _, .nil, i, v, h => by simp at h
  | _, _, .cons a t, 0, v, h => ⟨_, rfl, by have e := Option.some.inj (show some _ = some v from h); rw [← e]; exact a⟩
  | _, _, .cons a t, i + 1, v, h => ROs.get t (i := i) (by simpa using h)
theorem ROs.length {K : PySem.W.Frag} {H : Hp} : ∀ {vs : List V} {rs : List Rw}, ROs K H vs rs → vs.length = rs.length
  | _, _, .nil => rfl
  | _, _, .cons _ t => congrArg Nat.succ (ROs.length t)
/-- an entry of laid: a tuple of the row and its place of rounds -/
def LE (K : PySem.W.Frag) (H : Hp) (v : V) (e : Rw × Option Nat) : Prop := ∃ t u, v = .ref t ∧ H t = some (.tup [u, oV e.2]) ∧ RO K H u e.1
theorem LE.si {K : PySem.W.Frag} {H H' : Hp} {v : V} {e : Rw × Option Nat} (s : SI H H') (h : LE K H v e) : LE K H' v e := let ⟨t, u, e1, e2, e3⟩ := h; ⟨t, u, e1, s _ _ rfl e2, RO.si s e3⟩
abbrev LA (K : PySem.W.Frag) (H : Hp) : List V → List (Rw × Option Nat) → Prop := Paired (LE K H)
theorem LA.si {K : PySem.W.Frag} {H H' : Hp} (s : SI H H') {vs : List V} {l : List (Rw × Option Nat)} (h : LA K H vs l) : LA K H' vs l := L2.Paired.mapP h fun _ _ q => q.si s
/-- all but l stands -/
def But (l : Addr) (H H' : Hp) : Prop := ∀ b o, b ≠ l → H b = some o → H' b = some o
theorem But.si {l : Addr} {H H' : Hp} (h : But l H H') {xs : List V} (hl : H l = some (.lst xs)) : SI H H' := fun b o k q => h b o (fun z => by rw [z, hl] at q; cases q; cases k) q
theorem But.trans {l : Addr} {H H1 H2 : Hp} (a : But l H H1) (b : But l H1 H2) : But l H H2 := fun c o k q => b c o k (a c o k q)
theorem Same.but {l : Addr} {H H1 : Hp} (a : Same H H1) : But l H H1 := fun c o _ q => a c o q
theorem But.upd {l : Addr} {H : Hp} (o : HO) : But l H (upd H l o) := fun b u k q => by rw [upd_ne k]; exact q
def spLay (K : PySem.W.Frag) (n : Nat) : Sp := fun vs H Q _ => ∃ (a l : Addr) (ar : Option Nat) (xs ys : List V) (rs : List Rw), vs = [.ref a, oV ar, .ref l] ∧ SqT K H a xs ∧ ROs K H xs rs ∧ Rws.dep rs < n ∧ H l = some (.lst ys) ∧ ys.length + Rws.cnt rs ≤ 1000 ∧
  ∀ H' zs, But l H H' → H' l = some (.lst (ys ++ zs)) → LA K H' zs (Rws.flat rs ar ys.length) → Q .non H'
section
variable {P : Program} {w : World} {K : PySem.W.Frag} {mg : Str → Option Value} {base : Heap}
theorem sc_lay_out : FnScope ["rows", "around", "laid", "row", "place"] ["rows", "around", "laid"] (defScope s_lay_out) := ⟨rfl, rfl, rfl, by decide +kernel, rfl, by decide +kernel, by decide +kernel⟩
theorem ok_lay_out (T : Tx K mg) : ∀ n, Ok P w K mg base n (He.ga K "lay_out") ["rows", "around", "laid"] (spLay K n) := by
  obtain ⟨fd, F⟩ := T.f_lay_out
  have b : Binds K fd ["rows", "around", "laid"] [] := F.bindsN fun _ _ _ _ _ _ us hl => match us, hl with | [_, _, _], _ => rfl
  intro n
  induction n with
  | zero =>
    refine ⟨fd, ok_none fun vs H Q E h => ?_, b, F.kp⟩
    obtain ⟨_, _, _, _, _, _, _, _, _, h, _⟩ := h
    omega
  | succ n ih =>
    refine ⟨fd, F.ok sc_lay_out (fun vs H Q E h => ?_) (fun cdv A outer s H vs Q E hr h => ?_), b, F.kp⟩
    · obtain ⟨a, l, ar, xs, ys, rs, rfl, _⟩ := h
      rfl
    obtain ⟨a, l, ar, xs, ys, rs, rfl, ha, hx, hd, hl, hz, q⟩ := h
    refine ⟨_, pss_one (ps_for (passes_of rfl) rfl (pi_tup (pv 0)) (pg_name (i := 3) sc_lay_out.nd rfl (Or.inl rfl))
      (pss_cons (ps_set (i := 4) sc_lay_out.nd rfl (Or.inl rfl) (pe_callB call_len_seq (by rfl) T.z_len PySem.boot_len (pa_cons (pv 2) pa_nil)))
      (pss_cons (ps_expr (pe_bm PySem.F.plainAttrs_list PySem.F.slot_list_append PySem.F.type_list_append mt_append (pv 2) (pa_cons (pe_tup (pa_cons (pv 3) (pa_cons (pv 1) pa_nil))) pa_nil)))
      (pss_cons (ps_if (pt_val (pe_callB call_isi (by rfl) T.z_isinstance (by decide +kernel) (pa_cons (pv 3) (pa_cons (pe_gref T.g_Section) pa_nil)))) (pss_one (ps_expr (pe_f ih hr T.g_lay_out (pa_cons (pe_fld (pv 3) rfl) (pa_cons (pv 1) (pa_cons (pv 2) pa_nil)))))) pss_nil)
      (pss_one (ps_if (pt_val (pe_callB call_isi (by rfl) T.z_isinstance (by decide +kernel) (pa_cons (pv 3) (pa_cons (pe_gref T.g_Rounds) pa_nil)))) (pss_one (ps_expr (pe_f ih hr T.g_lay_out (pa_cons (pe_fld (pv 3) rfl) (pa_cons (pv 4) (pa_cons (pv 2) pa_nil)))))) pss_nil)))))), ?_⟩
    walk_at "go"
    refine ⟨_, rfl, a, rfl, ⟨_, ha⟩, ?_⟩
    refine for_tup (K := K) (a := a) (xs := xs) (fun (i : Nat) σ H' => ∃ v v' : Option V, σ = [some (.ref a), some (oV ar), some (.ref l), v, v'] ∧ But l H H' ∧
      ∃ zs, H' l = some (.lst (ys ++ zs)) ∧ LA K H' zs (Rws.flat (rs.take i) ar ys.length)) ⟨none, none, rfl, fun _ _ _ h => h, [], by rw [List.append_nil]; exact hl, by show LA K H [] (Rws.flat [] ar ys.length); rw [Rws.flat]; exact .nil⟩
      (fun i σ H' _ ⟨_, _, _, e, _⟩ => (e.si hl).sqt ha) ?_ ?_
    · rintro i x σ H1 hi ⟨v, v', rfl, e1, zs, h1, hzs⟩
      obtain ⟨r, hr1, hxr⟩ := hx.get hi
      have hlt : i < rs.length := (List.getElem?_eq_some_iff.mp hr1).1
      have hxr1 := RO.si (e1.si hl) hxr
      have hdr := Rws.dep_get hr1
      have lz := hzs.length
      rw [Rws.flat_len] at lz
      have tk : rs.take (i + 1) = rs.take i ++ [r] := by rw [List.take_add_one, hr1] <;> rfl
      have hc1 : Rws.cnt (rs.take i) + r.cnt ≤ Rws.cnt rs := by
        have := Rws.cnt_take rs (i + 1)
        rw [tk, Rws.cnt_app] at this
        exact this
      walk_at "go"
      refine ⟨l, _, rfl, .inl (SqL.of h1), ?_⟩
      walk_at "go"
      refine ⟨_, rfl, .inl ⟨rfl, _, SqL.of h1⟩, ?_⟩
      walk_at "go"
      refine ⟨(by show 2 ≤ sizeLine; decide), fun t ht => ?_⟩
      have h1t : upd H1 t (.tup [x, oV ar]) l = some (.lst (ys ++ zs)) := Same.new ht _ _ _ h1
      have lyz : (ys ++ zs).length = ys.length + Rws.cnt (rs.take i) := by rw [List.length_append, lz]
      walk_at "go"
      refine ⟨l, _, _, rfl, rfl, h1t, Nat.lt_of_le_of_lt (show (ys ++ zs).length ≤ 1000 by omega) (by decide), ?_⟩
      have elen : (ys ++ zs ++ [V.ref t]).length = ys.length + Rws.cnt (rs.take i) + 1 := by rw [List.length_append, lyz]; rfl
      have s2 : SI H1 (upd (upd H1 t (.tup [x, oV ar])) l (.lst (ys ++ zs ++ [.ref t]))) := (Same.new ht _).si.trans (SI.upd h1t rfl _)
      have e2 : But l H1 (upd (upd H1 t (.tup [x, oV ar])) l (.lst (ys ++ zs ++ [.ref t]))) := (K3.Same.but (Same.new ht _)).trans (But.upd _)
      have h2 : (upd (upd H1 t (.tup [x, oV ar])) l (.lst (ys ++ zs ++ [.ref t]))) l = some (.lst (ys ++ zs ++ [.ref t])) := upd_same
      have ht2 : (upd (upd H1 t (.tup [x, oV ar])) l (.lst (ys ++ zs ++ [.ref t]))) t = some (.tup [x, oV ar]) := by
        rw [upd_ne (fun z => by rw [← z, ht] at h1; cases h1)]
        exact upd_same
      generalize upd (upd H1 t (.tup [x, oV ar])) l (.lst (ys ++ zs ++ [.ref t])) = H2 at s2 e2 h2 ht2
      have hx2 := RO.si s2 hxr1
      have entry : LE K H2 (.ref t) (r, ar) := ⟨t, x, rfl, ht2, hx2⟩
      have fin : ∀ (H3 : Hp) (zs3 : List V) (L3 : List (Rw × Option Nat)), But l H2 H3 → H3 l = some (.lst (ys ++ zs ++ [.ref t] ++ zs3)) → LA K H3 zs3 L3 → r.flat ar (ys.length + Rws.cnt (rs.take i)) = (r, ar) :: L3 →
          But l H H3 ∧ ∃ zs, H3 l = some (.lst (ys ++ zs)) ∧ LA K H3 zs (Rws.flat (rs.take (i + 1)) ar ys.length) := by
        intro H3 zs3 L3 e3 h3 l3 ef
        refine ⟨(e1.trans e2).trans e3, zs ++ .ref t :: zs3, by rw [h3]; simp, ?_⟩
        rw [tk, Rws.flat_app, ef]
        exact K3.Paired.app (LA.si (s2.trans (e3.si h2)) hzs) (.cons (LE.si (e3.si h2) entry) l3)
      walk_at "go"
      refine isiR T hx2 (y := "Section") (by decide) ?_
      walk_at "go"
      cases hx2 with
      | @sect a2 t2 xs2 rs2 w2 wv2 hi2 ht' hrs2 hw2 =>
        obtain ⟨dx2, hi2⟩ := id hi2
        show if true = true then _ else _
        walk_at "go"
        refine ⟨a2, _, dx2, _, _, rfl, hi2, T.cl_Section, T.n_Section_rows, rfl, ?_⟩
        walk_at "go"
        refine ⟨t2, l, ar, xs2, ys ++ zs ++ [.ref t], rs2, rfl, ht', hrs2, ?_, h2, ?_, fun H3 zs3 e3 h3 l3 => ?_⟩
        · rw [Rw.dep] at hdr
          omega
        · rw [Rw.cnt] at hc1
          rw [List.length_append, lyz, List.length_singleton]
          omega
        · have hx3 := RO.si (e3.si h2) (.sect (rs := rs2) ⟨dx2, hi2⟩ ht' hrs2 hw2)
          walk_at "go"
          refine isiR T hx3 (y := "Rounds") (by decide) ?_
          walk_at "go"
          show if false = true then _ else _
          refine w_iteF ?_
          rw [elen] at l3
          exact ⟨_, _, rfl, fin H3 zs3 _ e3 h3 l3 (by rw [Rw.flat])⟩
      | @rounds a2 t2 c2 xs2 rs2 w2 wv2 hi2 ht' hrs2 hw2 =>
        show if false = true then _ else _
        refine w_iteF ?_
        have hx3 : RO K H2 (.ref a2) (.rounds c2 rs2 w2) := .rounds hi2 ht' hrs2 hw2
        obtain ⟨dx2, hi2⟩ := id hi2
        walk_at "go"
        refine isiR T hx3 (y := "Rounds") (by decide) ?_
        walk_at "go"
        show if true = true then _ else _
        walk_at "go"
        refine ⟨a2, _, dx2, _, _, rfl, hi2, T.cl_Rounds, T.n_Rounds_rows, rfl, ?_⟩
        walk_at "go"
        refine ⟨t2, l, some (ys ++ zs).length, xs2, ys ++ zs ++ [.ref t], rs2, rfl, ht', hrs2, ?_, h2, ?_, fun H3 zs3 e3 h3 l3 => ?_⟩
        · rw [Rw.dep] at hdr
          omega
        · rw [Rw.cnt] at hc1
          rw [List.length_append, lyz, List.length_singleton]
          omega
        · walk_at "go"
          rw [elen, lyz] at l3
          exact ⟨_, _, rfl, fin H3 zs3 _ e3 h3 l3 (by rw [Rw.flat])⟩
      | one h1' h2' h3' =>
        show if false = true then _ else _
        refine w_iteF ?_
        walk_at "go"
        refine isiR T (.one h1' h2' h3') (y := "Rounds") (by decide) ?_
        walk_at "go"
        show if false = true then _ else _
        refine w_iteF ?_
        exact ⟨_, _, rfl, fin _ [] [] (fun _ _ _ h => h) (by rw [h2, List.append_nil]) .nil (by rw [Rw.flat])⟩
      | some h1' h2' h3' =>
        show if false = true then _ else _
        refine w_iteF ?_
        walk_at "go"
        refine isiR T (.some h1' h2' h3') (y := "Rounds") (by decide) ?_
        walk_at "go"
        show if false = true then _ else _
        refine w_iteF ?_
        exact ⟨_, _, rfl, fin _ [] [] (fun _ _ _ h => h) (by rw [h2, List.append_nil]) .nil (by rw [Rw.flat])⟩
      | number h1' h2' =>
        show if false = true then _ else _
        refine w_iteF ?_
        walk_at "go"
        refine isiR T (.number h1' h2') (y := "Rounds") (by decide) ?_
        walk_at "go"
        show if false = true then _ else _
        refine w_iteF ?_
        exact ⟨_, _, rfl, fin _ [] [] (fun _ _ _ h => h) (by rw [h2, List.append_nil]) .nil (by rw [Rw.flat])⟩
      | check h1' h2' h3' =>
        show if false = true then _ else _
        refine w_iteF ?_
        walk_at "go"
        refine isiR T (.check h1' h2' h3') (y := "Rounds") (by decide) ?_
        walk_at "go"
        show if false = true then _ else _
        refine w_iteF ?_
        exact ⟨_, _, rfl, fin _ [] [] (fun _ _ _ h => h) (by rw [h2, List.append_nil]) .nil (by rw [Rw.flat])⟩
    · rintro σ H1 ⟨v, v', rfl, e1, zs, h1, hzs⟩
      rw [hx.length, List.take_length] at hzs
      exact q H1 zs e1 h1 hzs
end
end K3
end P7_part
section P8_part
set_option Elab.async false
set_option linter.all false
set_option maxRecDepth 100000
set_option maxHeartbeats 1000000
set_option pp.deepTerms true
open PySem PySem.Spec PyProof.Rows L2
/-- go on as far as nothing is open -/
local macro_rules | `(tactic| walk_at "go") => `(tactic| repeat (first
  | with_reducible refine w_seq ?_ | with_reducible refine w_next ?_ | with_reducible refine w_set ?_ | with_reducible refine w_drop ?_ | with_reducible refine w_ret ?_ | with_reducible refine w_retN ?_
  | with_reducible refine w_if ?_ | ((with_reducible refine' w_var ?hv ?_); (case hv => exact rfl)) | with_reducible refine w_c ?_ | with_reducible refine w_nil ?_ | with_reducible refine w_cons ?_ | with_reducible refine w_op ?_ | with_reducible refine w_un ?_
  | with_reducible refine w_test ?_ | with_reducible refine w_tB ?_ | with_reducible refine w_not ?_ | with_reducible refine w_and ?_ | with_reducible refine w_or ?_ | with_reducible refine w_bl ?_
  | with_reducible refine w_andV ?_ | with_reducible refine w_orV ?_ | with_reducible refine w_notV ?_ | with_reducible refine w_ifE ?_ | with_reducible refine w_chain ?_ | with_reducible refine w_i0 ?_
  | with_reducible refine w_call ?_ | with_reducible refine w_callS ?_ | with_reducible refine w_cB ?_ | with_reducible refine w_tup ?_ | with_reducible refine w_lst ?_ | with_reducible refine w_fldV ?_
  | with_reducible refine w_neF ?_ | with_reducible refine w_neT ?_ | with_reducible refine w_notN ?_ | with_reducible refine w_isN ?_ | with_reducible refine w_gname ?_ | with_reducible refine w_gsub ?_ | with_reducible refine w_asg ?_ | with_reducible refine w_yes ?_ | with_reducible refine w_nT ?_ | with_reducible refine w_nF ?_ | with_reducible refine w_iteT ?_ | with_reducible refine w_iteF ?_))
namespace K3
def Rw.name : Rw → Str
  | .one n _ _ => n | .some n _ _ => n | .number n _ _ _ => n | .check n _ _ => n | .sect _ _ => "" | .rounds n _ _ => n
/-- the named rows ahead -/
abbrev AL := List (Str × Rw × Option Nat)
def look (L : AL) (z : Str) : Option (Rw × Option Nat) := (L.find? fun e => decide (e.1 = z)).map (·.2)
def quest (L : AL) (z : Str) (ar : Option Nat) : Sum Flt Rw := match look L z with
  | none => .inl (.quest z)
  | some (r, a) => if r.isQ then (if a ≠ none ∧ a ≠ ar then .inl (.quest z) else .inr r) else .inl (.quest z)
def suitsB : Cd → Rw → Bool
  | .is _ o, .one _ os _ => decide (o ∈ os)
  | .is _ _, _ => false
  | .has _ o, .some _ os _ => decide (o ∈ os)
  | .has _ _, _ => false
  | _, .number _ _ _ _ => true
  | _, _ => false
def Cd.name : Cd → Str
  | .is n _ => n | .has n _ => n | .over n _ => n | .under n _ => n | _ => ""
/-- an entry of ahead -/
def EA (K : PySem.W.Frag) (H : Hp) (kv : Key × V) (e : Str × Rw × Option Nat) : Prop := kv.1 = Sum.inr e.1 ∧ ∃ t u, kv.2 = .ref t ∧ H t = some (.tup [u, oV e.2.2]) ∧ RO K H u e.2.1
def AHd (K : PySem.W.Frag) (H : Hp) (d : Addr) (L : AL) : Prop := ∃ kvs, H d = some (.dK kvs) ∧ Paired (EA K H) kvs L
theorem EA.si {K : PySem.W.Frag} {H H' : Hp} (s : SI H H') {kv : Key × V} {e : Str × Rw × Option Nat} (h : EA K H kv e) : EA K H' kv e := let ⟨h1, t, u, h2, h3, h4⟩ := h; ⟨h1, t, u, h2, s _ _ rfl h3, RO.si s h4⟩
theorem AHd.same {K : PySem.W.Frag} {H H' : Hp} (e : Same H H') {d : Addr} {L : AL} (h : AHd K H d L) : AHd K H' d L := let ⟨kvs, h1, h2⟩ := h; ⟨kvs, e _ _ h1, L2.Paired.mapP h2 fun _ _ q => q.si e.si⟩
theorem look_ea {K : PySem.W.Frag} {H : Hp} (z : Str) : ∀ {kvs : List (Key × V)} {L : AL}, Paired (EA K H) kvs L → (valV kvs (Sum.inr z) = none ∧ look L z = none) ∨ ∃ t u r a, valV kvs (Sum.inr z) = some (.ref t) ∧ look L z = some (r, a) ∧ H t = some (.tup [u, oV a]) ∧ RO K H u r
  | _, _, .nil => .inl ⟨rfl, rfl⟩
  | _, _, .cons (a := kv) (b := e) h t => by
    obtain ⟨h1, x, u, h2, h3, h4⟩ := h
    by_cases c : e.1 = z
    · refine .inr ⟨x, u, e.2.1, e.2.2, ?_, ?_, h3, h4⟩
      · rw [valV_pos (p := kv) (by rw [h1, c]), h2]
      · unfold look
        rw [List.find?_cons, decide_eq_true c] <;> rfl
    · have ih := look_ea z t
      have e1 : ¬ kv.1 = Sum.inr z := by rw [h1]; exact fun q => c (Sum.inr.inj q)
      rw [valV_neg e1]
      have e2 : ∀ l : AL, look (e :: l) z = look l z := fun l => by
        unfold look
        rw [List.find?_cons, decide_eq_false c]
      rw [e2]
      exact ih
def EndQ (K : PySem.W.Frag) (s : Sum Flt Rw) (H : Hp) (Q : VK) (E : XK) : Prop := match s with
  | .inl f => ∀ cls dd H', Same H H' → IsF K f cls dd H' → E cls dd H'
  | .inr r => ∀ v H', Same H H' → RO K H' v r → Q v H'
def spQA (K : PySem.W.Frag) : Sp := fun vs H Q E => ∃ (z : Str) (ar : Option Nat) (d : Addr) (L : AL), vs = [.str z, oV ar, .ref d] ∧ AHd K H d L ∧ EndQ K (quest L z ar) H Q E
theorem quest_none {L : AL} {z : Str} {ar : Option Nat} (h : look L z = none) : quest L z ar = .inl (.quest z) := by unfold quest; rw [h]
theorem quest_no {L : AL} {z : Str} {ar a : Option Nat} {r : Rw} (h : look L z = some (r, a)) (hq : r.isQ = false) : quest L z ar = .inl (.quest z) := by
  unfold quest; rw [h]
  show (if r.isQ = true then _ else _) = _
  rw [hq] <;> rfl
theorem quest_far {L : AL} {z : Str} {ar a : Option Nat} {r : Rw} (h : look L z = some (r, a)) (hq : r.isQ = true) (c : a ≠ none ∧ a ≠ ar) : quest L z ar = .inl (.quest z) := by
  unfold quest; rw [h]
  show (if r.isQ = true then (if a ≠ none ∧ a ≠ ar then _ else _) else _) = _
  rw [if_pos hq, if_pos c]
theorem quest_ok {L : AL} {z : Str} {ar a : Option Nat} {r : Rw} (h : look L z = some (r, a)) (hq : r.isQ = true) (c : ¬ (a ≠ none ∧ a ≠ ar)) : quest L z ar = .inr r := by
  unfold quest; rw [h]
  show (if r.isQ = true then (if a ≠ none ∧ a ≠ ar then _ else _) else _) = _
  rw [if_pos hq, if_neg c]
def spSuits (K : PySem.W.Frag) : Sp := fun vs H Q _ => ∃ (v u : V) (c : Cd) (r : Rw), vs = [v, u] ∧ CO K H v c ∧ RO K H u r ∧ ∀ H', Same H H' → Q (.bl (suitsB c r)) H'
theorem inV_strs {o : Str} {os : List Str} : inV (.str o) (os.map V.str) = decide (o ∈ os) := by
  unfold inV
  rw [List.any_map]
  induction os with
  | nil => simp
  | cons a r ih =>
    rw [List.any_cons, ih]
    show ((a == o) || _) = _
    by_cases h : a = o
    · subst h
      simp
    · rw [beq_eq_false_iff_ne.mpr h, Bool.false_or]
      by_cases h2 : o ∈ r
      · simp [h2]
      · simp [h2, Ne.symm h]
theorem flat_strs (os : List Str) : (os.map V.str).all flatV = true := by
  rw [List.all_map, List.all_eq_true]
  intro x _
  rfl
theorem oV_eq {a b : Option Nat} : decide (oV a = oV b) = decide (a = b) := by
  cases a <;> cases b <;> simp [oV]
  omega
theorem oV_scal (a b : Option Nat) : scal (oV a) (oV b) = true := by cases a <;> cases b <;> rfl
section
variable {P : Program} {w : World} {K : PySem.W.Frag} {mg : Str → Option Value} {base : Heap}
theorem ro_name (T : Tx K mg) {H : Hp} {v : V} {r : Rw} (h : RO K H v r) (hn : r.isN = true) : ∃ a dx fs, v = .ref a ∧ H a = some (.ins (He.ga K r.nm) dx fs) ∧ Cls K (He.ga K r.nm) ∧ NoAttr K (He.ga K r.nm) "name" ∧ fs.lookup ("name" : Str) = some (.str r.name) := by
  cases h with
  | one h _ w => obtain ⟨dx, h⟩ := h; exact ⟨_, dx, _, rfl, h, T.cl_One, T.n_One_name, rfl⟩
  | some h _ w => obtain ⟨dx, h⟩ := h; exact ⟨_, dx, _, rfl, h, T.cl_Some, T.n_Some_name, rfl⟩
  | number h w => obtain ⟨dx, h⟩ := h; exact ⟨_, dx, _, rfl, h, T.cl_Number, T.n_Number_name, rfl⟩
  | check h _ w => obtain ⟨dx, h⟩ := h; exact ⟨_, dx, _, rfl, h, T.cl_Check, T.n_Check_name, rfl⟩
  | sect h _ _ w => cases hn
  | rounds h _ _ w => cases hn
theorem sc_question_ahead : FnScope ["name", "around", "ahead", "question", "rounds"] ["name", "around", "ahead"] (defScope s_question_ahead) := ⟨rfl, rfl, rfl, by decide +kernel, rfl, by decide +kernel, by decide +kernel⟩
theorem ok_question_ahead (T : Tx K mg) : Ok P w K mg base 3 (He.ga K "question_ahead") ["name", "around", "ahead"] (spQA K) := by
  obtain ⟨fd, F⟩ := T.f_question_ahead
  refine ⟨fd, F.ok sc_question_ahead (fun vs H Q E h => ?_) (fun cdv A outer s H vs Q E hr h => ?_), F.bindsN fun _ _ _ _ _ _ us hl => match us, hl with | [_, _, _], _ => rfl, F.kp⟩
  · obtain ⟨z, ar, d, L, rfl, _⟩ := h
    rfl
  obtain ⟨z, ar, d, L, rfl, hL, q⟩ := h
  have err := fun {D : Ends} {σ : L2.St} {H1 : Hp} => @gErr1_of K "NoQuestion" "name" (.str z) H1
  refine ⟨_, pss_cons (ps_if (pt_cmp (pc_dnotin (hu_of hr) (pv 0) (pv 2))) (pss_one (ps_err1 (T.err (x := "NoQuestion") (by decide)) T.m_NoQuestion_init (ok_NoQuestion T) hr T.g_NoQuestion (takes_of rfl rfl rfl rfl) (pv 0))) pss_nil)
    (pss_cons (ps_asg (pe_dget (hu_of hr) (pv 2) (pv 0) (fun _ _ => rfl)) (pg_tup rfl (pgs_cons (pg_name (i := 3) sc_question_ahead.nd rfl (Or.inl rfl)) (pgs_cons (pg_name (i := 4) sc_question_ahead.nd rfl (Or.inl rfl)) pgs_nil))))
    (pss_cons (ps_if (pt_not (pt_val (pe_f (ok_is_question T) (hr.mono (by decide)) T.g_is_question (pa_cons (pv 3) pa_nil)))) (pss_one (ps_err1 (T.err (x := "NoQuestion") (by decide)) T.m_NoQuestion_init (ok_NoQuestion T) hr T.g_NoQuestion (takes_of rfl rfl rfl rfl) (pv 0))) pss_nil)
    (pss_cons (ps_if (pw_and (pt_cmp (pc_notN (pv 4))) (pw_and1 (pt_cmpR op_ne (pv 4) (pv 1) (nomark _)))).pt (pss_one (ps_err1 (T.err (x := "NoQuestion") (by decide)) T.m_NoQuestion_init (ok_NoQuestion T) hr T.g_NoQuestion (takes_of rfl rfl rfl rfl) (pv 0))) pss_nil)
    (pss_one (ps_ret (pv 3)))))), ?_⟩
  obtain ⟨kvs, hd, hp⟩ := hL
  walk_at "go"
  refine ⟨_, rfl, _, rfl, d, _, rfl, DGet.k (k := Sum.inr z) hd, ?_⟩
  walk_at "go"
  rcases look_ea z hp with ⟨h1, h2⟩ | ⟨t, u, r, a, h1, h2, h3, h4⟩
  · rw [h1]
    rw [quest_none h2] at q
    walk_at "go"
    show if true = true then _ else _
    walk_at "go"
    refine w_err1 ?_
    walk_at "go"
    exact gErr1_of fun dd H2 e2 h2 => q _ _ H2 e2 ⟨rfl, dd, rfl, h2⟩
  · rw [h1]
    walk_at "go"
    show if false = true then _ else _
    walk_at "go"
    refine ⟨_, rfl, _, rfl, d, _, rfl, by rw [← h1]; exact DGet.k (k := Sum.inr z) hd, ?_⟩
    refine ⟨t, _, rfl, SqT.of h3, rfl, _, _, rfl, ?_⟩
    walk_at "go"
    refine ⟨_, _, rfl, ?_⟩
    walk_at "go"
    refine ⟨rfl, ?_⟩
    walk_at "go"
    refine ⟨u, r, rfl, h4, fun H1 e1 => ?_⟩
    cases hq : r.isQ with
    | false =>
      rw [quest_no h2 hq] at q
      walk_at "go"
      refine w_err1 ?_
      walk_at "go"
      exact gErr1_of fun dd H2 e2 h2 => q _ _ H2 (e1.trans e2) ⟨rfl, dd, rfl, h2⟩
    | true =>
      walk_at "go"
      have ne1 : decide (oV a = V.non) = decide (a = none) := oV_eq (b := none)
      by_cases c1 : a = none
      · rw [quest_ok h2 hq (fun z => z.1 c1)] at q
        rw [ne1, decide_eq_true c1]
        walk_at "go"
        exact q u H1 e1 (h4.same e1)
      · rw [ne1, decide_eq_false c1]
        walk_at "go"
        refine ⟨oV_scal _ _, ?_⟩
        walk_at "go"
        rw [oV_eq]
        by_cases c2 : a = ar
        · rw [quest_ok h2 hq (fun z => z.2 c2)] at q
          rw [decide_eq_true c2]
          walk_at "go"
          exact q u H1 e1 (h4.same e1)
        · rw [quest_far h2 hq ⟨c1, c2⟩] at q
          rw [decide_eq_false c2]
          walk_at "go"
          refine w_err1 ?_
          walk_at "go"
          exact gErr1_of fun dd H2 e2 h2 => q _ _ H2 (e1.trans e2) ⟨rfl, dd, rfl, h2⟩
theorem sc_suits : FnScope ["condition", "question"] ["condition", "question"] (defScope s_suits) := ⟨rfl, rfl, rfl, by decide +kernel, rfl, by decide +kernel, by decide +kernel⟩
theorem ok_suits (T : Tx K mg) : Ok P w K mg base 1 (He.ga K "suits") ["condition", "question"] (spSuits K) := by
  obtain ⟨fd, F⟩ := T.f_suits
  refine ⟨fd, F.ok sc_suits (fun vs H Q E h => ?_) (fun cdv A outer s H vs Q E hr h => ?_), F.bindsN fun _ _ _ _ _ _ us hl => match us, hl with | [_, _], _ => rfl, F.kp⟩
  · obtain ⟨v, u, c, r, rfl, _⟩ := h
    rfl
  obtain ⟨v, u, c, r, rfl, hc, hu, q⟩ := h
  refine ⟨_, pss_cons (ps_if (pt_val (pe_callB call_isi (by rfl) T.z_isinstance (by decide +kernel) (pa_cons (pv 0) (pa_cons (pe_gref T.g_Is) pa_nil))))
      (pss_one (ps_ret (pe_and (pe_callB call_isi (by rfl) T.z_isinstance (by decide +kernel) (pa_cons (pv 1) (pa_cons (pe_gref T.g_One) pa_nil))) (pe_one (pe_cmpR op_in_seq (pe_fld (pv 0) rfl) (pe_fld (pv 1) rfl) rfl))))) pss_nil)
    (pss_cons (ps_if (pt_val (pe_callB call_isi (by rfl) T.z_isinstance (by decide +kernel) (pa_cons (pv 0) (pa_cons (pe_gref T.g_Has) pa_nil))))
      (pss_one (ps_ret (pe_and (pe_callB call_isi (by rfl) T.z_isinstance (by decide +kernel) (pa_cons (pv 1) (pa_cons (pe_gref T.g_Some) pa_nil))) (pe_one (pe_cmpR op_in_seq (pe_fld (pv 0) rfl) (pe_fld (pv 1) rfl) rfl))))) pss_nil)
    (pss_one (ps_ret (pe_callB call_isi (by rfl) T.z_isinstance (by decide +kernel) (pa_cons (pv 1) (pa_cons (pe_gref T.g_Number) pa_nil)))))), ?_⟩
  walk_at "go"
  refine isiC T hc (y := "Is") (by decide) ?_
  walk_at "go"
  cases hc with
  | @is a n o h =>
    show if true = true then _ else _
    walk_at "go"
    refine isiR T hu (y := "One") (by decide) ?_
    walk_at "go"
    cases hu with
    | @one b t n2 os w2 wv h2 ht hw =>
      show if true = true then _ else _
      walk_at "go"
      obtain ⟨dx, h⟩ := h
      obtain ⟨dx2, h2⟩ := h2
      refine ⟨a, _, dx, _, _, rfl, h, T.cl_Is, T.n_Is_option, rfl, ?_⟩
      walk_at "go"
      refine ⟨b, _, dx2, _, _, rfl, h2, T.cl_One, T.n_One_options, rfl, ?_⟩
      walk_at "go"
      refine ⟨t, _, rfl, .inr ht, rfl, flat_strs _, ?_⟩
      have := q H (Same.refl _)
      show Q (.bl (inV (.str o) (os.map V.str))) H
      rw [inV_strs]
      exact this
    | _ =>
      show if false = true then _ else _
      refine w_iteF ?_
      exact q H (Same.refl _)
  | @has a n o h =>
    show if false = true then _ else _
    refine w_iteF ?_
    walk_at "go"
    refine isiC T (.has h) (y := "Has") (by decide) ?_
    walk_at "go"
    show if true = true then _ else _
    walk_at "go"
    refine isiR T hu (y := "Some") (by decide) ?_
    walk_at "go"
    cases hu with
    | @some b t n2 os w2 wv h2 ht hw =>
      show if true = true then _ else _
      walk_at "go"
      obtain ⟨dx, h⟩ := h
      obtain ⟨dx2, h2⟩ := h2
      refine ⟨a, _, dx, _, _, rfl, h, T.cl_Has, T.n_Has_option, rfl, ?_⟩
      walk_at "go"
      refine ⟨b, _, dx2, _, _, rfl, h2, T.cl_Some, T.n_Some_options, rfl, ?_⟩
      walk_at "go"
      refine ⟨t, _, rfl, .inr ht, rfl, flat_strs _, ?_⟩
      have := q H (Same.refl _)
      show Q (.bl (inV (.str o) (os.map V.str))) H
      rw [inV_strs]
      exact this
    | _ =>
      show if false = true then _ else _
      refine w_iteF ?_
      exact q H (Same.refl _)
  | over h =>
    show if false = true then _ else _
    refine w_iteF ?_
    walk_at "go"
    refine isiC T (.over h) (y := "Has") (by decide) ?_
    walk_at "go"
    show if false = true then _ else _
    refine w_iteF ?_
    walk_at "go"
    refine isiR T hu (y := "Number") (by decide) ?_
    cases r <;> exact q H (Same.refl _)
  | under h =>
    show if false = true then _ else _
    refine w_iteF ?_
    walk_at "go"
    refine isiC T (.under h) (y := "Has") (by decide) ?_
    walk_at "go"
    show if false = true then _ else _
    refine w_iteF ?_
    walk_at "go"
    refine isiR T hu (y := "Number") (by decide) ?_
    cases r <;> exact q H (Same.refl _)
  | no h h2 =>
    show if false = true then _ else _
    refine w_iteF ?_
    walk_at "go"
    refine isiC T (.no h h2) (y := "Has") (by decide) ?_
    walk_at "go"
    show if false = true then _ else _
    refine w_iteF ?_
    walk_at "go"
    refine isiR T hu (y := "Number") (by decide) ?_
    cases r <;> exact q H (Same.refl _)
  | both h h2 h3 =>
    show if false = true then _ else _
    refine w_iteF ?_
    walk_at "go"
    refine isiC T (.both h h2 h3) (y := "Has") (by decide) ?_
    walk_at "go"
    show if false = true then _ else _
    refine w_iteF ?_
    walk_at "go"
    refine isiR T hu (y := "Number") (by decide) ?_
    cases r <;> exact q H (Same.refl _)
  | either h h2 h3 =>
    show if false = true then _ else _
    refine w_iteF ?_
    walk_at "go"
    refine isiC T (.either h h2 h3) (y := "Has") (by decide) ?_
    walk_at "go"
    show if false = true then _ else _
    refine w_iteF ?_
    walk_at "go"
    refine isiR T hu (y := "Number") (by decide) ?_
    cases r <;> exact q H (Same.refl _)
end
end K3
end P8_part
section P9_part
set_option Elab.async false
set_option linter.all false
set_option maxRecDepth 100000
set_option maxHeartbeats 1000000
set_option pp.deepTerms true
open PySem PySem.Spec PyProof.Rows L2
/-- go on as far as nothing is open -/
local macro_rules | `(tactic| walk_at "go") => `(tactic| repeat (first
  | with_reducible refine w_seq ?_ | with_reducible refine w_next ?_ | with_reducible refine w_set ?_ | with_reducible refine w_drop ?_ | with_reducible refine w_ret ?_ | with_reducible refine w_retN ?_
  | with_reducible refine w_if ?_ | ((with_reducible refine' w_var ?hv ?_); (case hv => exact rfl)) | with_reducible refine w_c ?_ | with_reducible refine w_nil ?_ | with_reducible refine w_cons ?_ | with_reducible refine w_op ?_ | with_reducible refine w_un ?_
  | with_reducible refine w_test ?_ | with_reducible refine w_tB ?_ | with_reducible refine w_not ?_ | with_reducible refine w_and ?_ | with_reducible refine w_or ?_ | with_reducible refine w_bl ?_
  | with_reducible refine w_andV ?_ | with_reducible refine w_orV ?_ | with_reducible refine w_notV ?_ | with_reducible refine w_ifE ?_ | with_reducible refine w_chain ?_ | with_reducible refine w_i0 ?_
  | with_reducible refine w_call ?_ | with_reducible refine w_callS ?_ | with_reducible refine w_cB ?_ | with_reducible refine w_tup ?_ | with_reducible refine w_lst ?_ | with_reducible refine w_fldV ?_
  | with_reducible refine w_neF ?_ | with_reducible refine w_neT ?_ | with_reducible refine w_notN ?_ | with_reducible refine w_isN ?_ | with_reducible refine w_gname ?_ | with_reducible refine w_gsub ?_ | with_reducible refine w_asg ?_ | with_reducible refine w_yes ?_ | with_reducible refine w_nT ?_ | with_reducible refine w_nF ?_ | with_reducible refine w_iteT ?_ | with_reducible refine w_iteF ?_))
namespace K3
def thenF : Option Flt → Option Flt → Option Flt
  | some f, _ => some f
  | none, g => g
theorem End_seq {K : PySem.W.Frag} {a b : Option Flt} {H : Hp} {Q Q' : VK} {E : XK} (q : End K (thenF a b) H Q E) (k : ∀ H', Same H H' → End K b H' Q E → Q' .non H') : End K a H Q' E := by
  cases a with
  | some f => exact q
  | none => exact fun H' e => k H' e (q.mono e)
def namesF : List Str → Option Flt
  | [] => none
  | z :: r => thenF (nameF z) (namesF r)
def optF (os : List Str) (most : Nat) : Option Flt := if 1 ≤ os.length ∧ os.length ≤ most then thenF (namesF os) (dupF os) else some (.count "options" os.length)
def ckName (L : AL) (r : Rw) : Option Flt := if r.isN then thenF (nameF r.name) (if (look L r.name).isSome then some (.twice r.name) else none) else none
def ckOpt : Rw → Option Flt
  | .one _ os _ => optF os 6
  | .some _ os _ => optF os 4
  | _ => none
def ckBound : Rw → Option Flt
  | .number _ lo hi _ => if hi < lo then some (.count "bounds" hi) else none
  | _ => none
def ckInner (r : Rw) (ar : Option Nat) : Option Flt := match r with
  | .sect rs _ => if rs.length = 0 then some (.count "rows" 0) else none
  | .rounds _ rs _ => if rs.length = 0 then some (.count "rows" 0) else if ar = none then none else some (.count "rounds" 2)
  | _ => none
def fitN (q : Rw) : Option Flt := match q with
  | .number n lo hi _ => if lo < 0 then some (.fit n) else if 4 < hi then some (.fit n) else none
  | q => some (.fit q.name)
def ckCount (L : AL) (r : Rw) (ar : Option Nat) : Option Flt := match r with
  | .rounds n _ _ => (match quest L n ar with
    | .inl f => some f
    | .inr q => fitN q)
  | _ => none
def ckCond (L : AL) (ar : Option Nat) (c : Cd) : Option Flt := match quest L c.name ar with
  | .inl f => some f
  | .inr q => if suitsB c q then none else some (.fit q.name)
def ckConds (L : AL) (ar : Option Nat) : List Cd → Option Flt
  | [] => none
  | c :: r => thenF (ckCond L ar c) (ckConds L ar r)
def ckRow (L : AL) (r : Rw) (ar : Option Nat) : Option Flt := thenF (ckName L r) (thenF (ckOpt r) (thenF (ckBound r) (thenF (ckInner r ar) (thenF (ckCount L r ar) (ckConds L ar r.conds)))))
def Rw.opts : Rw → List Str
  | .one _ os _ => os | .some _ os _ => os | _ => []
structure RwB (n : Nat) (r : Rw) : Prop where
  cd : r.cdep < n
  c1 : (owh r.wh).length ≤ 1000
  c2 : r.mu.length ≤ 1000
  nm : r.name.length ≤ 1000
  ol : r.opts.length ≤ 1000
  os : ∀ o ∈ r.opts, o.length ≤ 1000
def Cd.isS : Cd → Bool
  | .no _ => false | .both _ _ => false | .either _ _ => false | _ => true
theorem simp_isS : ∀ (c : Cd), ∀ d ∈ c.simp, d.isS = true
  | .no c, d, h => simp_isS c d h
  | .both a b, d, h => by
    rcases List.mem_append.mp (show d ∈ a.simp ++ b.simp from h) with h | h
    · exact simp_isS a d h
    · exact simp_isS b d h
  | .either a b, d, h => by
    rcases List.mem_append.mp (show d ∈ a.simp ++ b.simp from h) with h | h
    · exact simp_isS a d h
    · exact simp_isS b d h
  | .is n o, d, h => by rw [List.mem_singleton.mp (show d ∈ [Cd.is n o] from h)] <;> rfl
  | .has n o, d, h => by rw [List.mem_singleton.mp (show d ∈ [Cd.has n o] from h)] <;> rfl
  | .over n o, d, h => by rw [List.mem_singleton.mp (show d ∈ [Cd.over n o] from h)] <;> rfl
  | .under n o, d, h => by rw [List.mem_singleton.mp (show d ∈ [Cd.under n o] from h)] <;> rfl
theorem conds_isS (r : Rw) : ∀ d ∈ r.conds, d.isS = true := fun d h => by
  rcases List.mem_append.mp (show d ∈ owh r.wh ++ r.mu from h) with h | h
  · cases e : r.wh with
    | none => rw [e] at h; cases h
    | some c => rw [e] at h; exact simp_isS c d h
  · cases r with
    | check n m w => exact simp_isS m d h
    | _ => cases h
/-- a def that checks: vs, and what it refuses -/
def spCk (K : PySem.W.Frag) (n : Nat) (f : Rw → Option Flt) : Sp := fun vs H Q E => ∃ (v : V) (r : Rw), vs = [v] ∧ RO K H v r ∧ RwB n r ∧ End K (f r) H Q E
def spCkL (K : PySem.W.Frag) (n : Nat) (f : AL → Rw → Option Flt) : Sp := fun vs H Q E => ∃ (v : V) (r : Rw) (d : Addr) (L : AL), vs = [v, .ref d] ∧ RO K H v r ∧ RwB n r ∧ AHd K H d L ∧ End K (f L r) H Q E
def spCkA (K : PySem.W.Frag) (n : Nat) (f : Rw → Option Nat → Option Flt) : Sp := fun vs H Q E => ∃ (v : V) (r : Rw) (ar : Option Nat), vs = [v, oV ar] ∧ RO K H v r ∧ RwB n r ∧ End K (f r ar) H Q E
def spCkLA (K : PySem.W.Frag) (n : Nat) (f : AL → Rw → Option Nat → Option Flt) : Sp := fun vs H Q E => ∃ (v : V) (r : Rw) (ar : Option Nat) (d : Addr) (L : AL), vs = [v, oV ar, .ref d] ∧ RO K H v r ∧ RwB n r ∧ AHd K H d L ∧ End K (f L r ar) H Q E
def spOpt (K : PySem.W.Frag) : Sp := fun vs H Q E => ∃ (a : Addr) (os : List Str) (most : Nat), vs = [.ref a, .int (most : Int)] ∧ SqT K H a (os.map V.str) ∧ os.length ≤ 1000 ∧ (∀ o ∈ os, o.length ≤ 1000) ∧ End K (optF os most) H Q E
theorem namesF_take {os : List Str} : ∀ {i : Nat} {z : Str}, os[i]? = some z → namesF (os.take i) = none → (nameF z = none → namesF (os.take (i + 1)) = none) ∧ (∀ f, nameF z = some f → namesF os = some f) := by
  induction os with
  | nil => intro i z h; simp at h
  | cons a r ih =>
    intro i z h hn
    cases i with
    | zero =>
      have e : a = z := by simpa using h
      subst e
      refine ⟨fun h => ?_, fun f h => ?_⟩
      · show thenF (nameF a) none = none
        rw [h] <;> rfl
      · show thenF (nameF a) _ = _
        rw [h] <;> rfl
    | succ i =>
      have hn' : thenF (nameF a) (namesF (r.take i)) = none := hn
      cases ha : nameF a with
      | some f => rw [ha] at hn'; cases hn'
      | none =>
        rw [ha] at hn'
        have q := ih (i := i) (z := z) (by simpa using h) hn'
        refine ⟨fun h => ?_, fun f h => ?_⟩
        · show thenF (nameF a) (namesF (r.take (i + 1))) = none
          rw [ha]
          exact q.1 h
        · show thenF (nameF a) (namesF r) = some f
          rw [ha]
          exact q.2 f h
theorem map_get {os : List Str} {i : Nat} {x : V} (hi : (os.map V.str)[i]? = some x) : ∃ z, os[i]? = some z ∧ x = V.str z := by
  rw [List.getElem?_map] at hi
  cases e : os[i]? with
  | none => rw [e] at hi; cases hi
  | some z => rw [e] at hi; exact ⟨z, rfl, (Option.some.inj hi).symm⟩
section
variable {P : Program} {w : World} {K : PySem.W.Frag} {mg : Str → Option Value} {base : Heap}
theorem sc_refuse_options : FnScope ["options", "most", "option"] ["options", "most"] (defScope s_refuse_options) := ⟨rfl, rfl, rfl, by decide +kernel, rfl, by decide +kernel, by decide +kernel⟩
theorem ok_refuse_options (T : Tx K mg) : Ok P w K mg base 4 (He.ga K "refuse_options") ["options", "most"] (spOpt K) := by
  obtain ⟨fd, F⟩ := T.f_refuse_options
  refine ⟨fd, F.ok sc_refuse_options (fun vs H Q E h => ?_) (fun cdv A outer s H vs Q E hr h => ?_), F.bindsN fun _ _ _ _ _ _ us hl => match us, hl with | [_, _], _ => rfl, F.kp⟩
  · obtain ⟨a, os, most, rfl, _⟩ := h
    rfl
  obtain ⟨a, os, most, rfl, ha, hz, ho, q⟩ := h
  refine ⟨_, pss_cons (ps_if (pt_not (pt_chain op_le op_le pe_int (pe_callB call_len_seq (by rfl) T.z_len PySem.boot_len (pa_cons (pv 0) pa_nil)) (pv 1))) (pss_one (ps_err2 (T.err (x := "BadCount") (by decide)) T.m_BadCount_init (ok_BadCount T) (hr.mono (by decide)) T.g_BadCount (takes_of rfl rfl rfl rfl) pe_str (pe_callB call_len_seq (by rfl) T.z_len PySem.boot_len (pa_cons (pv 0) pa_nil)))) pss_nil)
    (pss_cons (ps_for (passes_of rfl) rfl (pi_tup (pv 0)) (pg_name (i := 2) sc_refuse_options.nd rfl (Or.inl rfl)) (pss_one (ps_expr (pe_fE (takes_of rfl rfl rfl rfl) (ok_refuse_no_name T) (hr.mono (by decide)) T.g_refuse_no_name (pa_cons (pv 2) pa_nil)))))
    (pss_one (ps_expr (pe_fE (takes_of rfl rfl rfl rfl) (ok_refuse_twice T) (hr.mono (by decide)) T.g_refuse_twice (pa_cons (pv 0) pa_nil))))), ?_⟩
  have hlen : (os.map V.str).length = os.length := List.length_map _
  walk_at "go"
  refine ⟨a, _, rfl, .inr ha, ?_⟩
  walk_at "go"
  rw [hlen]
  have bad : ¬ (1 ≤ os.length ∧ os.length ≤ most) → gErr2 K "BadCount" "what" "count" (.str "options") (.int (os.length : Int)) H fun cls d H' => E cls d H' := fun c => by
    unfold optF at q
    rw [if_neg c] at q
    exact gErr2_of fun dd H2 e2 h2 => q _ _ H2 e2 ⟨rfl, dd, rfl, h2⟩
  have good : (1 ≤ os.length ∧ os.length ≤ most) → End K (thenF (namesF os) (dupF os)) H Q E := fun c => by
    unfold optF at q
    rw [if_pos c] at q
    exact q
  by_cases c1 : (1 : Int) ≤ (os.length : Int)
  · rw [decide_eq_true c1]
    walk_at "go"
    by_cases c2 : (os.length : Int) ≤ (most : Int)
    · rw [decide_eq_true c2]
      walk_at "go"
      have q := good ⟨by omega, by omega⟩
      refine ⟨_, rfl, a, rfl, ⟨_, ha⟩, ?_⟩
      refine for_tup (K := K) (a := a) (xs := os.map V.str) (fun (i : Nat) σ H' => ∃ v : Option V, σ = [some (.ref a), some (.int (most : Int)), v] ∧ Same H H' ∧ namesF (os.take i) = none) ⟨none, rfl, Same.refl _, rfl⟩ (fun i σ H' _ ⟨_, _, e, _⟩ => e.sqt ha) ?_ ?_
      · rintro i x σ H1 hi ⟨v, rfl, e1, hn⟩
        obtain ⟨z, hz1, rfl⟩ := map_get hi
        have nt := namesF_take hz1 hn
        walk_at "go"
        refine ⟨z, rfl, ho z (List.mem_of_getElem? hz1), ?_⟩
        cases hf : nameF z with
        | none => exact fun H2 e2 => ⟨some (.str z), rfl, e1.trans e2, nt.1 hf⟩
        | some f =>
          intro cls d H2 e2 h2
          have q' := q
          rw [nt.2 f hf] at q'
          exact q' cls d H2 (e1.trans e2) h2
      · rintro σ H1 ⟨v, rfl, e1, hn⟩
        rw [hlen, List.take_length] at hn
        rw [hn] at q
        walk_at "go"
        exact ⟨a, os, rfl, ⟨true, e1.sqt ha⟩, hz, q.mono e1⟩
    · rw [decide_eq_false c2]
      walk_at "go"
      refine w_err2 ?_
      walk_at "go"
      refine ⟨a, _, rfl, .inr ha, ?_⟩
      rw [hlen]
      exact bad (by omega)
  · rw [decide_eq_false c1]
    walk_at "go"
    refine w_err2 ?_
    walk_at "go"
    refine ⟨a, _, rfl, .inr ha, ?_⟩
    rw [hlen]
    exact bad (by omega)
end
end K3
end P9_part
section P10_part
set_option Elab.async false
set_option linter.all false
set_option maxRecDepth 100000
set_option maxHeartbeats 1000000
set_option pp.deepTerms true
open PySem PySem.Spec PyProof.Rows L2
/-- go on as far as nothing is open -/
local macro_rules | `(tactic| walk_at "go") => `(tactic| repeat (first
  | with_reducible refine w_seq ?_ | with_reducible refine w_next ?_ | with_reducible refine w_set ?_ | with_reducible refine w_drop ?_ | with_reducible refine w_ret ?_ | with_reducible refine w_retN ?_
  | with_reducible refine w_if ?_ | ((with_reducible refine' w_var ?hv ?_); (case hv => exact rfl)) | with_reducible refine w_c ?_ | with_reducible refine w_nil ?_ | with_reducible refine w_cons ?_ | with_reducible refine w_op ?_ | with_reducible refine w_un ?_
  | with_reducible refine w_test ?_ | with_reducible refine w_tB ?_ | with_reducible refine w_not ?_ | with_reducible refine w_and ?_ | with_reducible refine w_or ?_ | with_reducible refine w_bl ?_
  | with_reducible refine w_andV ?_ | with_reducible refine w_orV ?_ | with_reducible refine w_notV ?_ | with_reducible refine w_ifE ?_ | with_reducible refine w_chain ?_ | with_reducible refine w_i0 ?_
  | with_reducible refine w_call ?_ | with_reducible refine w_callS ?_ | with_reducible refine w_cB ?_ | with_reducible refine w_tup ?_ | with_reducible refine w_lst ?_ | with_reducible refine w_fldV ?_
  | with_reducible refine w_neF ?_ | with_reducible refine w_neT ?_ | with_reducible refine w_notN ?_ | with_reducible refine w_isN ?_ | with_reducible refine w_gname ?_ | with_reducible refine w_gsub ?_ | with_reducible refine w_asg ?_ | with_reducible refine w_yes ?_ | with_reducible refine w_nT ?_ | with_reducible refine w_nF ?_ | with_reducible refine w_iteT ?_ | with_reducible refine w_iteF ?_))
namespace K3
section
variable {P : Program} {w : World} {K : PySem.W.Frag} {mg : Str → Option Value} {base : Heap}
theorem sc_check_name : FnScope ["row", "ahead"] ["row", "ahead"] (defScope s_check_name) := ⟨rfl, rfl, rfl, by decide +kernel, rfl, by decide +kernel, by decide +kernel⟩
theorem ok_check_name (T : Tx K mg) (n : Nat) : Ok P w K mg base 4 (He.ga K "check_name") ["row", "ahead"] (spCkL K n ckName) := by
  obtain ⟨fd, F⟩ := T.f_check_name
  refine ⟨fd, F.ok sc_check_name (fun vs H Q E h => ?_) (fun cdv A outer s H vs Q E hr h => ?_), F.bindsN fun _ _ _ _ _ _ us hl => match us, hl with | [_, _], _ => rfl, F.kp⟩
  · obtain ⟨v, r, d, L, rfl, _⟩ := h
    rfl
  obtain ⟨v, r, d, L, rfl, hv, hB, hL, q⟩ := h
  refine ⟨_, pss_cons (ps_if (pt_not (pt_val (pe_f (ok_is_named T) (hr.mono (by decide)) T.g_is_named (pa_cons (pv 0) pa_nil)))) (pss_one ps_retN) pss_nil)
    (pss_cons (ps_expr (pe_fE (takes_of rfl rfl rfl rfl) (ok_refuse_no_name T) (hr.mono (by decide)) T.g_refuse_no_name (pa_cons (pe_fld (pv 0) rfl) pa_nil)))
    (pss_one (ps_if (pt_cmp (pc_din (hu_of hr) (pe_fld (pv 0) rfl) (pv 1))) (pss_one (ps_err1 (T.err (x := "Twice") (by decide)) T.m_Twice_init (ok_Twice T) (hr.mono (by decide)) T.g_Twice (takes_of rfl rfl rfl rfl) (pe_fld (pv 0) rfl))) pss_nil))), ?_⟩
  walk_at "go"
  refine ⟨v, r, rfl, hv, fun H1 e1 => ?_⟩
  have hL1 := hL.same e1
  have hv1 := hv.same e1
  have q1 := q.mono e1
  unfold ckName at q1
  cases hn : r.isN with
  | false =>
    rw [hn] at q1
    walk_at "go"
    exact q1 H1 (Same.refl _)
  | true =>
    rw [hn, if_pos rfl] at q1
    obtain ⟨a, dx, fs, rfl, hi, hcl, hna, hlk⟩ := ro_name T hv1 hn
    walk_at "go"
    refine ⟨a, _, dx, fs, _, rfl, hi, hcl, hna, hlk, ?_⟩
    walk_at "go"
    refine ⟨r.name, rfl, hB.nm, End_seq q1 fun H2 e2 q2 => ?_⟩
    walk_at "go"
    refine ⟨_, rfl, a, _, dx, fs, _, rfl, e2 _ _ hi, hcl, hna, hlk, ?_⟩
    obtain ⟨kvs, hd, hp⟩ := hL1.same e2
    refine ⟨_, rfl, d, _, rfl, DGet.k (k := Sum.inr r.name) hd, ?_⟩
    walk_at "go"
    rcases look_ea r.name hp with ⟨h1, h2⟩ | ⟨t, u, r', a', h1, h2, h3, h4⟩
    · rw [h1]
      rw [h2] at q2
      show if false = true then _ else _
      walk_at "go"
      exact q2 H2 (Same.refl _)
    · rw [h1]
      rw [h2] at q2
      show if true = true then _ else _
      walk_at "go"
      refine w_err1 ?_
      walk_at "go"
      refine ⟨a, _, dx, fs, _, rfl, e2 _ _ hi, hcl, hna, hlk, ?_⟩
      exact gErr1_of fun dd H3 e3 h5 => q2 _ _ H3 e3 ⟨rfl, dd, rfl, h5⟩
theorem sc_check_options : FnScope ["row"] ["row"] (defScope s_check_options) := ⟨rfl, rfl, rfl, by decide +kernel, rfl, by decide +kernel, by decide +kernel⟩
theorem ok_check_options (T : Tx K mg) (n : Nat) : Ok P w K mg base 5 (He.ga K "check_options") ["row"] (spCk K n ckOpt) := by
  obtain ⟨fd, F⟩ := T.f_check_options
  refine ⟨fd, F.ok sc_check_options (fun vs H Q E h => ?_) (fun cdv A outer s H vs Q E hr h => ?_), F.bindsN fun _ _ _ _ _ _ us hl => match us, hl with | [_], _ => rfl, F.kp⟩
  · obtain ⟨v, r, rfl, _⟩ := h
    rfl
  obtain ⟨v, r, rfl, hv, hB, q⟩ := h
  refine ⟨_, pss_cons (ps_if (pt_val (pe_callB call_isi (by rfl) T.z_isinstance (by decide +kernel) (pa_cons (pv 0) (pa_cons (pe_gref T.g_One) pa_nil)))) (pss_one (ps_expr (pe_fE (takes_of rfl rfl rfl rfl) (ok_refuse_options T) hr T.g_refuse_options (pa_cons (pe_fld (pv 0) rfl) (pa_cons (pe_gint T.i_MOST_OPTIONS_OF_ONE) pa_nil))))) pss_nil)
    (pss_one (ps_if (pt_val (pe_callB call_isi (by rfl) T.z_isinstance (by decide +kernel) (pa_cons (pv 0) (pa_cons (pe_gref T.g_Some) pa_nil)))) (pss_one (ps_expr (pe_fE (takes_of rfl rfl rfl rfl) (ok_refuse_options T) hr T.g_refuse_options (pa_cons (pe_fld (pv 0) rfl) (pa_cons (pe_gint T.i_MOST_OPTIONS_OF_SOME) pa_nil))))) pss_nil)), ?_⟩
  walk_at "go"
  refine isiR T hv (y := "One") (by decide) ?_
  walk_at "go"
  cases hv with
  | @one a t nn os w2 wv h ht hw =>
    show if true = true then _ else _
    walk_at "go"
    obtain ⟨dx, h⟩ := id h
    refine ⟨a, _, dx, _, _, rfl, h, T.cl_One, T.n_One_options, rfl, ?_⟩
    walk_at "go"
    refine ⟨t, os, 6, rfl, ht, hB.ol, hB.os, End_seq (b := none) (by rw [show thenF (optF os 6) none = optF os 6 by cases optF os 6 <;> rfl]; exact q) fun H1 e1 q1 => ?_⟩
    walk_at "go"
    refine isiR T (RO.same e1 (.one ⟨dx, h⟩ ht hw)) (y := "Some") (by decide) ?_
    walk_at "go"
    show if false = true then _ else _
    walk_at "go"
    exact q1 H1 (Same.refl _)
  | @some a t nn os w2 wv h ht hw =>
    show if false = true then _ else _
    refine w_iteF ?_
    walk_at "go"
    refine isiR T (.some h ht hw) (y := "Some") (by decide) ?_
    walk_at "go"
    show if true = true then _ else _
    walk_at "go"
    obtain ⟨dx, h⟩ := id h
    refine ⟨a, _, dx, _, _, rfl, h, T.cl_Some, T.n_Some_options, rfl, ?_⟩
    walk_at "go"
    refine ⟨t, os, 4, rfl, ht, hB.ol, hB.os, ?_⟩
    exact q
  | number h h2 =>
    show if false = true then _ else _
    refine w_iteF ?_
    walk_at "go"
    refine isiR T (.number h h2) (y := "Some") (by decide) ?_
    walk_at "go"
    show if false = true then _ else _
    walk_at "go"
    exact q H (Same.refl _)
  | check h h2 h3 =>
    show if false = true then _ else _
    refine w_iteF ?_
    walk_at "go"
    refine isiR T (.check h h2 h3) (y := "Some") (by decide) ?_
    walk_at "go"
    show if false = true then _ else _
    walk_at "go"
    exact q H (Same.refl _)
  | sect h h2 h3 h4 =>
    show if false = true then _ else _
    refine w_iteF ?_
    walk_at "go"
    refine isiR T (.sect h h2 h3 h4) (y := "Some") (by decide) ?_
    walk_at "go"
    show if false = true then _ else _
    walk_at "go"
    exact q H (Same.refl _)
  | rounds h h2 h3 h4 =>
    show if false = true then _ else _
    refine w_iteF ?_
    walk_at "go"
    refine isiR T (.rounds h h2 h3 h4) (y := "Some") (by decide) ?_
    walk_at "go"
    show if false = true then _ else _
    walk_at "go"
    exact q H (Same.refl _)
theorem sc_check_bounds : FnScope ["row"] ["row"] (defScope s_check_bounds) := ⟨rfl, rfl, rfl, by decide +kernel, rfl, by decide +kernel, by decide +kernel⟩
theorem ok_check_bounds (T : Tx K mg) (n : Nat) : Ok P w K mg base 3 (He.ga K "check_bounds") ["row"] (spCk K n ckBound) := by
  obtain ⟨fd, F⟩ := T.f_check_bounds
  refine ⟨fd, F.ok sc_check_bounds (fun vs H Q E h => ?_) (fun cdv A outer s H vs Q E hr h => ?_), F.bindsN fun _ _ _ _ _ _ us hl => match us, hl with | [_], _ => rfl, F.kp⟩
  · obtain ⟨v, r, rfl, _⟩ := h
    rfl
  obtain ⟨v, r, rfl, hv, hB, q⟩ := h
  refine ⟨_, pss_one (ps_if (pw_and (pt_val (pe_callB call_isi (by rfl) T.z_isinstance (by decide +kernel) (pa_cons (pv 0) (pa_cons (pe_gref T.g_Number) pa_nil)))) (pw_and1 (pt_cmpR op_gt (pe_fld (pv 0) rfl) (pe_fld (pv 0) rfl) (nomark _)))).pt
    (pss_one (ps_err2 (T.err (x := "BadCount") (by decide)) T.m_BadCount_init (ok_BadCount T) hr T.g_BadCount (takes_of rfl rfl rfl rfl) pe_str (pe_fld (pv 0) rfl))) pss_nil), ?_⟩
  walk_at "go"
  refine isiR T hv (y := "Number") (by decide) ?_
  walk_at "go"
  cases hv with
  | @number a nn lo hi w2 wv h hw =>
    obtain ⟨dx, h⟩ := h
    show if true = true then _ else _
    walk_at "go"
    refine ⟨a, _, dx, _, _, rfl, h, T.cl_Number, T.n_Number_low, rfl, ?_⟩
    walk_at "go"
    refine ⟨a, _, dx, _, _, rfl, h, T.cl_Number, T.n_Number_high, rfl, ?_⟩
    walk_at "go"
    by_cases c : hi < lo
    · have q' : End K (some (.count "bounds" hi)) H Q E := by
        have : ckBound (.number nn lo hi w2) = some (.count "bounds" hi) := if_pos c
        rw [← this]
        exact q
      rw [decide_eq_true c]
      walk_at "go"
      refine w_err2 ?_
      walk_at "go"
      refine ⟨a, _, dx, _, _, rfl, h, T.cl_Number, T.n_Number_high, rfl, ?_⟩
      exact gErr2_of fun dd H3 e3 h5 => q' _ _ H3 e3 ⟨rfl, dd, rfl, h5⟩
    · have q' : End K none H Q E := by
        have : ckBound (.number nn lo hi w2) = none := if_neg c
        rw [← this]
        exact q
      rw [decide_eq_false c]
      walk_at "go"
      exact q' H (Same.refl _)
  | _ =>
    show if false = true then _ else _
    walk_at "go"
    exact q H (Same.refl _)
theorem sc_check_inner_rows : FnScope ["row", "around"] ["row", "around"] (defScope s_check_inner_rows) := ⟨rfl, rfl, rfl, by decide +kernel, rfl, by decide +kernel, by decide +kernel⟩
theorem ok_check_inner_rows (T : Tx K mg) (n : Nat) : Ok P w K mg base 3 (He.ga K "check_inner_rows") ["row", "around"] (spCkA K n ckInner) := by
  obtain ⟨fd, F⟩ := T.f_check_inner_rows
  refine ⟨fd, F.ok sc_check_inner_rows (fun vs H Q E h => ?_) (fun cdv A outer s H vs Q E hr h => ?_), F.bindsN fun _ _ _ _ _ _ us hl => match us, hl with | [_, _], _ => rfl, F.kp⟩
  · obtain ⟨v, r, ar, rfl, _⟩ := h
    rfl
  obtain ⟨v, r, ar, rfl, hv, hB, q⟩ := h
  refine ⟨_, pss_cons (ps_if (pw_and (pt_val (pe_callB call_isiT (by rfl) T.z_isinstance (by decide +kernel) (pa_cons (pv 0) (pa_cons (pe_tup (pa_cons (pe_gref T.g_Section) (pa_cons (pe_gref T.g_Rounds) pa_nil))) pa_nil)))) (pw_and1 (pt_cmpR op_eq (pe_callB call_len_seq (by rfl) T.z_len PySem.boot_len (pa_cons (pe_fld (pv 0) rfl) pa_nil)) pe_int (nomark _)))).pt
      (pss_one (ps_err2 (T.err (x := "BadCount") (by decide)) T.m_BadCount_init (ok_BadCount T) hr T.g_BadCount (takes_of rfl rfl rfl rfl) pe_str pe_int)) pss_nil)
    (pss_one (ps_if (pw_and (pt_val (pe_callB call_isi (by rfl) T.z_isinstance (by decide +kernel) (pa_cons (pv 0) (pa_cons (pe_gref T.g_Rounds) pa_nil)))) (pw_and1 (pt_cmp (pc_notN (pv 1))))).pt
      (pss_one (ps_err2 (T.err (x := "BadCount") (by decide)) T.m_BadCount_init (ok_BadCount T) hr T.g_BadCount (takes_of rfl rfl rfl rfl) pe_str pe_int)) pss_nil)), ?_⟩
  walk_at "go"
  refine ⟨(by show 2 ≤ sizeLine; decide), fun p hp => ?_⟩
  have e0 : Same H (upd H p (.tup [.ref (He.ga K "Section"), .ref (He.ga K "Rounds")])) := Same.new hp _
  have hv0 := hv.same e0
  have q0 := q.mono e0
  have hp0 : (upd H p (.tup [.ref (He.ga K "Section"), .ref (He.ga K "Rounds")])) p = some (.tup [.ref (He.ga K "Section"), .ref (He.ga K "Rounds")]) := upd_same
  walk_at "go"
  generalize upd H p (.tup [.ref (He.ga K "Section"), .ref (He.ga K "Rounds")]) = H0 at e0 hv0 q0 hp0
  refine isiR2 T hv0 (y := "Section") (z := "Rounds") hp0 (by decide) (by decide) ?_
  walk_at "go"
  have lenz : ∀ (k : Nat), decide (V.int (k : Int) = V.int 0) = decide (k = 0) := fun k => by simp
  cases hv0 with
  | @sect a t xs rs w2 wv h ht hrs hw =>
    obtain ⟨dx, h⟩ := id h
    show if true = true then _ else _
    walk_at "go"
    refine ⟨a, _, dx, _, _, rfl, h, T.cl_Section, T.n_Section_rows, rfl, ?_⟩
    walk_at "go"
    refine ⟨t, xs, rfl, .inr ht, ?_⟩
    walk_at "go"
    refine ⟨rfl, ?_⟩
    walk_at "go"
    rw [lenz, hrs.length]
    by_cases c : rs.length = 0
    · have q' : End K (some (.count "rows" 0)) H0 Q E := by
        have : ckInner (.sect rs w2) ar = some (.count "rows" 0) := if_pos c
        rw [← this]
        exact q0
      rw [decide_eq_true c]
      walk_at "go"
      refine w_err2 ?_
      walk_at "go"
      exact gErr2_of fun dd H3 e3 h5 => q' _ _ H3 e3 ⟨rfl, dd, rfl, h5⟩
    · have q' : End K none H0 Q E := by
        have : ckInner (.sect rs w2) ar = none := if_neg c
        rw [← this]
        exact q0
      rw [decide_eq_false c]
      walk_at "go"
      refine isiR T (.sect ⟨dx, h⟩ ht hrs hw) (y := "Rounds") (by decide) ?_
      walk_at "go"
      show if false = true then _ else _
      walk_at "go"
      exact q' H0 (Same.refl _)
  | @rounds a t nn xs rs w2 wv h ht hrs hw =>
    obtain ⟨dx, h⟩ := id h
    show if true = true then _ else _
    walk_at "go"
    refine ⟨a, _, dx, _, _, rfl, h, T.cl_Rounds, T.n_Rounds_rows, rfl, ?_⟩
    walk_at "go"
    refine ⟨t, xs, rfl, .inr ht, ?_⟩
    walk_at "go"
    refine ⟨rfl, ?_⟩
    walk_at "go"
    rw [lenz, hrs.length]
    by_cases c : rs.length = 0
    · have q' : End K (some (.count "rows" 0)) H0 Q E := by
        have : ckInner (.rounds nn rs w2) ar = some (.count "rows" 0) := if_pos c
        rw [← this]
        exact q0
      rw [decide_eq_true c]
      walk_at "go"
      refine w_err2 ?_
      walk_at "go"
      exact gErr2_of fun dd H3 e3 h5 => q' _ _ H3 e3 ⟨rfl, dd, rfl, h5⟩
    · rw [decide_eq_false c]
      walk_at "go"
      refine isiR T (.rounds ⟨dx, h⟩ ht hrs hw) (y := "Rounds") (by decide) ?_
      walk_at "go"
      show if true = true then _ else _
      walk_at "go"
      have q1 : End K (if ar = none then none else some (.count "rounds" 2)) H0 Q E := by
        have : ckInner (.rounds nn rs w2) ar = if ar = none then none else some (.count "rounds" 2) := if_neg c
        rw [← this]
        exact q0
      rw [show decide (oV ar = V.non) = decide (ar = none) from oV_eq (b := none)]
      by_cases c2 : ar = none
      · rw [if_pos c2] at q1
        rw [decide_eq_true c2]
        walk_at "go"
        exact q1 H0 (Same.refl _)
      · rw [if_neg c2] at q1
        rw [decide_eq_false c2]
        walk_at "go"
        refine w_err2 ?_
        walk_at "go"
        exact gErr2_of fun dd H3 e3 h5 => q1 _ _ H3 e3 ⟨rfl, dd, rfl, h5⟩
  | one h1' h2' h3' =>
    show if false = true then _ else _
    walk_at "go"
    refine isiR T (.one h1' h2' h3') (y := "Rounds") (by decide) ?_
    walk_at "go"
    show if false = true then _ else _
    walk_at "go"
    exact q0 H0 (Same.refl _)
  | some h1' h2' h3' =>
    show if false = true then _ else _
    walk_at "go"
    refine isiR T (.some h1' h2' h3') (y := "Rounds") (by decide) ?_
    walk_at "go"
    show if false = true then _ else _
    walk_at "go"
    exact q0 H0 (Same.refl _)
  | number h1' h2' =>
    show if false = true then _ else _
    walk_at "go"
    refine isiR T (.number h1' h2') (y := "Rounds") (by decide) ?_
    walk_at "go"
    show if false = true then _ else _
    walk_at "go"
    exact q0 H0 (Same.refl _)
  | check h1' h2' h3' =>
    show if false = true then _ else _
    walk_at "go"
    refine isiR T (.check h1' h2' h3') (y := "Rounds") (by decide) ?_
    walk_at "go"
    show if false = true then _ else _
    walk_at "go"
    exact q0 H0 (Same.refl _)
end
end K3
end P10_part
section P11_part
set_option Elab.async false
set_option linter.all false
set_option maxRecDepth 100000
set_option maxHeartbeats 1000000
set_option pp.deepTerms true
open PySem PySem.Spec PyProof.Rows L2
/-- go on as far as nothing is open -/
local macro_rules | `(tactic| walk_at "go") => `(tactic| repeat (first
  | with_reducible refine w_seq ?_ | with_reducible refine w_next ?_ | with_reducible refine w_set ?_ | with_reducible refine w_drop ?_ | with_reducible refine w_ret ?_ | with_reducible refine w_retN ?_
  | with_reducible refine w_if ?_ | ((with_reducible refine' w_var ?hv ?_); (case hv => exact rfl)) | with_reducible refine w_c ?_ | with_reducible refine w_nil ?_ | with_reducible refine w_cons ?_ | with_reducible refine w_op ?_ | with_reducible refine w_un ?_
  | with_reducible refine w_test ?_ | with_reducible refine w_tB ?_ | with_reducible refine w_not ?_ | with_reducible refine w_and ?_ | with_reducible refine w_or ?_ | with_reducible refine w_bl ?_
  | with_reducible refine w_andV ?_ | with_reducible refine w_orV ?_ | with_reducible refine w_notV ?_ | with_reducible refine w_ifE ?_ | with_reducible refine w_chain ?_ | with_reducible refine w_i0 ?_
  | with_reducible refine w_call ?_ | with_reducible refine w_callS ?_ | with_reducible refine w_cB ?_ | with_reducible refine w_tup ?_ | with_reducible refine w_lst ?_ | with_reducible refine w_fldV ?_
  | with_reducible refine w_neF ?_ | with_reducible refine w_neT ?_ | with_reducible refine w_notN ?_ | with_reducible refine w_isN ?_ | with_reducible refine w_gname ?_ | with_reducible refine w_gsub ?_ | with_reducible refine w_asg ?_ | with_reducible refine w_yes ?_ | with_reducible refine w_nT ?_ | with_reducible refine w_nF ?_ | with_reducible refine w_iteT ?_ | with_reducible refine w_iteF ?_))
namespace K3
section
variable {P : Program} {w : World} {K : PySem.W.Frag} {mg : Str → Option Value} {base : Heap}
theorem isQ_isN {r : Rw} (h : r.isQ = true) : r.isN = true := by cases r <;> first | rfl | cases h
theorem quest_isQ {L : AL} {z : Str} {ar : Option Nat} {r : Rw} (h : quest L z ar = .inr r) : r.isQ = true := by
  unfold quest at h
  split at h
  · cases h
  · split at h
    · split at h
      · cases h
      · cases h
        assumption
    · cases h
theorem sc_check_count : FnScope ["row", "around", "ahead", "question"] ["row", "around", "ahead"] (defScope s_check_count) := ⟨rfl, rfl, rfl, by decide +kernel, rfl, by decide +kernel, by decide +kernel⟩
theorem ok_check_count (T : Tx K mg) (n : Nat) : Ok P w K mg base 4 (He.ga K "check_count") ["row", "around", "ahead"] (spCkLA K n ckCount) := by
  obtain ⟨fd, F⟩ := T.f_check_count
  refine ⟨fd, F.ok sc_check_count (fun vs H Q E h => ?_) (fun cdv A outer s H vs Q E hr h => ?_), F.bindsN fun _ _ _ _ _ _ us hl => match us, hl with | [_, _, _], _ => rfl, F.kp⟩
  · obtain ⟨v, r, ar, d, L, rfl, _⟩ := h
    rfl
  obtain ⟨v, r, ar, d, L, rfl, hv, hB, hL, q⟩ := h
  refine ⟨_, pss_cons (ps_if (pt_not (pt_val (pe_callB call_isi (by rfl) T.z_isinstance (by decide +kernel) (pa_cons (pv 0) (pa_cons (pe_gref T.g_Rounds) pa_nil))))) (pss_one ps_retN) pss_nil)
    (pss_cons (ps_set (i := 3) sc_check_count.nd rfl (Or.inl rfl) (pe_fE (takes_of rfl rfl rfl rfl) (ok_question_ahead T) hr T.g_question_ahead (pa_cons (pe_fld (pv 0) rfl) (pa_cons (pv 1) (pa_cons (pv 2) pa_nil)))))
    (pss_one (ps_if (pw_or (pt_not (pt_val (pe_callB call_isi (by rfl) T.z_isinstance (by decide +kernel) (pa_cons (pv 3) (pa_cons (pe_gref T.g_Number) pa_nil))))) (pw_or (pt_cmpR op_lt (pe_fld (pv 3) rfl) pe_int (nomark _)) (pw_or1 (pt_cmpR op_gt (pe_fld (pv 3) rfl) (pe_gint T.i_MOST_ROUNDS) (nomark _))))).pt
      (pss_one (ps_err1 (T.err (x := "NoFit") (by decide)) T.m_NoFit_init (ok_NoFit T) (hr.mono (by decide)) T.g_NoFit (takes_of rfl rfl rfl rfl) (pe_fld (pv 3) rfl))) pss_nil))), ?_⟩
  walk_at "go"
  refine isiR T hv (y := "Rounds") (by decide) ?_
  walk_at "go"
  cases hv with
  | @rounds a t nn xs rs w2 wv h ht hrs hw =>
    obtain ⟨dx, h⟩ := h
    show if (!true) = true then _ else _
    walk_at "go"
    refine ⟨a, _, dx, _, _, rfl, h, T.cl_Rounds, T.n_Rounds_count, rfl, ?_⟩
    walk_at "go"
    refine ⟨nn, ar, d, L, rfl, hL, ?_⟩
    have ec : ckCount L (.rounds nn rs w2) ar = match quest L nn ar with
      | .inl f => some f
      | .inr q => fitN q := rfl
    rw [ec] at q
    cases hq : quest L nn ar with
    | inl f =>
      rw [hq] at q
      exact q
    | inr r2 =>
      rw [hq] at q
      have q : End K (fitN r2) H Q E := q
      intro u H1 e1 hu
      have q1 := q.mono e1
      have hN := isQ_isN (quest_isQ hq)
      obtain ⟨a2, dx2, fs2, rfl, hi2, hcl2, hna2, hlk2⟩ := ro_name T hu hN
      have fit : ∀ (Q' : VK) (W : WX) (σ : L2.St) (D : Ends), σ[3]? = some (some (.ref a2)) → End K (some (.fit r2.name)) H1 Q E → tErr1 K "NoFit" "name" (tFld K (tVar 3) "name") (fun cls d _ H => E cls d H) D σ H1 := by
        intro Q' W σ D hσ qf
        refine w_err1 ?_
        refine ⟨_, hσ, a2, _, dx2, fs2, _, rfl, hi2, hcl2, hna2, hlk2, ?_⟩
        exact gErr1_of fun dd H3 e3 h5 => qf _ _ H3 e3 ⟨rfl, dd, rfl, h5⟩
      walk_at "go"
      refine isiR T hu (y := "Number") (by decide) ?_
      walk_at "go"
      cases hu with
      | @number a3 n3 lo hi w3 wv3 h3 hw3 =>
        obtain ⟨dx3, h3⟩ := h3
        show if (!true) = true then _ else _
        walk_at "go"
        refine ⟨a2, _, dx3, _, _, rfl, h3, T.cl_Number, T.n_Number_low, rfl, ?_⟩
        walk_at "go"
        have ef : fitN (.number n3 lo hi w3) = if lo < 0 then some (.fit n3) else if 4 < hi then some (.fit n3) else none := rfl
        rw [ef] at q1
        by_cases c1 : lo < 0
        · rw [if_pos c1] at q1
          rw [decide_eq_true c1]
          walk_at "go"
          exact fit (fun _ _ => True) (fun _ _ _ _ => True) _ _ rfl q1
        · rw [if_neg c1] at q1
          rw [decide_eq_false c1]
          walk_at "go"
          refine ⟨a2, _, dx3, _, _, rfl, h3, T.cl_Number, T.n_Number_high, rfl, ?_⟩
          walk_at "go"
          by_cases c2 : 4 < hi
          · rw [if_pos c2] at q1
            rw [decide_eq_true c2]
            walk_at "go"
            exact fit (fun _ _ => True) (fun _ _ _ _ => True) _ _ rfl q1
          · rw [if_neg c2] at q1
            rw [decide_eq_false c2]
            walk_at "go"
            exact q1 H1 (Same.refl _)
      | _ =>
        show if (!false) = true then _ else _
        walk_at "go"
        exact fit (fun _ _ => True) (fun _ _ _ _ => True) _ _ rfl q1
  | _ =>
    show if (!false) = true then _ else _
    walk_at "go"
    exact q H (Same.refl _)
theorem co_name (T : Tx K mg) {H : Hp} {v : V} {c : Cd} (h : CO K H v c) (hn : c.isS = true) : ∃ a dx fs, v = .ref a ∧ H a = some (.ins (He.ga K c.nm) dx fs) ∧ Cls K (He.ga K c.nm) ∧ NoAttr K (He.ga K c.nm) "name" ∧ fs.lookup ("name" : Str) = some (.str c.name) := by
  cases h with
  | is h => obtain ⟨dx, h⟩ := h; exact ⟨_, dx, _, rfl, h, T.cl_Is, T.n_Is_name, rfl⟩
  | has h => obtain ⟨dx, h⟩ := h; exact ⟨_, dx, _, rfl, h, T.cl_Has, T.n_Has_name, rfl⟩
  | over h => obtain ⟨dx, h⟩ := h; exact ⟨_, dx, _, rfl, h, T.cl_Above, T.n_Above_name, rfl⟩
  | under h => obtain ⟨dx, h⟩ := h; exact ⟨_, dx, _, rfl, h, T.cl_Below, T.n_Below_name, rfl⟩
  | no h _ => cases hn
  | both h _ _ => cases hn
  | either h _ _ => cases hn
theorem ckConds_take (L : AL) (ar : Option Nat) {cs : List Cd} : ∀ {i : Nat} {c : Cd}, cs[i]? = some c → ckConds L ar (cs.take i) = none → (ckCond L ar c = none → ckConds L ar (cs.take (i + 1)) = none) ∧ (∀ f, ckCond L ar c = some f → ckConds L ar cs = some f) := by
  induction cs with
  | nil => intro i z h; simp at h
  | cons a r ih =>
    intro i z h hn
    cases i with
    | zero =>
      have e : a = z := by simpa using h
      subst e
      refine ⟨fun h => ?_, fun f h => ?_⟩
      · show thenF (ckCond L ar a) none = none
        rw [h] <;> rfl
      · show thenF (ckCond L ar a) _ = _
        rw [h] <;> rfl
    | succ i =>
      have hn' : thenF (ckCond L ar a) (ckConds L ar (r.take i)) = none := hn
      cases ha : ckCond L ar a with
      | some f => rw [ha] at hn'; cases hn'
      | none =>
        rw [ha] at hn'
        have q := ih (i := i) (c := z) (by simpa using h) hn'
        refine ⟨fun h => ?_, fun f h => ?_⟩
        · show thenF (ckCond L ar a) (ckConds L ar (r.take (i + 1))) = none
          rw [ha]
          exact q.1 h
        · show thenF (ckCond L ar a) (ckConds L ar r) = some f
          rw [ha]
          exact q.2 f h
theorem sc_check_conditions : FnScope ["row", "around", "ahead", "condition", "question"] ["row", "around", "ahead"] (defScope s_check_conditions) := ⟨rfl, rfl, rfl, by decide +kernel, rfl, by decide +kernel, by decide +kernel⟩
theorem ok_check_conditions (T : Tx K mg) (n : Nat) : Ok P w K mg base (n + 4) (He.ga K "check_conditions") ["row", "around", "ahead"] (spCkLA K n fun L r ar => ckConds L ar r.conds) := by
  obtain ⟨fd, F⟩ := T.f_check_conditions
  refine ⟨fd, F.ok (k := n + 3) sc_check_conditions (fun vs H Q E h => ?_) (fun cdv A outer s H vs Q E hr h => ?_), F.bindsN fun _ _ _ _ _ _ us hl => match us, hl with | [_, _, _], _ => rfl, F.kp⟩
  · obtain ⟨v, r, ar, d, L, rfl, _⟩ := h
    rfl
  obtain ⟨v, r, ar, d, L, rfl, hv, hB, hL, q⟩ := h
  refine ⟨_, pss_one (ps_for (passes_of rfl) rfl (pi_list (pe_f (ok_conditions_of T n) (hr.mono (by omega)) T.g_conditions_of (pa_cons (pv 0) pa_nil))) (pg_name (i := 3) sc_check_conditions.nd rfl (Or.inl rfl))
      (pss_cons (ps_set (i := 4) sc_check_conditions.nd rfl (Or.inl rfl) (pe_fE (takes_of rfl rfl rfl rfl) (ok_question_ahead T) (hr.mono (by omega)) T.g_question_ahead (pa_cons (pe_fld (pv 3) rfl) (pa_cons (pv 1) (pa_cons (pv 2) pa_nil)))))
      (pss_one (ps_if (pt_not (pt_val (pe_f (ok_suits T) (hr.mono (by omega)) T.g_suits (pa_cons (pv 3) (pa_cons (pv 4) pa_nil)))))
        (pss_one (ps_err1 (T.err (x := "NoFit") (by decide)) T.m_NoFit_init (ok_NoFit T) (hr.mono (by omega)) T.g_NoFit (takes_of rfl rfl rfl rfl) (pe_fld (pv 4) rfl))) pss_nil)))), ?_⟩
  walk_at "go"
  refine ⟨_, rfl, ?_⟩
  walk_at "go"
  refine ⟨v, r, rfl, hv, hB.cd, hB.c1, hB.c2, fun p H0 xs hp e0 h0 hxs => ?_⟩
  refine ⟨p, rfl, ⟨_, SqL.of h0⟩, ?_⟩
  have q0 : End K (ckConds L ar r.conds) H0 Q E := End.mono q e0
  have hL0 := hL.same e0
  refine for_list (K := K) (a := p) (xs := xs) (fun (i : Nat) σ H' => ∃ v3 v4 : Option V, σ = [some v, some (oV ar), some (.ref d), v3, v4] ∧ Same H0 H' ∧ ckConds L ar (r.conds.take i) = none) ⟨none, none, rfl, Same.refl _, rfl⟩ (fun i σ H' _ ⟨_, _, _, e, _⟩ => e.seq (SqL.of h0)) ?_ ?_
  · rintro i x σ H1 hi ⟨v3, v4, rfl, e1, hn⟩
    obtain ⟨c, hc1, hx⟩ := K3.Paired.get hxs hi
    have hx1 := hx.same e1
    have hS := conds_isS r c (List.mem_of_getElem? hc1)
    have tk := ckConds_take L ar hc1 hn
    obtain ⟨a, dx, fs, rfl, hia, hcl, hna, hlk⟩ := co_name T hx1 hS
    have hL1 := hL0.same e1
    walk_at "go"
    refine ⟨a, _, dx, fs, _, rfl, hia, hcl, hna, hlk, ?_⟩
    walk_at "go"
    refine ⟨c.name, ar, d, L, rfl, hL1, ?_⟩
    cases hq : quest L c.name ar with
    | inl f =>
      intro cls dd H2 e2 h2
      have q1 := q0
      rw [tk.2 f (by unfold ckCond; rw [hq])] at q1
      exact q1 cls dd H2 (e1.trans e2) h2
    | inr r2 =>
      intro u H2 e2 hu
      have hN := isQ_isN (quest_isQ hq)
      have ec : ckCond L ar c = if suitsB c r2 then none else some (.fit r2.name) := by unfold ckCond; rw [hq]
      walk_at "go"
      refine ⟨.ref a, u, c, r2, rfl, hx1.same e2, hu, fun H3 e3 => ?_⟩
      have hu3 := hu.same e3
      obtain ⟨a2, dx2, fs2, rfl, hi2, hcl2, hna2, hlk2⟩ := ro_name T hu3 hN
      cases hs : suitsB c r2 with
      | true =>
        rw [hs] at ec
        walk_at "go"
        exact ⟨_, _, rfl, (e1.trans e2).trans e3, tk.1 ec⟩
      | false =>
        rw [hs] at ec
        walk_at "go"
        refine w_err1 ?_
        walk_at "go"
        refine ⟨a2, _, dx2, fs2, _, rfl, hi2, hcl2, hna2, hlk2, ?_⟩
        have q1 := q0
        rw [tk.2 _ ec] at q1
        exact gErr1_of fun dd H4 e4 h5 => q1 _ _ H4 (((e1.trans e2).trans e3).trans e4) ⟨rfl, dd, rfl, h5⟩
  · rintro σ H1 ⟨v3, v4, rfl, e1, hn⟩
    rw [hxs.length, List.take_length] at hn
    rw [hn] at q0
    exact q0 H1 e1
end
end K3
end P11_part
section P12_part
set_option Elab.async false
set_option linter.all false
set_option maxRecDepth 100000
set_option maxHeartbeats 1000000
set_option pp.deepTerms true
open PySem PySem.Spec PyProof.Rows L2
/-- go on as far as nothing is open -/
local macro_rules | `(tactic| walk_at "go") => `(tactic| repeat (first
  | with_reducible refine w_seq ?_ | with_reducible refine w_next ?_ | with_reducible refine w_set ?_ | with_reducible refine w_drop ?_ | with_reducible refine w_ret ?_ | with_reducible refine w_retN ?_
  | with_reducible refine w_if ?_ | ((with_reducible refine' w_var ?hv ?_); (case hv => exact rfl)) | with_reducible refine w_c ?_ | with_reducible refine w_nil ?_ | with_reducible refine w_cons ?_ | with_reducible refine w_op ?_ | with_reducible refine w_un ?_
  | with_reducible refine w_test ?_ | with_reducible refine w_tB ?_ | with_reducible refine w_not ?_ | with_reducible refine w_and ?_ | with_reducible refine w_or ?_ | with_reducible refine w_bl ?_
  | with_reducible refine w_andV ?_ | with_reducible refine w_orV ?_ | with_reducible refine w_notV ?_ | with_reducible refine w_ifE ?_ | with_reducible refine w_chain ?_ | with_reducible refine w_i0 ?_
  | with_reducible refine w_call ?_ | with_reducible refine w_callS ?_ | with_reducible refine w_cB ?_ | with_reducible refine w_tup ?_ | with_reducible refine w_lst ?_ | with_reducible refine w_fldV ?_
  | with_reducible refine w_neF ?_ | with_reducible refine w_neT ?_ | with_reducible refine w_notN ?_ | with_reducible refine w_isN ?_ | with_reducible refine w_gname ?_ | with_reducible refine w_gsub ?_ | with_reducible refine w_asg ?_ | with_reducible refine w_yes ?_ | with_reducible refine w_nT ?_ | with_reducible refine w_nF ?_ | with_reducible refine w_iteT ?_ | with_reducible refine w_iteF ?_))
namespace K3
def ckRows : AL → List (Rw × Option Nat) → Option Flt
  | _, [] => none
  | L, (r, ar) :: rest => thenF (ckRow L r ar) (ckRows (if r.isN then L ++ [(r.name, r, ar)] else L) rest)
def spCkRows (K : PySem.W.Frag) (n : Nat) : Sp := fun vs H Q E => ∃ (l : Addr) (zs : List V) (F : List (Rw × Option Nat)), vs = [.ref l] ∧ H l = some (.lst zs) ∧ LA K H zs F ∧ (∀ e ∈ F, RwB n e.1) ∧ F.length ≤ 1000 ∧ End K (ckRows [] F) H Q E
theorem ckRow_new {L : AL} {r : Rw} {ar : Option Nat} (h : ckRow L r ar = none) (hn : r.isN = true) : look L r.name = none := by
  unfold ckRow at h
  have h1 : ckName L r = none := by
    cases e : ckName L r with
    | none => rfl
    | some f => rw [e] at h; cases h
  unfold ckName at h1
  rw [hn, if_pos rfl] at h1
  cases e : look L r.name with
  | none => rfl
  | some x =>
    rw [e] at h1
    cases e2 : nameF r.name with
    | some f => rw [e2] at h1; cases h1
    | none => rw [e2] at h1; cases h1
section
variable {P : Program} {w : World} {K : PySem.W.Frag} {mg : Str → Option Value} {base : Heap}
theorem sc_check_row : FnScope ["row", "around", "ahead"] ["row", "around", "ahead"] (defScope s_check_row) := ⟨rfl, rfl, rfl, by decide +kernel, rfl, by decide +kernel, by decide +kernel⟩
theorem ok_check_row (T : Tx K mg) (n : Nat) : Ok P w K mg base (n + 6) (He.ga K "check_row") ["row", "around", "ahead"] (spCkLA K n ckRow) := by
  obtain ⟨fd, F⟩ := T.f_check_row
  refine ⟨fd, F.ok (k := n + 5) sc_check_row (fun vs H Q E h => ?_) (fun cdv A outer s H vs Q E hr h => ?_), F.bindsN fun _ _ _ _ _ _ us hl => match us, hl with | [_, _, _], _ => rfl, F.kp⟩
  · obtain ⟨v, r, ar, d, L, rfl, _⟩ := h
    rfl
  obtain ⟨v, r, ar, d, L, rfl, hv, hB, hL, q⟩ := h
  refine ⟨_, pss_cons (ps_expr (pe_fE (takes_of rfl rfl rfl rfl) (ok_check_name T n) (hr.mono (by omega)) T.g_check_name (pa_cons (pv 0) (pa_cons (pv 2) pa_nil))))
    (pss_cons (ps_expr (pe_fE (takes_of rfl rfl rfl rfl) (ok_check_options T n) (hr.mono (by omega)) T.g_check_options (pa_cons (pv 0) pa_nil)))
    (pss_cons (ps_expr (pe_fE (takes_of rfl rfl rfl rfl) (ok_check_bounds T n) (hr.mono (by omega)) T.g_check_bounds (pa_cons (pv 0) pa_nil)))
    (pss_cons (ps_expr (pe_fE (takes_of rfl rfl rfl rfl) (ok_check_inner_rows T n) (hr.mono (by omega)) T.g_check_inner_rows (pa_cons (pv 0) (pa_cons (pv 1) pa_nil))))
    (pss_cons (ps_expr (pe_fE (takes_of rfl rfl rfl rfl) (ok_check_count T n) (hr.mono (by omega)) T.g_check_count (pa_cons (pv 0) (pa_cons (pv 1) (pa_cons (pv 2) pa_nil)))))
    (pss_one (ps_expr (pe_fE (takes_of rfl rfl rfl rfl) (ok_check_conditions T n) (hr.mono (by omega)) T.g_check_conditions (pa_cons (pv 0) (pa_cons (pv 1) (pa_cons (pv 2) pa_nil)))))))))), ?_⟩
  unfold ckRow at q
  walk_at "go"
  refine ⟨v, r, d, L, rfl, hv, hB, hL, End_seq q fun H1 e1 q1 => ?_⟩
  walk_at "go"
  refine ⟨v, r, rfl, hv.same e1, hB, End_seq q1 fun H2 e2 q2 => ?_⟩
  walk_at "go"
  refine ⟨v, r, rfl, (hv.same e1).same e2, hB, End_seq q2 fun H3 e3 q3 => ?_⟩
  have e13 := (e1.trans e2).trans e3
  walk_at "go"
  refine ⟨v, r, ar, rfl, hv.same e13, hB, End_seq q3 fun H4 e4 q4 => ?_⟩
  have e14 := e13.trans e4
  walk_at "go"
  refine ⟨v, r, ar, d, L, rfl, hv.same e14, hB, hL.same e14, End_seq q4 fun H5 e5 q5 => ?_⟩
  have e15 := e14.trans e5
  walk_at "go"
  exact ⟨v, r, ar, d, L, rfl, hv.same e15, hB, hL.same e15, q5⟩
theorem sc_check_rows : FnScope ["laid", "ahead", "row", "around"] ["laid"] (defScope s_check_rows) := ⟨rfl, rfl, rfl, by decide +kernel, rfl, by decide +kernel, by decide +kernel⟩
theorem ok_check_rows (T : Tx K mg) (n : Nat) : Ok P w K mg base (n + 7) (He.ga K "check_rows") ["laid"] (spCkRows K n) := by
  obtain ⟨fd, F⟩ := T.f_check_rows
  refine ⟨fd, F.ok (k := n + 6) sc_check_rows (fun vs H Q E h => ?_) (fun cdv A outer s H vs Q E hr h => ?_), F.bindsN fun _ _ _ _ _ _ us hl => match us, hl with | [_], _ => rfl, F.kp⟩
  · obtain ⟨l, zs, F, rfl, _⟩ := h
    rfl
  obtain ⟨l, zs, F, rfl, hl, hF, hB, hz, q⟩ := h
  refine ⟨_, pss_cons (ps_set (i := 1) sc_check_rows.nd rfl (Or.inl rfl) pe_dnewK)
    (pss_one (ps_for (passes_of rfl) rfl (pi_list (pv 0)) (pg_tup rfl (pgs_cons (pg_name (i := 2) sc_check_rows.nd rfl (Or.inl rfl)) (pgs_cons (pg_name (i := 3) sc_check_rows.nd rfl (Or.inl rfl)) pgs_nil)))
      (pss_cons (ps_expr (pe_fE (takes_of rfl rfl rfl rfl) (ok_check_row T n) hr T.g_check_row (pa_cons (pv 2) (pa_cons (pv 3) (pa_cons (pv 1) pa_nil)))))
      (pss_one (ps_if (pt_val (pe_f (ok_is_named T) (hr.mono (by omega)) T.g_is_named (pa_cons (pv 2) pa_nil))) (pss_one (ps_dput (hu_of hr) (pv 1) (pe_fld (pv 2) rfl) (pe_tup (pa_cons (pv 2) (pa_cons (pv 3) pa_nil))) rfl)) pss_nil))))), ?_⟩
  walk_at "go"
  intro d hd
  walk_at "go"
  refine ⟨_, rfl, l, rfl, ⟨_, SqL.of (Same.new hd _ _ _ hl)⟩, ?_⟩
  have lF := hF.length
  refine for_list (K := K) (a := l) (xs := zs) (fun (i : Nat) σ H' => ∃ (v2 v3 : Option V) (L : AL), σ = [some (.ref l), some (.ref d), v2, v3] ∧ Same H H' ∧ AHd K H' d L ∧ L.length ≤ i ∧ ckRows [] F = ckRows L (F.drop i))
    ⟨none, none, [], rfl, Same.new hd _, ⟨[], upd_same, .nil⟩, Nat.le_refl _, rfl⟩ (fun i σ H' _ ⟨_, _, _, _, e, _⟩ => SqL.of (e _ _ hl)) ?_ ?_
  · rintro i x σ H1 hi ⟨v2, v3, L, rfl, e1, hL, hli, hck⟩
    obtain ⟨⟨r, ar⟩, hc1, t, u, rfl, ht, hu⟩ := K3.Paired.get hF hi
    have hlt : i < F.length := (List.getElem?_eq_some_iff.mp hc1).1
    have hdr : F.drop i = (r, ar) :: F.drop (i + 1) := by
      have := List.drop_eq_getElem_cons hlt
      rw [this, (List.getElem?_eq_some_iff.mp hc1).2]
    rw [hdr] at hck
    have q1 := q.mono e1
    rw [hck] at q1
    have q1 : End K (thenF (ckRow L r ar) (ckRows (if r.isN then L ++ [(r.name, r, ar)] else L) (F.drop (i + 1)))) H1 Q E := q1
    refine ⟨t, _, rfl, SqT.of (e1 _ _ ht), rfl, _, _, rfl, ?_⟩
    walk_at "go"
    refine ⟨_, _, rfl, ?_⟩
    walk_at "go"
    refine ⟨rfl, ?_⟩
    walk_at "go"
    have hu1 : RO K H1 u r := RO.same e1 hu
    refine ⟨u, r, ar, d, L, rfl, hu1, hB _ (List.mem_of_getElem? hc1), hL, ?_⟩
    cases hcr : ckRow L r ar with
    | some f =>
      rw [hcr] at q1
      exact q1
    | none =>
      rw [hcr] at q1
      intro H2 e2
      have hu2 := RO.same e2 hu1
      walk_at "go"
      refine ⟨u, r, rfl, hu2, fun H3 e3 => ?_⟩
      have hu3 := RO.same e3 hu2
      have hL3 := (hL.same e2).same e3
      have e13 := (e1.trans e2).trans e3
      cases hn : r.isN with
      | false =>
        walk_at "go"
        refine ⟨_, _, L, rfl, e13, hL3, by omega, ?_⟩
        rw [hck]
        show thenF (ckRow L r ar) (ckRows (if r.isN then _ else L) _) = _
        rw [hcr, hn] <;> rfl
      | true =>
        have hlk := ckRow_new hcr hn
        obtain ⟨a, dx, fs, rfl, hi2, hcl, hna, hlk2⟩ := ro_name T hu3 hn
        obtain ⟨kvs, hd3, hp⟩ := hL3
        have lk := hp.length
        walk_at "go"
        refine ⟨_, rfl, _, rfl, (by show 2 ≤ sizeLine; decide), fun t2 ht2 => ?_⟩
        have e4 : Same H3 (upd H3 t2 (.tup [.ref a, oV ar])) := Same.new ht2 _
        refine ⟨_, rfl, _, rfl, a, _, dx, fs, _, rfl, e4 _ _ hi2, hcl, hna, hlk2, ?_⟩
        have hv : valV kvs (Sum.inr r.name) = none := by
          rcases look_ea r.name hp with ⟨h1, _⟩ | ⟨_, _, _, _, _, h2, _⟩
          · exact h1
          · rw [hlk] at h2; cases h2
        have hput : putK kvs (Sum.inr r.name) (.ref t2) = kvs ++ [(Sum.inr r.name, .ref t2)] := by
          unfold putK
          rw [valV_any, hv, if_neg (by decide)]
        refine ⟨d, _, rfl, DPut.k (k := Sum.inr r.name) (e4 _ _ hd3) (Nat.lt_of_le_of_lt (show kvs.length ≤ 1000 by omega) (by decide)), ?_⟩
        rw [hput]
        have si : SI H3 (upd (upd H3 t2 (.tup [.ref a, oV ar])) d (.dK (kvs ++ [(Sum.inr r.name, .ref t2)]))) := e4.si.trans (SI.upd (e4 _ _ hd3) rfl _)
        refine ⟨_, _, L ++ [(r.name, r, ar)], rfl, (e13.trans e4).mut hd, ⟨_, upd_same, ?_⟩, by rw [List.length_append]; exact Nat.succ_le_succ hli, ?_⟩
        · refine K3.Paired.app (L2.Paired.mapP hp fun _ _ z => z.si si) (.cons ⟨rfl, t2, .ref a, rfl, ?_, RO.si si hu3⟩ .nil)
          rw [upd_ne (fun z => by rw [← z, ht2] at hd3; cases hd3)]
          exact upd_same
        · rw [hck]
          show thenF (ckRow L r ar) (ckRows (if r.isN then _ else L) _) = _
          rw [hcr, hn] <;> rfl
  · rintro σ H1 ⟨v2, v3, L, rfl, e1, hL, hli, hck⟩
    rw [lF, List.drop_eq_nil_of_le (Nat.le_refl _)] at hck
    have q1 := q.mono e1
    rw [hck] at q1
    exact q1 H1 (Same.refl _)
end
end K3
end P12_part
section P13_part
set_option Elab.async false
set_option linter.all false
set_option maxRecDepth 100000
set_option maxHeartbeats 1000000
set_option pp.deepTerms true
open PySem PySem.Spec PyProof.Rows L2
/-- go on as far as nothing is open -/
local macro_rules | `(tactic| walk_at "go") => `(tactic| repeat (first
  | with_reducible refine w_seq ?_ | with_reducible refine w_next ?_ | with_reducible refine w_set ?_ | with_reducible refine w_drop ?_ | with_reducible refine w_ret ?_ | with_reducible refine w_retN ?_
  | with_reducible refine w_if ?_ | ((with_reducible refine' w_var ?hv ?_); (case hv => exact rfl)) | with_reducible refine w_c ?_ | with_reducible refine w_nil ?_ | with_reducible refine w_cons ?_ | with_reducible refine w_op ?_ | with_reducible refine w_un ?_
  | with_reducible refine w_test ?_ | with_reducible refine w_tB ?_ | with_reducible refine w_not ?_ | with_reducible refine w_and ?_ | with_reducible refine w_or ?_ | with_reducible refine w_bl ?_
  | with_reducible refine w_andV ?_ | with_reducible refine w_orV ?_ | with_reducible refine w_notV ?_ | with_reducible refine w_ifE ?_ | with_reducible refine w_chain ?_ | with_reducible refine w_i0 ?_
  | with_reducible refine w_call ?_ | with_reducible refine w_callS ?_ | with_reducible refine w_cB ?_ | with_reducible refine w_tup ?_ | with_reducible refine w_lst ?_ | with_reducible refine w_fldV ?_
  | with_reducible refine w_neF ?_ | with_reducible refine w_neT ?_ | with_reducible refine w_notN ?_ | with_reducible refine w_isN ?_ | with_reducible refine w_gname ?_ | with_reducible refine w_gsub ?_ | with_reducible refine w_asg ?_ | with_reducible refine w_yes ?_ | with_reducible refine w_nT ?_ | with_reducible refine w_nF ?_ | with_reducible refine w_iteT ?_ | with_reducible refine w_iteF ?_))
namespace K3
def formF (rs : List Rw) : Option Flt := if 1 ≤ Rws.cnt rs ∧ Rws.cnt rs ≤ 40 then ckRows [] (Rws.flat rs none 0) else some (.count "rows" (Rws.cnt rs))
def qsOf (F : List (Rw × Option Nat)) : List Rw := F.filterMap fun e => if e.1.isQ then some e.1 else none
def alOf (F : List (Rw × Option Nat)) : AL := F.filterMap fun e => if e.1.isN then some (e.1.name, e.1, e.2) else none
theorem ck_drop : ∀ {F : List (Rw × Option Nat)} {L : AL}, ckRows L F = none → ∀ {i : Nat} {e : Rw × Option Nat}, F[i]? = some e → e.1.isN = true → look (L ++ alOf (F.take i)) e.1.name = none
  | [], _, _, i, e, h, _ => by simp at h
  | (r, ar) :: F, L, hc, i, e, h, hn => by
    have hc' : thenF (ckRow L r ar) (ckRows (if r.isN then L ++ [(r.name, r, ar)] else L) F) = none := hc
    cases h1 : ckRow L r ar with
    | some f => rw [h1] at hc'; cases hc'
    | none =>
      rw [h1] at hc'
      cases i with
      | zero =>
        have e1 : (r, ar) = e := by simpa using h
        subst e1
        have : look L r.name = none := ckRow_new h1 hn
        show look (L ++ []) r.name = none
        rw [List.append_nil]
        exact this
      | succ i =>
        have ih := ck_drop (F := F) hc' (i := i) (e := e) (by simpa using h) hn
        show look (L ++ alOf ((r, ar) :: F.take i)) e.1.name = none
        unfold alOf
        cases hr : r.isN with
        | true =>
          rw [hr, if_pos rfl] at ih
          rw [List.filterMap_cons]
          simp only [hr, if_true]
          have ea : L ++ (r.name, r, ar) :: (F.take i).filterMap (fun e => if e.1.isN = true then some (e.1.name, e.1, e.2) else none) = L ++ [(r.name, r, ar)] ++ (F.take i).filterMap (fun e => if e.1.isN = true then some (e.1.name, e.1, e.2) else none) := by simp
          rw [ea]
          exact ih
        | false =>
          rw [hr] at ih
          rw [List.filterMap_cons]
          simp only [hr]
          exact ih
theorem look_all {z : Str} : ∀ {L : AL}, look L z = none → ∀ e ∈ L, e.1 ≠ z
  | [], _, e, h => by cases h
  | a :: L, hl, e, h => by
    unfold look at hl
    rw [List.find?_cons] at hl
    by_cases c : a.1 = z
    · rw [decide_eq_true c] at hl
      cases hl
    · rw [decide_eq_false c] at hl
      rcases List.mem_cons.mp h with h | h
      · rw [h]; exact c
      · exact look_all (L := L) hl e h
theorem qs_al {F : List (Rw × Option Nat)} {r : Rw} (h : r ∈ qsOf F) : ∃ e ∈ alOf F, e.1 = r.name := by
  obtain ⟨e, he, h2⟩ := List.mem_filterMap.mp h
  cases hq : e.1.isQ with
  | false => rw [hq] at h2; cases h2
  | true =>
    rw [hq, if_pos rfl] at h2
    have e1 := Option.some.inj h2
    subst e1
    refine ⟨(e.1.name, e.1, e.2), List.mem_filterMap.mpr ⟨e, he, ?_⟩, rfl⟩
    rw [if_pos (isQ_isN hq)]
/-- an entry of questions -/
def QE (K : PySem.W.Frag) (H : Hp) (kv : Key × V) (r : Rw) : Prop := kv.1 = Sum.inr r.name ∧ RO K H kv.2 r
theorem val_qe {K : PySem.W.Frag} {H : Hp} {z : Str} : ∀ {kvs : List (Key × V)} {qs : List Rw}, Paired (QE K H) kvs qs → (∀ r ∈ qs, r.name ≠ z) → valV kvs (Sum.inr z) = none
  | _, _, .nil, _ => rfl
  | _, _, .cons (a := kv) (b := r) h t, hn => by
    have e1 : ¬ kv.1 = Sum.inr z := by rw [h.1]; exact fun q => hn r (List.mem_cons_self ..) (Sum.inr.inj q)
    rw [valV_neg e1]
    exact val_qe t fun r' hr => hn r' (List.mem_cons_of_mem _ hr)
/-- a comprehension of a dict over whatever is walked -/
theorem dc_any {J : It} {n : Nat} {G : Hp → Prop} {Y : Nat → Hp → V → Hp → Prop} (wk : Walk J n G Y) {g : TG} {tt : TT} {tk tv : TE} {vs : List Nat} {σ : L2.St} {H1 : Hp} {D : Addr} {Qd : Hp → Prop} (Pv : Nat → Hp → Prop) (h0 : Pv 0 (upd H1 D (.dK [])))
    (hG : ∀ i H, i ≤ n → Pv i H → G H)
    (hs : ∀ i x H H', i < n → Pv i H → Y i H x H' → g x (wipe σ vs) H' fun σ2 H2 => wipe σ2 vs = wipe σ vs ∧ tt σ2 H2 fun b H3 =>
      if b = true then tk σ2 H3 fun y H4 => tv σ2 H4 fun z H5 => ∃ kvs k, y = kV k ∧ H5 D = some (.dK kvs) ∧ kvs.length < sizeLine ∧ Pv (i + 1) (upd H5 D (.dK (putK kvs k z))) else Pv (i + 1) H3)
    (hd : ∀ H, Pv n H → Qd H) :
    ∃ W : Nat → Nat → Hp → Prop, (∃ m, W 0 m (upd H1 D (.dK []))) ∧ ∀ i m H, W i m H → (J.stop i H ∧ Qd H) ∨ (J.go i H ∧ ∃ Nx : Hp → Prop, (∀ H', Nx H' → ∃ m', m' < m ∧ W (i + 1) m' H') ∧
      ∀ x H', J.yld i H x H' → g x (wipe σ vs) H' fun σ2 H2 => wipe σ2 vs = wipe σ vs ∧ tt σ2 H2 fun b H3 =>
        if b = true then tk σ2 H3 fun y H4 => tv σ2 H4 fun z H5 => ∃ kvs k, y = kV k ∧ H5 D = some (.dK kvs) ∧ kvs.length < sizeLine ∧ Nx (upd H5 D (.dK (putK kvs k z))) else Nx H3) := by
  refine ⟨fun i m H => m + i = n ∧ Pv i H, ⟨n, rfl, h0⟩, fun i m H w => ?_⟩
  obtain ⟨e, p⟩ := w
  by_cases c : i < n
  · exact .inr ⟨wk.goes i H c (hG i H (Nat.le_of_lt c) p), Pv (i + 1), fun H' p' => ⟨m - 1, by omega, by omega, p'⟩, fun x H' y => hs i x H H' c p (wk.yields i H x H' c (hG i H (Nat.le_of_lt c) p) y)⟩
  · have e2 : i = n := by omega
    subst e2
    exact .inl ⟨wk.stops H (hG i H (Nat.le_refl _) p), hd H p⟩
theorem w_tuple {K : PySem.W.Frag} {σ : L2.St} {i : Nat} {H : Hp} {l : Addr} {xs : List V} {Q : VK} (hσ : σ[i]? = some (some (.ref l))) (hl : SqL K H l xs ∨ SqT K H l xs) (k : ∀ t H1, Same H H1 → SqT K H1 t xs → Q (.ref t) H1) :
    tCB (fun xs H Q => ∃ p ys, xs = [V.ref p] ∧ ((SqL K H p ys ∧ ∀ l, H l = none → Q (.ref l) (upd H l (.tup ys))) ∨ (SqT K H p ys ∧ Q (.ref p) H))) (tCons (tVar i) tNil) σ H Q := by
  refine ⟨_, hσ, ?_⟩
  rcases hl with h | h
  · exact ⟨l, xs, rfl, .inl ⟨h, fun t ht => k t _ (Same.new ht _) (SqT.of upd_same)⟩⟩
  · exact ⟨l, xs, rfl, .inr ⟨h, k l H (Same.refl _) h⟩⟩
theorem putK_len {κ : Type} [DecidableEq κ] (k : κ) (v : V) : ∀ kvs : List (κ × V), (putK kvs k v).length ≤ kvs.length + 1 := fun kvs => by
  unfold putK
  split
  · rw [List.length_map]; omega
  · rw [List.length_append]; exact Nat.le_refl _
/-- whether a question of this name stands in rounds -/
def repB (F : List (Rw × Option Nat)) (z : Str) : Bool := F.any fun e => e.1.isQ && (e.2.isSome && decide (e.1.name = z))
theorem rep_take {F : List (Rw × Option Nat)} {i : Nat} {e : Rw × Option Nat} (h : F[i]? = some e) (z : Str) : repB (F.take (i + 1)) z = (repB (F.take i) z || (e.1.isQ && (e.2.isSome && decide (e.1.name = z)))) := by
  unfold repB
  rw [List.take_add_one, h, List.any_append]
  simp
theorem putK_some {κ : Type} [DecidableEq κ] {kvs : List (κ × V)} {k j : κ} {v : V} : (valV (putK kvs k v) j).isSome = ((valV kvs j).isSome || decide (k = j)) := by
  rw [← valV_any, ← valV_any]
  unfold putK
  split
  · rename_i h
    rw [List.any_map]
    have : ((fun kv : κ × V => decide (kv.1 = j)) ∘ fun kv => if kv.1 = k then (kv.1, v) else kv) = fun kv => decide (kv.1 = j) := funext fun kv => by
      show decide ((if kv.1 = k then (kv.1, v) else kv).1 = j) = _
      split <;> rfl
    rw [this]
    by_cases e : k = j
    · rw [← e, h, Bool.true_or]
    · rw [decide_eq_false e, Bool.or_false]
  · rw [List.any_append]
    simp
/-- what Form.__init__ leaves: B is what stood ahead of the new instance at x -/
def FormEnd (K : PySem.W.Frag) (rs : List Rw) (xs : List V) (x dx : Addr) (B : Hp) (Q : VK) (E : XK) : Prop := match formF rs with
  | some f => ∀ cls d H', Same B H' → IsF K f cls d H' → E cls d H'
  | none => ∀ H' t d d2 kvs kv2, Same B H' → H' x = some (.ins (He.ga K "Form") dx [("rows", .ref t), ("questions", .ref d), ("repeated", .ref d2)]) → SqT K H' t xs → H' d = some (.dK kvs) → Paired (QE K H') kvs (qsOf (Rws.flat rs none 0)) → H' d2 = some (.dK kv2) → (∀ z, (valV kv2 (Sum.inr z)).isSome = repB (Rws.flat rs none 0) z) → Q .non H'
def spForm (K : PySem.W.Frag) (n : Nat) : Sp := fun vs H Q E => ∃ (x dx l : Addr) (xs : List V) (rs : List Rw) (B : Hp), vs = [.ref x, .ref l] ∧ Same B H ∧ B x = none ∧ (SqL K B l xs ∨ SqT K B l xs) ∧ ROs K B xs rs ∧ (∀ e ∈ Rws.flat rs none 0, RwB n e.1) ∧ Rws.dep rs < n + 7 ∧ Rws.cnt rs ≤ 900 ∧
  H x = some (.ins (He.ga K "Form") dx []) ∧ FormEnd K rs xs x dx B Q E
theorem Same.but2 {B H H' : Hp} {p : Addr} (e : Same B H) (h : But p H H') (hp : B p = none) : Same B H' := fun b o q => h b o (fun z => by rw [z, hp] at q; cases q) (e b o q)
section
variable {P : Program} {w : World} {K : PySem.W.Frag} {mg : Str → Option Value} {base : Heap}
theorem sc_Form : FnScope ["self", "rows", "laid", "row", "around"] ["self", "rows"] (defScope s_Form_init) := ⟨rfl, rfl, rfl, by decide +kernel, rfl, by decide +kernel, by decide +kernel⟩
theorem ok_Form (T : Tx K mg) (n : Nat) : Ok P w K mg base (n + 8) (He.ma K (He.ga K "Form") "__init__") ["self", "rows"] (spForm K n) := by
  obtain ⟨fd, F⟩ := T.f_Form_init
  refine ⟨fd, F.ok (k := n + 7) sc_Form (fun vs H Q E h => ?_) (fun cdv A outer s H vs Q E hr h => ?_), F.bindsN fun _ _ _ _ _ _ us hl => match us, hl with | [_, _], _ => rfl, F.kp⟩
  · obtain ⟨x, dx, l, xs, rs, B, rfl, _⟩ := h
    rfl
  obtain ⟨x, dx, l, xs, rs, B, rfl, e0, hBx, hl, hxs, hB, hdep, hcnt, hx, q⟩ := h
  refine ⟨_, pss_cons (ps_fld (pv 0) (pe_callTy call_tuple_of (by rfl) T.z_tuple (by decide +kernel) (pa_cons (pv 1) pa_nil)) rfl)
    (pss_cons (ps_set (i := 2) sc_Form.nd rfl (Or.inl rfl) (pe_lst pa_nil))
    (pss_cons (ps_expr (pe_fE (takes_of rfl rfl rfl rfl) (ok_lay_out T (n + 7)) hr T.g_lay_out (pa_cons (pe_fld (pv 0) rfl) (pa_cons pe_non (pa_cons (pv 2) pa_nil)))))
    (pss_cons (ps_if (pt_not (pt_chain op_le op_le pe_int (pe_callB call_len_seq (by rfl) T.z_len PySem.boot_len (pa_cons (pv 2) pa_nil)) (pe_gint T.i_MOST_ROWS)))
      (pss_one (ps_err2 (T.err (x := "BadCount") (by decide)) T.m_BadCount_init (ok_BadCount T) (hr.mono (by omega)) T.g_BadCount (takes_of rfl rfl rfl rfl) pe_str (pe_callB call_len_seq (by rfl) T.z_len PySem.boot_len (pa_cons (pv 2) pa_nil)))) pss_nil)
    (pss_cons (ps_expr (pe_fE (takes_of rfl rfl rfl rfl) (ok_check_rows T n) hr T.g_check_rows (pa_cons (pv 2) pa_nil)))
    (pss_cons (ps_fld (pv 0) (by exact pe_dc (own := [("row", 3), ("around", 4)]) (g := gTup K 2 (gCons (gName 3) (gCons (gName 4) gNil))) (tt := tB (tCall (spRB K Rw.isQ) [] E0 (tCons (tVar 3) tNil))) (tk := tFld K (tVar 3) "name") (tv := tVar 3) (by rfl) sc_Form.nd (pi_list (pv 2)) (blkOk_by (own := [("row", 3), ("around", 4)]) (N := ["self", "rows", "laid", "row", "around"]) (sc := defScope s_Form_init) (by decide +kernel)) (fun _ _ _ _ _ => pg_tup (by rfl) (pgs_cons (pg_name (i := 3) sc_Form.nd rfl (Or.inl rfl)) (pgs_cons (pg_name (i := 4) sc_Form.nd rfl (Or.inl rfl)) pgs_nil))) (fun _ _ _ _ _ => pts_one (pt_val (pe_f (ok_is_question T) (hr.mono (by omega)) T.g_is_question (pa_cons (pv 3) pa_nil)))) (fun _ _ _ _ _ => pe_fld (pv 3) rfl) (fun _ _ _ _ _ => pv 3)) rfl)
    (pss_one (ps_fld (pv 0) (by exact pe_dc (own := [("row", 3), ("around", 4)]) (g := gTup K 2 (gCons (gName 3) (gCons (gName 4) gNil))) (tt := tAnd (tB (tCall (spRB K Rw.isQ) [] E0 (tCons (tVar 3) tNil))) (tB (tNotN (tVar 4)))) (tk := tFld K (tVar 3) "name") (tv := tC (.bl true)) (by rfl) sc_Form.nd (pi_list (pv 2)) (blkOk_by (own := [("row", 3), ("around", 4)]) (N := ["self", "rows", "laid", "row", "around"]) (sc := defScope s_Form_init) (by decide +kernel)) (fun _ _ _ _ _ => pg_tup (by rfl) (pgs_cons (pg_name (i := 3) sc_Form.nd rfl (Or.inl rfl)) (pgs_cons (pg_name (i := 4) sc_Form.nd rfl (Or.inl rfl)) pgs_nil))) (fun _ _ _ _ _ => pts_one (pw_and (pt_val (pe_f (ok_is_question T) (hr.mono (by omega)) T.g_is_question (pa_cons (pv 3) pa_nil))) (pw_and1 (pt_cmp (pc_notN (pv 4))))).pt) (fun _ _ _ _ _ => pe_fld (pv 3) rfl) (fun _ _ _ _ _ => pe_bl)) rfl))))))), ?_⟩
  have lenF : (Rws.flat rs none 0).length = Rws.cnt rs := Rws.flat_len rs none 0
  walk_at "go"
  have hl0 : SqL K H l xs ∨ SqT K H l xs := hl.imp e0.seq e0.sqt
  refine w_tuple rfl hl0 fun t H1 e1 ht => ?_
  refine ⟨_, rfl, x, _, dx, _, rfl, e1 _ _ hx, T.cl_Form, T.n_Form_rows, (by show 0 < 1000; decide), ?_⟩
  have e2 : Same B (upd H1 x (.ins (He.ga K "Form") dx [("rows", .ref t)])) := (e0.trans e1).mut hBx
  have ht2 : SqT K (upd H1 x (.ins (He.ga K "Form") dx [("rows", .ref t)])) t xs := SqT.far (e1 _ _ hx) ht
  have hx2 : (upd H1 x (.ins (He.ga K "Form") dx [("rows", .ref t)])) x = some (.ins (He.ga K "Form") dx [("rows", .ref t)]) := upd_same
  show tSeq _ _ _ _ (upd H1 x (.ins (He.ga K "Form") dx [("rows", .ref t)]))
  generalize upd H1 x (.ins (He.ga K "Form") dx [("rows", .ref t)]) = H2 at e2 ht2 hx2
  walk_at "go"
  refine ⟨Nat.zero_le _, fun p hp => ?_⟩
  walk_at "go"
  have s3 : Same H2 (upd H2 p (.lst [])) := Same.new hp _
  refine ⟨x, _, dx, _, _, rfl, s3 _ _ hx2, T.cl_Form, T.n_Form_rows, rfl, ?_⟩
  walk_at "go"
  have hBp : B p = none := e2.free hp
  refine ⟨t, p, none, xs, [], rs, rfl, s3.sqt ht2, hxs.same (e2.trans s3), hdep, upd_same, ?_, fun H3 zs b3 h3 la => ?_⟩
  · show 0 + Rws.cnt rs ≤ 1000
    omega
  have e3 : Same B H3 := K3.Same.but2 (e2.trans s3) b3 hBp
  have npx : x ≠ p := fun z => by rw [z, hp] at hx2; cases hx2
  have hx3 : H3 x = some (.ins (He.ga K "Form") dx [("rows", .ref t)]) := b3 _ _ npx (s3 _ _ hx2)
  have ht3 : SqT K H3 t xs := (b3.si upd_same).sqt (s3.sqt ht2)
  have h3 : H3 p = some (.lst zs) := h3
  have la : LA K H3 zs (Rws.flat rs none 0) := la
  have lz : zs.length = Rws.cnt rs := by rw [la.length, lenF]
  walk_at "go"
  refine ⟨p, zs, rfl, .inl (SqL.of h3), ?_⟩
  walk_at "go"
  rw [lz]
  have bad : ¬ (1 ≤ Rws.cnt rs ∧ Rws.cnt rs ≤ 40) → gErr2 K "BadCount" "what" "count" (.str "rows") (.int (Rws.cnt rs : Int)) H3 fun cls d H' => E cls d H' := fun c => by
    have ef : formF rs = some (.count "rows" (Rws.cnt rs)) := if_neg c
    unfold FormEnd at q
    rw [ef] at q
    exact gErr2_of fun dd H4 e4 h4 => q _ _ H4 (e3.trans e4) ⟨rfl, dd, rfl, h4⟩
  by_cases c1 : (1 : Int) ≤ (Rws.cnt rs : Int)
  · rw [decide_eq_true c1]
    walk_at "go"
    by_cases c2 : (Rws.cnt rs : Int) ≤ 40
    · rw [decide_eq_true c2]
      walk_at "go"
      have ef : formF rs = ckRows [] (Rws.flat rs none 0) := if_pos ⟨by omega, by omega⟩
      refine ⟨p, zs, _, rfl, h3, la, hB, by rw [lenF]; omega, ?_⟩
      unfold FormEnd at q
      rw [ef] at q
      cases hck : ckRows [] (Rws.flat rs none 0) with
      | some f =>
        rw [hck] at q
        exact fun cls d H' e4 hf => q cls d H' (e3.trans e4) hf
      | none =>
        rw [hck] at q
        intro H4 e4
        have h4 := e4 _ _ h3
        have la4 := LA.si e4.si la
        walk_at "go"
        refine ⟨_, rfl, p, rfl, ⟨_, SqL.of h4⟩, fun d hd => ?_⟩
        refine dc_any (walk_list (K := K) (a := p) (xs := zs)) (fun (i : Nat) H' => Same H4 H' ∧ ∃ kvs, H' d = some (.dK kvs) ∧ kvs.length ≤ i ∧ Paired (QE K H') kvs (qsOf ((Rws.flat rs none 0).take i))) ⟨Same.new hd _, [], upd_same, Nat.le_refl _, .nil⟩ (fun i H' _ z => SqL.of (z.1 _ _ h4)) ?_ ?_
        · rintro i v _ H5 hi ⟨e5, kvs, hk, hki, hp5⟩ ⟨rfl, hv⟩
          obtain ⟨⟨r, ar⟩, hc1, u, y, rfl, hu, hy⟩ := K3.Paired.get la4 hv
          refine ⟨u, _, rfl, SqT.of (e5 _ _ hu), rfl, _, _, rfl, ?_⟩
          walk_at "go"
          refine ⟨_, _, rfl, ?_⟩
          walk_at "go"
          refine ⟨rfl, rfl, ?_⟩
          walk_at "go"
          have hy5 : RO K H5 y r := RO.same e5 hy
          refine ⟨y, r, rfl, hy5, fun H6 e6 => ?_⟩
          have tkq : qsOf ((Rws.flat rs none 0).take (i + 1)) = qsOf ((Rws.flat rs none 0).take i) ++ (if r.isQ then [r] else []) := by
            rw [List.take_add_one, hc1]
            unfold qsOf
            rw [List.filterMap_append]
            congr 1
            cases hr : r.isQ <;> simp [hr]
          have hy6 := RO.same e6 hy5
          have hp6 : Paired (QE K H6) kvs (qsOf ((Rws.flat rs none 0).take i)) := L2.Paired.mapP hp5 fun _ _ z => ⟨z.1, RO.same e6 z.2⟩
          cases hq : r.isQ with
          | false =>
            rw [hq] at tkq
            walk_at "go"
            refine ⟨e5.trans e6, kvs, e6 _ _ hk, by omega, ?_⟩
            rw [tkq, if_neg Bool.false_ne_true, List.append_nil]
            exact hp6
          | true =>
            rw [hq] at tkq
            obtain ⟨a, dx2, fs, rfl, hia, hcl, hna, hlk⟩ := ro_name T hy6 (isQ_isN hq)
            walk_at "go"
            refine ⟨a, _, dx2, fs, _, rfl, hia, hcl, hna, hlk, ?_⟩
            walk_at "go"
            have hk6 := e6 _ _ hk
            refine ⟨kvs, Sum.inr r.name, rfl, hk6, Nat.lt_of_le_of_lt (show kvs.length ≤ 1000 by omega) (by decide), ?_⟩
            have hnew : valV kvs (Sum.inr r.name) = none := by
              refine val_qe hp6 fun r' hr' => ?_
              obtain ⟨e, he, hn'⟩ := qs_al hr'
              have := look_all (ck_drop hck hc1 (isQ_isN hq)) e (by rw [List.nil_append]; exact he)
              rw [← hn']
              exact this
            have hput : putK kvs (Sum.inr r.name) (.ref a) = kvs ++ [(Sum.inr r.name, .ref a)] := by
              unfold putK
              rw [valV_any, hnew, if_neg (by decide)]
            rw [hput]
            have si := SI.upd hk6 rfl (.dK (kvs ++ [(Sum.inr r.name, V.ref a)]))
            refine ⟨(e5.trans e6).mut hd, _, upd_same, by rw [List.length_append]; exact Nat.succ_le_succ hki, ?_⟩
            rw [tkq, if_pos rfl]
            exact K3.Paired.app (L2.Paired.mapP hp6 fun _ _ z => ⟨z.1, RO.si si z.2⟩) (.cons ⟨rfl, RO.si si hy6⟩ .nil)
        · rintro H5 ⟨e5, kvs, hk, hki, hp5⟩
          rw [lz, ← lenF, List.take_length] at hp5
          have e45 := e4.trans e5
          refine ⟨_, rfl, x, _, dx, _, rfl, e45 _ _ hx3, T.cl_Form, T.n_Form_questions, (by show 1 < 1000; decide), ?_⟩
          have ndx : d ≠ x := fun z => by rw [z, e4 _ _ hx3] at hd; cases hd
          have hx5 := e45 _ _ hx3
          have sx : ∀ b o, b ≠ x → H5 b = some o → (upd H5 x (.ins (He.ga K "Form") dx [("rows", .ref t), ("questions", .ref d)])) b = some o := fun b o hb h => by rw [upd_ne hb]; exact h
          have hx6 : (upd H5 x (.ins (He.ga K "Form") dx [("rows", .ref t), ("questions", .ref d)])) x = some (.ins (He.ga K "Form") dx [("rows", .ref t), ("questions", .ref d)]) := upd_same
          have e6 : Same B (upd H5 x (.ins (He.ga K "Form") dx [("rows", .ref t), ("questions", .ref d)])) := (e3.trans e45).mut hBx
          have ht6 : SqT K (upd H5 x (.ins (He.ga K "Form") dx [("rows", .ref t), ("questions", .ref d)])) t xs := SqT.far (e45 _ _ hx3) (e45.sqt ht3)
          have hk6 := sx _ _ ndx hk
          have sx2 : SI H5 (upd H5 x (.ins (He.ga K "Form") dx [("rows", .ref t), ("questions", .ref d)])) := SI.upd (e45 _ _ hx3) rfl _
          have hp6 : Paired (QE K (upd H5 x (.ins (He.ga K "Form") dx [("rows", .ref t), ("questions", .ref d)]))) kvs (qsOf (Rws.flat rs none 0)) := L2.Paired.mapP hp5 fun _ _ z => ⟨z.1, RO.si sx2 z.2⟩
          have h6 := sx _ _ npx.symm (e45 _ _ h3)
          have la6 := LA.si (e45.si.trans sx2) la
          rw [show putF ("questions" : Str) (V.ref d) [(("rows" : Str), V.ref t)] = [(("rows" : Str), V.ref t), (("questions" : Str), V.ref d)] from rfl]
          generalize upd H5 x (.ins (He.ga K "Form") dx [("rows", V.ref t), ("questions", .ref d)]) = H6 at hx6 e6 ht6 hk6 hp6 h6 la6 ⊢
          walk_at "go"
          refine ⟨_, rfl, p, rfl, ⟨_, SqL.of h6⟩, fun d2 hd2 => ?_⟩
          refine dc_any (walk_list (K := K) (a := p) (xs := zs)) (fun (i : Nat) H' => Same H6 H' ∧ ∃ kv2, H' d2 = some (.dK kv2) ∧ kv2.length ≤ i ∧ ∀ z, (valV kv2 (Sum.inr z)).isSome = repB ((Rws.flat rs none 0).take i) z) ⟨Same.new hd2 _, [], upd_same, Nat.le_refl _, fun z => rfl⟩ (fun i H' _ z => SqL.of (z.1 _ _ h6)) ?_ ?_
          · rintro i v _ H7 hi ⟨e7, kv2, hk2, hki2, hz2⟩ ⟨rfl, hv⟩
            obtain ⟨⟨r, ar⟩, hc1, u, y, rfl, hu, hy⟩ := K3.Paired.get la6 hv
            refine ⟨u, _, rfl, SqT.of (e7 _ _ hu), rfl, _, _, rfl, ?_⟩
            walk_at "go"
            refine ⟨_, _, rfl, ?_⟩
            walk_at "go"
            refine ⟨rfl, rfl, ?_⟩
            walk_at "go"
            have hy7 : RO K H7 y r := RO.same e7 hy
            refine ⟨y, r, rfl, hy7, fun H8 e8 => ?_⟩
            have hy8 := RO.same e8 hy7
            cases hq : r.isQ with
            | false =>
              walk_at "go"
              exact ⟨e7.trans e8, kv2, e8 _ _ hk2, by omega, fun z => by rw [hz2 z, rep_take hc1]; simp [hq]⟩
            | true =>
              walk_at "go"
              have no : (!decide (oV ar = V.non)) = ar.isSome := by cases ar <;> rfl
              rw [no]
              cases har : ar.isSome with
              | false =>
                walk_at "go"
                exact ⟨e7.trans e8, kv2, e8 _ _ hk2, by omega, fun z => by rw [hz2 z, rep_take hc1]; simp [har]⟩
              | true =>
                obtain ⟨a, dx2, fs, rfl, hia, hcl, hna, hlk⟩ := ro_name T hy8 (isQ_isN hq)
                walk_at "go"
                refine ⟨a, _, dx2, fs, _, rfl, hia, hcl, hna, hlk, ?_⟩
                walk_at "go"
                have hk8 := e8 _ _ hk2
                refine ⟨kv2, Sum.inr r.name, rfl, hk8, Nat.lt_of_le_of_lt (show kv2.length ≤ 1000 by omega) (by decide), ?_⟩
                refine ⟨(e7.trans e8).mut hd2, _, upd_same, Nat.le_trans (putK_len _ _ _) (Nat.succ_le_succ hki2), fun z => ?_⟩
                rw [putK_some, hz2 z, rep_take hc1]
                simp [hq, har]
          · rintro H7 ⟨e7, kv2, hk2, hki2, hz2⟩
            rw [lz, ← lenF, List.take_length] at hz2
            have nd2 : d2 ≠ x := fun z => by rw [z, hx6] at hd2; cases hd2
            refine ⟨_, rfl, x, _, dx, _, rfl, e7 _ _ hx6, T.cl_Form, T.n_Form_repeated, (by show 2 < 1000; decide), ?_⟩
            have sx7 : SI H7 (upd H7 x (.ins (He.ga K "Form") dx [("rows", .ref t), ("questions", .ref d), ("repeated", .ref d2)])) := SI.upd (e7 _ _ hx6) rfl _
            refine q _ t d d2 kvs kv2 ((e6.trans e7).mut hBx) upd_same (SqT.far (e7 _ _ hx6) (e7.sqt ht6)) (by rw [upd_ne ndx]; exact e7 _ _ hk6) ?_ (by rw [upd_ne nd2]; exact hk2) hz2
            exact L2.Paired.mapP hp6 fun _ _ z => ⟨z.1, RO.si (e7.si.trans sx7) z.2⟩
    · rw [decide_eq_false c2]
      walk_at "go"
      refine w_err2 ?_
      walk_at "go"
      refine ⟨p, zs, rfl, .inl (SqL.of h3), ?_⟩
      rw [lz]
      exact bad (by omega)
  · rw [decide_eq_false c1]
    walk_at "go"
    refine w_err2 ?_
    walk_at "go"
    refine ⟨p, zs, rfl, .inl (SqL.of h3), ?_⟩
    rw [lz]
    exact bad (by omega)
end
end K3
end P13_part
section B1_part
set_option Elab.async false
set_option linter.all false
set_option maxRecDepth 100000
set_option maxHeartbeats 1000000
set_option pp.deepTerms true
open PySem PySem.Spec PyProof.Rows L2
/-- go on as far as nothing is open -/
local macro_rules | `(tactic| walk_at "go") => `(tactic| repeat (first
  | with_reducible refine w_seq ?_ | with_reducible refine w_next ?_ | with_reducible refine w_set ?_ | with_reducible refine w_drop ?_ | with_reducible refine w_ret ?_ | with_reducible refine w_retN ?_
  | with_reducible refine w_if ?_ | ((with_reducible refine' w_var ?hv ?_); (case hv => exact rfl)) | with_reducible refine w_c ?_ | with_reducible refine w_nil ?_ | with_reducible refine w_cons ?_ | with_reducible refine w_op ?_ | with_reducible refine w_un ?_
  | with_reducible refine w_test ?_ | with_reducible refine w_tB ?_ | with_reducible refine w_not ?_ | with_reducible refine w_and ?_ | with_reducible refine w_or ?_ | with_reducible refine w_bl ?_
  | with_reducible refine w_andV ?_ | with_reducible refine w_orV ?_ | with_reducible refine w_notV ?_ | with_reducible refine w_ifE ?_ | with_reducible refine w_chain ?_ | with_reducible refine w_i0 ?_
  | with_reducible refine w_call ?_ | with_reducible refine w_callS ?_ | with_reducible refine w_cB ?_ | with_reducible refine w_tup ?_ | with_reducible refine w_lst ?_ | with_reducible refine w_fldV ?_
  | with_reducible refine w_neF ?_ | with_reducible refine w_neT ?_ | with_reducible refine w_notN ?_ | with_reducible refine w_isN ?_ | with_reducible refine w_gname ?_ | with_reducible refine w_gsub ?_ | with_reducible refine w_asg ?_ | with_reducible refine w_sl ?_ | with_reducible refine w_noP ?_ | with_reducible refine w_int1 ?_ | with_reducible refine w_part ?_ | with_reducible refine w_yes ?_ | with_reducible refine w_nT ?_ | with_reducible refine w_nF ?_ | with_reducible refine w_iteT ?_ | with_reducible refine w_iteF ?_))
namespace L2
open PySem PySem.Spec PyProof.Rows
/-! ### comprehensions into any accumulator: what an element's turn does with it is left open -/
end L2
namespace L2
open PySem PySem.Spec PyProof.Rows
end L2
end B1_part
section B2_part
set_option Elab.async false
set_option linter.all false
set_option maxRecDepth 100000
set_option maxHeartbeats 1000000
set_option pp.deepTerms true
open PySem PySem.Spec PyProof.Rows L2
/-- go on as far as nothing is open -/
local macro_rules | `(tactic| walk_at "go") => `(tactic| repeat (first
  | with_reducible refine w_seq ?_ | with_reducible refine w_next ?_ | with_reducible refine w_set ?_ | with_reducible refine w_drop ?_ | with_reducible refine w_ret ?_ | with_reducible refine w_retN ?_
  | with_reducible refine w_if ?_ | ((with_reducible refine' w_var ?hv ?_); (case hv => exact rfl)) | with_reducible refine w_c ?_ | with_reducible refine w_nil ?_ | with_reducible refine w_cons ?_ | with_reducible refine w_op ?_ | with_reducible refine w_un ?_
  | with_reducible refine w_test ?_ | with_reducible refine w_tB ?_ | with_reducible refine w_not ?_ | with_reducible refine w_and ?_ | with_reducible refine w_or ?_ | with_reducible refine w_bl ?_
  | with_reducible refine w_andV ?_ | with_reducible refine w_orV ?_ | with_reducible refine w_notV ?_ | with_reducible refine w_ifE ?_ | with_reducible refine w_chain ?_ | with_reducible refine w_i0 ?_
  | with_reducible refine w_call ?_ | with_reducible refine w_callS ?_ | with_reducible refine w_cB ?_ | with_reducible refine w_tup ?_ | with_reducible refine w_lst ?_ | with_reducible refine w_fldV ?_
  | with_reducible refine w_neF ?_ | with_reducible refine w_neT ?_ | with_reducible refine w_notN ?_ | with_reducible refine w_isN ?_ | with_reducible refine w_gname ?_ | with_reducible refine w_gsub ?_ | with_reducible refine w_asg ?_ | with_reducible refine w_sl ?_ | with_reducible refine w_noP ?_ | with_reducible refine w_int1 ?_ | with_reducible refine w_part ?_ | with_reducible refine w_yes ?_ | with_reducible refine w_nT ?_ | with_reducible refine w_nF ?_ | with_reducible refine w_iteT ?_ | with_reducible refine w_iteF ?_))
namespace L2
open PySem PySem.Spec PyProof.Rows
/-! ### == and != of two dicts whose keys are objects -/
section
variable {prog : Program} {w : World} {K : Type} [DecidableEq K] {knd : HeapKind prog w K} {A : Around} {E : Value → Shared → Prop} {s : Shared} {a b : Addr} {xs ys : List (K × Addr × Value)} {e : K → Bool}
/-- what is found at an entry's key, and what comparing it gives -/
def chkH (ys : List (K × Addr × Value)) (e : K → Bool) (x : K × Addr × Value) : Bool := (atKey ys x.1).isSome && e x.1
theorem same_heap {nm : String} {Q : Bool → Shared → Prop} (hu : knd.room A) (ha : (a == sysModules) = false) (hb : (b == sysModules) = false) (da : s.heap.DictOfH knd a xs) (db : s.heap.DictOfH knd b ys)
    (he : ∀ x ∈ xs, ∀ p, atKey ys x.1 = some p → SeqAt.EqAt A s x.2.2 p.2 (e x.1)) (h : Q (xs.length == ys.length && xs.all (chkH ys e)) s) :
    wpAny (model prog w) A (Builtin.Dict.samePairs nm a b) Q E s := by
  obtain ⟨oa, es, ep, hoa, _, hda, hea, hia, hna⟩ := da
  obtain ⟨ob, fs, fp, hob, _, hdb, heb, hib, hnb⟩ := db
  have la : es.size = xs.length := size_of_entries hea
  have lb : fs.size = ys.length := size_of_entries heb
  unfold Builtin.Dict.samePairs Builtin.Dict.showsAll
  rw [if_neg (by rw [ha]; exact Bool.false_ne_true), if_neg (by rw [hb]; exact Bool.false_ne_true)]
  refine wpAny_bind (wpAny_pure (wpAny_bind (wpAny_pure (wpAny_bind (wpAny_dictEntries hoa hda ?_)))))
  dsimp only
  refine wpAny_bind (wpAny_dictEntries hob hdb ?_)
  by_cases sz : es.size = fs.size
  case neg =>
    rw [if_pos (by simpa using sz)]
    have : (xs.length == ys.length) = false := by rw [← la, ← lb]; simpa using sz
    rw [this, Bool.false_and] at h
    exact wpAny_bind (wpAny_rule (wpAny_pure h))
  case pos =>
    have h' : Q (xs.all (chkH ys e)) s := by
      have : (xs.length == ys.length) = true := by rw [← la, ← lb]; simpa using sz
      rw [this, Bool.true_and] at h
      exact h
    rw [if_neg (by rw [sz]; simp)]
    refine wpAny_bind (wpAny_dictEpoch hoa hda ?_)
    refine wpAny_bind ?_
    rw [Std.Legacy.Range.forIn_eq_forIn_range']
    simp only [Std.Legacy.Range.size, Nat.sub_zero, Nat.add_sub_cancel, Nat.div_one]
    refine wpAny_forIn_list _ (fun rest q s' => s' = s ∧ q = (none, ()) ∧ ∃ i, rest = List.range' i (es.size - i) ∧ i ≤ es.size ∧ xs.all (chkH ys e) = (xs.drop i).all (chkH ys e)) _ ?_ ?_ _ _ ⟨rfl, rfl, 0, by simp, Nat.zero_le _, by simp⟩
    · rintro x rest q s' ⟨rfl, rfl, i, hr, hi, all⟩
      have lt : i < es.size := by
        rcases Nat.lt_or_ge i es.size with z | z
        · exact z
        · rw [Nat.sub_eq_zero_of_le z] at hr; simp at hr
      obtain ⟨rfl, hrest⟩ : x = i ∧ rest = List.range' (i + 1) (es.size - (i + 1)) := by
        rw [show es.size - i = (es.size - (i + 1)) + 1 by omega, List.range'_succ] at hr
        injection hr with h1 h2
        exact ⟨h1, h2⟩
      have ltx : x < xs.length := by omega
      obtain ⟨⟨k, c, v⟩, hx⟩ : ∃ t, xs[x]? = some t := ⟨_, List.getElem?_eq_getElem ltx⟩
      have hmem := List.mem_of_getElem? hx
      have hdrop : xs.drop x = (k, c, v) :: xs.drop (x + 1) := by
        rw [List.drop_eq_getElem_cons ltx]
        congr 1
        exact (List.getElem?_eq_some_iff.mp hx).2
      have hex : es[x]? = some ⟨knd.hash k, .ref c, v⟩ := by rw [entry_at hea x, hx]; rfl
      have hk : knd.is s'.heap k c := hia _ hmem
      refine wpAny_bind (wpAny_dictEntries hoa hda ?_)
      rw [hex]
      show wpAny _ _ (holding [Value.ref c, v] _ >>= _) _ _ _
      refine wpAny_bind (wpAny_holding (wpAny_bind (wpAny_dictFind_heap hu hk hob hdb heb hib hnb (fun hno => ?_) fun j p hj => ?_)))
      · have ck : chkH ys e (k, c, v) = false := by unfold chkH; rw [atKey_none_of_get hno]; rfl
        rw [all, hdrop, List.all_cons, ck, Bool.false_and] at h'
        refine wpAny_pure ?_
        show wpAny _ _ (if (!false) = true then _ else _) _ _ _
        rw [if_pos (by decide)]
        exact wpAny_pure (wpAny_pure h')
      · have hat := atKey_of_get hnb hj
        refine wpAny_bind (wpAny_dictEntries hob hdb ?_)
        rw [entry_at heb j, hj]
        refine wpAny_holding (he (k, c, v) hmem p hat prog w _ _ ?_)
        have ck : chkH ys e (k, c, v) = e k := by unfold chkH; rw [hat]; rfl
        cases hek : e k with
        | false =>
          rw [all, hdrop, List.all_cons, ck, hek, Bool.false_and] at h'
          show wpAny _ _ (if (!false) = true then _ else _) _ _ _
          rw [if_pos (by decide)]
          exact wpAny_pure (wpAny_pure h')
        | true =>
          show wpAny _ _ (if (!true) = true then _ else _) _ _ _
          rw [if_neg (by decide)]
          refine wpAny_bind (wpAny_dictEpoch hoa hda ?_)
          rw [if_neg (by simp)]
          refine wpAny_pure ⟨rfl, rfl, x + 1, hrest, lt, ?_⟩
          rw [all, hdrop, List.all_cons, ck, hek, Bool.true_and]
    · rintro q s' ⟨rfl, rfl, i, hr, hi, all⟩
      have hin : i = es.size := by
        rcases Nat.lt_or_ge i es.size with z | z
        · rw [show es.size - i = (es.size - (i + 1)) + 1 by omega, List.range'_succ] at hr
          exact nomatch hr
        · exact Nat.le_antisymm hi z
      refine wpAny_pure ?_
      rw [all, hin, la, List.drop_length] at h'
      exact h'
theorem eq_heap {Q : Value → Shared → Prop} (hu : knd.room A.in1) (hu0 : A.units < cLine) (ha : (a == sysModules) = false) (hb : (b == sysModules) = false) (da : s.heap.DictOfH knd a xs) (db : s.heap.DictOfH knd b ys)
    (he : ∀ x ∈ xs, ∀ p, atKey ys x.1 = some p → SeqAt.EqAt A.in1 s x.2.2 p.2 (e x.1)) (h : Q (.bool (xs.length == ys.length && xs.all (chkH ys e))) s) : wpAny (model prog w) A (compareOp .Eq (.ref a) (.ref b)) Q E s := by
  refine wpAny_richCompare_same_room (op := .Eq) da.typeIs db.typeIs PySem.F.slot_dict_eq (wpAny_call_entry PySem.F.slot_dict_eq da.typeIs PySem.F.entry_dict_eq ?_ (PySem.F.args_dict_eq_2 _ _)) hu0
  refine (show wpAny _ _ (Builtin.Dict.dictSlotArgs "__eq__" ⟨[.ref a, .ref b], []⟩ >>= _) _ _ s from wpAny_bind ?_)
  unfold Builtin.Dict.dictSlotArgs
  refine wpAny_bind (wpAny_notOrdered_dict da.typeIs ?_)
  refine (show wpAny _ _ (pure (Value.ref a, Value.ref b)) _ _ s from wpAny_pure (wpAny_bind (wpAny_isInstance (T := "dict") db.typeIs PySem.F.sub_dict_dict ?_)))
  simp only [Bool.not_true, Bool.false_eq_true, if_false]
  exact wpAny_bind (wpAny_pure (wpAny_bind (wpAny_pure (wpAny_bind (same_heap hu ha hb da db he (wpAny_pure ⟨_, rfl, (fun x => nomatch x), by simpa using h⟩))))))
end
/-- a dict's pairs, told as data -/
def KD (K : PySem.W.Frag) (H : Hp) : List (List Key × V) → List (List Key × PyData) → Prop := Paired fun kv x => kv.1 = x.1 ∧ Dp K H kv.2 x.2 ∧ SeqAt.shaped x.2 = true
def lookD (ys : List (List Key × PyData)) (k : List Key) : Option PyData := (ys.find? fun y => decide (y.1 = k)).map (·.2)
def dSame (xs ys : List (List Key × PyData)) : Bool := xs.length == ys.length && xs.all fun x => match lookD ys x.1 with
  | some d => PyData.eqv x.2 d
  | none => false
section
variable {X : Cx} {pins : List (Addr × Obj)} {σ : St} {H : Hp} {s : Shared}
/-- both told of one entry -/
structure EntAt (X : Cx) (s : Shared) (x : List Key × Addr × Value) (y : List Key × PyData) : Prop where
  key : x.1 = y.1
  rd : ∃ as, Reads s.heap x.2.2 y.2 as
  sh : SeqAt.shaped y.2 = true
theorem ents_at (I : Inv X pins σ H s) : ∀ {kvs : List (List Key × V)} {xs : List (List Key × Addr × Value)} {ys : List (List Key × PyData)}, KT H kvs xs → KD X.K H kvs ys → Paired (EntAt X s) xs ys
  | _, _, _, .nil, .nil => .nil
  | _, _, _, .cons h t, .cons g u => .cons ⟨h.1.symm.trans g.1, Dp.reads I _ _ _ g.2.1 h.2.2, g.2.2⟩ (ents_at I t u)
theorem ents_look {xs : List (List Key × Addr × Value)} {ys : List (List Key × PyData)} (h : Paired (EntAt X s) xs ys) (k : List Key) :
    (atKey xs k = none ∧ lookD ys k = none) ∨ ∃ p d, atKey xs k = some p ∧ lookD ys k = some d ∧ (∃ as, Reads s.heap p.2 d as) ∧ SeqAt.shaped d = true := by
  induction h with
  | nil => exact .inl ⟨rfl, rfl⟩
  | @cons x y xs ys h t ih =>
    by_cases e : y.1 = k
    · have e' : x.1 = k := h.key.trans e
      exact .inr ⟨x.2, y.2, by simp [atKey, List.find?_cons, e'], by simp [lookD, List.find?_cons, e], h.rd, h.sh⟩
    · have e' : ¬ x.1 = k := fun z => e (h.key.symm.trans z)
      have a1 : atKey (x :: xs) k = atKey xs k := by simp [atKey, List.find?_cons, e']
      have a2 : lookD (y :: ys) k = lookD ys k := by simp [lookD, List.find?_cons, e]
      rw [a1, a2]
      exact ih
theorem lookD_mem : ∀ {ys : List (List Key × PyData)}, (ys.map (·.1)).Nodup → ∀ {y : List Key × PyData}, y ∈ ys → lookD ys y.1 = some y.2
  | z :: ys, nd, y, h => by
    rw [List.map_cons, List.nodup_cons] at nd
    unfold lookD
    rw [List.find?_cons]
    rcases List.mem_cons.mp h with rfl | h
    · simp
    · have ne : ¬ z.1 = y.1 := fun q => nd.1 (q ▸ List.mem_map_of_mem h)
      rw [decide_eq_false ne]
      exact lookD_mem nd.2 h
theorem ents_keys {xs : List (List Key × Addr × Value)} {ys : List (List Key × PyData)} (h : Paired (EntAt X s) xs ys) : xs.map (·.1) = ys.map (·.1) := by
  induction h with
  | nil => rfl
  | cons h _ ih => rw [List.map_cons, List.map_cons, ih, h.key]
end
end L2
end B2_part
section B3_part
set_option Elab.async false
set_option linter.all false
set_option maxRecDepth 100000
set_option maxHeartbeats 1000000
set_option pp.deepTerms true
open PySem PySem.Spec PyProof.Rows L2
/-- go on as far as nothing is open -/
local macro_rules | `(tactic| walk_at "go") => `(tactic| repeat (first
  | with_reducible refine w_seq ?_ | with_reducible refine w_next ?_ | with_reducible refine w_set ?_ | with_reducible refine w_drop ?_ | with_reducible refine w_ret ?_ | with_reducible refine w_retN ?_
  | with_reducible refine w_if ?_ | ((with_reducible refine' w_var ?hv ?_); (case hv => exact rfl)) | with_reducible refine w_c ?_ | with_reducible refine w_nil ?_ | with_reducible refine w_cons ?_ | with_reducible refine w_op ?_ | with_reducible refine w_un ?_
  | with_reducible refine w_test ?_ | with_reducible refine w_tB ?_ | with_reducible refine w_not ?_ | with_reducible refine w_and ?_ | with_reducible refine w_or ?_ | with_reducible refine w_bl ?_
  | with_reducible refine w_andV ?_ | with_reducible refine w_orV ?_ | with_reducible refine w_notV ?_ | with_reducible refine w_ifE ?_ | with_reducible refine w_chain ?_ | with_reducible refine w_i0 ?_
  | with_reducible refine w_call ?_ | with_reducible refine w_callS ?_ | with_reducible refine w_cB ?_ | with_reducible refine w_tup ?_ | with_reducible refine w_lst ?_ | with_reducible refine w_fldV ?_
  | with_reducible refine w_neF ?_ | with_reducible refine w_neT ?_ | with_reducible refine w_notN ?_ | with_reducible refine w_isN ?_ | with_reducible refine w_gname ?_ | with_reducible refine w_gsub ?_ | with_reducible refine w_asg ?_ | with_reducible refine w_sl ?_ | with_reducible refine w_noP ?_ | with_reducible refine w_int1 ?_ | with_reducible refine w_part ?_ | with_reducible refine w_yes ?_ | with_reducible refine w_nT ?_ | with_reducible refine w_nF ?_ | with_reducible refine w_iteT ?_ | with_reducible refine w_iteF ?_))
namespace L2
open PySem PySem.Spec PyProof.Rows
/-! ### dict(xs) of pairs whose keys are tuples -/
end L2
end B3_part
section B4_part
set_option Elab.async false
set_option linter.all false
set_option maxRecDepth 100000
set_option maxHeartbeats 1000000
set_option pp.deepTerms true
open PySem PySem.Spec PyProof.Rows L2
/-- go on as far as nothing is open -/
local macro_rules | `(tactic| walk_at "go") => `(tactic| repeat (first
  | with_reducible refine w_seq ?_ | with_reducible refine w_next ?_ | with_reducible refine w_set ?_ | with_reducible refine w_drop ?_ | with_reducible refine w_ret ?_ | with_reducible refine w_retN ?_
  | with_reducible refine w_if ?_ | ((with_reducible refine' w_var ?hv ?_); (case hv => exact rfl)) | with_reducible refine w_c ?_ | with_reducible refine w_nil ?_ | with_reducible refine w_cons ?_ | with_reducible refine w_op ?_ | with_reducible refine w_un ?_
  | with_reducible refine w_test ?_ | with_reducible refine w_tB ?_ | with_reducible refine w_not ?_ | with_reducible refine w_and ?_ | with_reducible refine w_or ?_ | with_reducible refine w_bl ?_
  | with_reducible refine w_andV ?_ | with_reducible refine w_orV ?_ | with_reducible refine w_notV ?_ | with_reducible refine w_ifE ?_ | with_reducible refine w_chain ?_ | with_reducible refine w_i0 ?_
  | with_reducible refine w_call ?_ | with_reducible refine w_callS ?_ | with_reducible refine w_cB ?_ | with_reducible refine w_tup ?_ | with_reducible refine w_lst ?_ | with_reducible refine w_fldV ?_
  | with_reducible refine w_neF ?_ | with_reducible refine w_neT ?_ | with_reducible refine w_notN ?_ | with_reducible refine w_isN ?_ | with_reducible refine w_gname ?_ | with_reducible refine w_gsub ?_ | with_reducible refine w_asg ?_ | with_reducible refine w_sl ?_ | with_reducible refine w_noP ?_ | with_reducible refine w_int1 ?_ | with_reducible refine w_part ?_ | with_reducible refine w_yes ?_ | with_reducible refine w_nT ?_ | with_reducible refine w_nF ?_ | with_reducible refine w_iteT ?_ | with_reducible refine w_iteF ?_))
namespace L2
open PySem PySem.Spec PyProof.Rows
end L2
end B4_part
section B5_part
set_option Elab.async false
set_option linter.all false
set_option maxRecDepth 100000
set_option maxHeartbeats 1000000
set_option pp.deepTerms true
open PySem PySem.Spec PyProof.Rows L2
/-- go on as far as nothing is open -/
local macro_rules | `(tactic| walk_at "go") => `(tactic| repeat (first
  | with_reducible refine w_seq ?_ | with_reducible refine w_next ?_ | with_reducible refine w_set ?_ | with_reducible refine w_drop ?_ | with_reducible refine w_ret ?_ | with_reducible refine w_retN ?_
  | with_reducible refine w_if ?_ | ((with_reducible refine' w_var ?hv ?_); (case hv => exact rfl)) | with_reducible refine w_c ?_ | with_reducible refine w_nil ?_ | with_reducible refine w_cons ?_ | with_reducible refine w_op ?_ | with_reducible refine w_un ?_
  | with_reducible refine w_test ?_ | with_reducible refine w_tB ?_ | with_reducible refine w_not ?_ | with_reducible refine w_and ?_ | with_reducible refine w_or ?_ | with_reducible refine w_bl ?_
  | with_reducible refine w_andV ?_ | with_reducible refine w_orV ?_ | with_reducible refine w_notV ?_ | with_reducible refine w_ifE ?_ | with_reducible refine w_chain ?_ | with_reducible refine w_i0 ?_
  | with_reducible refine w_call ?_ | with_reducible refine w_callS ?_ | with_reducible refine w_cB ?_ | with_reducible refine w_tup ?_ | with_reducible refine w_lst ?_ | with_reducible refine w_fldV ?_
  | with_reducible refine w_neF ?_ | with_reducible refine w_neT ?_ | with_reducible refine w_notN ?_ | with_reducible refine w_isN ?_ | with_reducible refine w_gname ?_ | with_reducible refine w_gsub ?_ | with_reducible refine w_asg ?_ | with_reducible refine w_sl ?_ | with_reducible refine w_noP ?_ | with_reducible refine w_int1 ?_ | with_reducible refine w_part ?_ | with_reducible refine w_yes ?_ | with_reducible refine w_nT ?_ | with_reducible refine w_nF ?_ | with_reducible refine w_iteT ?_ | with_reducible refine w_iteF ?_))
namespace LZ
open PySem PySem.Spec PyProof.Rows L2
/-! ### list(zip(a, b)) of two lists of one length: new tuples in a new list -/
abbrev ZipB (h : Heap) (z TI TO T : Addr) (f : Bool) : Prop :=
  h.get? z = some { cls := .type "zip", dict := none, data := .fields #[rawInt T, .bool f, .bool false, .ref TI, .ref TO], slots := #[] }
section
variable {prog : Program} {w : World} {A : Around} {E : Value → Shared → Prop} {s : Shared} {z TI TO i1 i2 l1 l2 T : Addr} {xs ys : Array Value}
/-- where the zip stands -/
def ZSt (h : Heap) (z TI TO i1 i2 S : Addr) (l1 l2 : Addr) (k : Nat) : Prop := IsPair h TI (.ref i1) (.ref i2) ∧ h.IsListIter i1 l1 k ∧ h.IsListIter i2 l2 k ∧
  ((k = 0 ∧ IsZip h z TI TO .none ∧ ∃ a b, IsPair h TO a b) ∨ ∃ T f, ZipB h z TI TO T f ∧ (∃ o, h.get? T = some o) ∧ S < T)
theorem ZSt.keep {h h' : Heap} {S : Addr} {k : Nat} (x : ZSt h z TI TO i1 i2 S l1 l2 k) (hk : ∀ b o, b ≠ S → h.get? b = some o → h'.get? b = some o) (n1 : z < S) (n2 : TI < S) (n3 : TO < S) (n4 : i1 < S) (n5 : i2 < S) : ZSt h' z TI TO i1 i2 S l1 l2 k := by
  obtain ⟨a, b, c, d⟩ := x
  refine ⟨hk _ _ (Nat.ne_of_lt n2) a, b.at fun o e => hk _ _ (Nat.ne_of_lt n4) e, c.at fun o e => hk _ _ (Nat.ne_of_lt n5) e, ?_⟩
  rcases d with ⟨e, d1, _, _, d2⟩ | ⟨T, f, d1, ⟨o, d2⟩, d3⟩
  · exact .inl ⟨e, hk _ _ (Nat.ne_of_lt n1) d1, _, _, hk _ _ (Nat.ne_of_lt n3) d2⟩
  · exact .inr ⟨T, f, hk _ _ (Nat.ne_of_lt n1) d1, ⟨o, hk _ _ (Nat.ne_of_gt d3) d2⟩, d3⟩
end
end LZ
end B5_part
section B6_part
set_option Elab.async false
set_option linter.all false
set_option maxRecDepth 100000
set_option maxHeartbeats 1000000
set_option pp.deepTerms true
open PySem PySem.Spec PyProof.Rows L2
/-- go on as far as nothing is open -/
local macro_rules | `(tactic| walk_at "go") => `(tactic| repeat (first
  | with_reducible refine w_seq ?_ | with_reducible refine w_next ?_ | with_reducible refine w_set ?_ | with_reducible refine w_drop ?_ | with_reducible refine w_ret ?_ | with_reducible refine w_retN ?_
  | with_reducible refine w_if ?_ | ((with_reducible refine' w_var ?hv ?_); (case hv => exact rfl)) | with_reducible refine w_c ?_ | with_reducible refine w_nil ?_ | with_reducible refine w_cons ?_ | with_reducible refine w_op ?_ | with_reducible refine w_un ?_
  | with_reducible refine w_test ?_ | with_reducible refine w_tB ?_ | with_reducible refine w_not ?_ | with_reducible refine w_and ?_ | with_reducible refine w_or ?_ | with_reducible refine w_bl ?_
  | with_reducible refine w_andV ?_ | with_reducible refine w_orV ?_ | with_reducible refine w_notV ?_ | with_reducible refine w_ifE ?_ | with_reducible refine w_chain ?_ | with_reducible refine w_i0 ?_
  | with_reducible refine w_call ?_ | with_reducible refine w_callS ?_ | with_reducible refine w_cB ?_ | with_reducible refine w_tup ?_ | with_reducible refine w_lst ?_ | with_reducible refine w_fldV ?_
  | with_reducible refine w_neF ?_ | with_reducible refine w_neT ?_ | with_reducible refine w_notN ?_ | with_reducible refine w_isN ?_ | with_reducible refine w_gname ?_ | with_reducible refine w_gsub ?_ | with_reducible refine w_asg ?_ | with_reducible refine w_sl ?_ | with_reducible refine w_noP ?_ | with_reducible refine w_int1 ?_ | with_reducible refine w_part ?_ | with_reducible refine w_yes ?_ | with_reducible refine w_nT ?_ | with_reducible refine w_nF ?_ | with_reducible refine w_iteT ?_ | with_reducible refine w_iteF ?_))
namespace K3
open PySem PySem.Spec PyProof.Rows L2
end K3
end B6_part
section B7_part
set_option Elab.async false
set_option linter.all false
set_option maxRecDepth 100000
set_option maxHeartbeats 1000000
set_option pp.deepTerms true
open PySem PySem.Spec PyProof.Rows L2
/-- go on as far as nothing is open -/
local macro_rules | `(tactic| walk_at "go") => `(tactic| repeat (first
  | with_reducible refine w_seq ?_ | with_reducible refine w_next ?_ | with_reducible refine w_set ?_ | with_reducible refine w_drop ?_ | with_reducible refine w_ret ?_ | with_reducible refine w_retN ?_
  | with_reducible refine w_if ?_ | ((with_reducible refine' w_var ?hv ?_); (case hv => exact rfl)) | with_reducible refine w_c ?_ | with_reducible refine w_nil ?_ | with_reducible refine w_cons ?_ | with_reducible refine w_op ?_ | with_reducible refine w_un ?_
  | with_reducible refine w_test ?_ | with_reducible refine w_tB ?_ | with_reducible refine w_not ?_ | with_reducible refine w_and ?_ | with_reducible refine w_or ?_ | with_reducible refine w_bl ?_
  | with_reducible refine w_andV ?_ | with_reducible refine w_orV ?_ | with_reducible refine w_notV ?_ | with_reducible refine w_ifE ?_ | with_reducible refine w_chain ?_ | with_reducible refine w_i0 ?_
  | with_reducible refine w_call ?_ | with_reducible refine w_callS ?_ | with_reducible refine w_cB ?_ | with_reducible refine w_tup ?_ | with_reducible refine w_lst ?_ | with_reducible refine w_fldV ?_
  | with_reducible refine w_neF ?_ | with_reducible refine w_neT ?_ | with_reducible refine w_notN ?_ | with_reducible refine w_isN ?_ | with_reducible refine w_gname ?_ | with_reducible refine w_gsub ?_ | with_reducible refine w_asg ?_ | with_reducible refine w_sl ?_ | with_reducible refine w_noP ?_ | with_reducible refine w_int1 ?_ | with_reducible refine w_part ?_ | with_reducible refine w_yes ?_ | with_reducible refine w_nT ?_ | with_reducible refine w_nF ?_ | with_reducible refine w_iteT ?_ | with_reducible refine w_iteF ?_))
/-! ### == by an own __eq__, with either answer -/
end B7_part
section B8_part
set_option Elab.async false
set_option linter.all false
set_option maxRecDepth 100000
set_option maxHeartbeats 1000000
set_option pp.deepTerms true
open PySem PySem.Spec PyProof.Rows L2
/-- go on as far as nothing is open -/
local macro_rules | `(tactic| walk_at "go") => `(tactic| repeat (first
  | with_reducible refine w_seq ?_ | with_reducible refine w_next ?_ | with_reducible refine w_set ?_ | with_reducible refine w_drop ?_ | with_reducible refine w_ret ?_ | with_reducible refine w_retN ?_
  | with_reducible refine w_if ?_ | ((with_reducible refine' w_var ?hv ?_); (case hv => exact rfl)) | with_reducible refine w_c ?_ | with_reducible refine w_nil ?_ | with_reducible refine w_cons ?_ | with_reducible refine w_op ?_ | with_reducible refine w_un ?_
  | with_reducible refine w_test ?_ | with_reducible refine w_tB ?_ | with_reducible refine w_not ?_ | with_reducible refine w_and ?_ | with_reducible refine w_or ?_ | with_reducible refine w_bl ?_
  | with_reducible refine w_andV ?_ | with_reducible refine w_orV ?_ | with_reducible refine w_notV ?_ | with_reducible refine w_ifE ?_ | with_reducible refine w_chain ?_ | with_reducible refine w_i0 ?_
  | with_reducible refine w_call ?_ | with_reducible refine w_callS ?_ | with_reducible refine w_cB ?_ | with_reducible refine w_tup ?_ | with_reducible refine w_lst ?_ | with_reducible refine w_fldV ?_
  | with_reducible refine w_neF ?_ | with_reducible refine w_neT ?_ | with_reducible refine w_notN ?_ | with_reducible refine w_isN ?_ | with_reducible refine w_gname ?_ | with_reducible refine w_gsub ?_ | with_reducible refine w_asg ?_ | with_reducible refine w_sl ?_ | with_reducible refine w_noP ?_ | with_reducible refine w_int1 ?_ | with_reducible refine w_part ?_ | with_reducible refine w_yes ?_ | with_reducible refine w_nT ?_ | with_reducible refine w_nF ?_ | with_reducible refine w_iteT ?_ | with_reducible refine w_iteF ?_))
namespace L2
open PySem PySem.Spec PyProof.Rows
/-! ### how two values compare: the answer is told -/
abbrev Eqb := V → V → Bool → Hp → Prop
def EqT (X : Cx) (n : Nat) (D : Eqb) : Prop :=
  ∀ (A : Around) (pins : List (Addr × Obj)) (s : Shared) (σ : St) (H : Hp) (x y : V) (b : Bool) (u v : Value), Sub X n A → Inv X pins σ H s → RelV x u → RelV y v → D x y b H →
    wpAny (model X.prog X.w) A (eqBool u v) (fun r t => r = b ∧ ∃ H', Inv X pins σ H' t ∧ Ext H H') X.xe s
def RcT (X : Cx) (n : Nat) (op : CmpOp) (D : Eqb) : Prop :=
  ∀ (A : Around) (pins : List (Addr × Obj)) (s : Shared) (σ : St) (H : Hp) (x y : V) (b : Bool) (u v : Value), Sub X n A → Inv X pins σ H s → RelV x u → RelV y v → D x y b H →
    wpAny (model X.prog X.w) A (richCompare op u v) (fun r t => r = .bool b ∧ ∃ H', Inv X pins σ H' t ∧ Ext H H') X.xe s
section
variable {X : Cx} {n m : Nat} {D D' : Eqb} {op : CmpOp}
theorem EqT.mono (h : EqT X n D) (k : n ≤ m) : EqT X m D := fun A pins s σ H x y b u v sb => h A pins s σ H x y b u v (sb.mono k)
theorem RcT.mono (h : RcT X n op D) (k : n ≤ m) : RcT X m op D := fun A pins s σ H x y b u v sb => h A pins s σ H x y b u v (sb.mono k)
theorem RcT.imp (h : RcT X n op D) (k : ∀ x y b H, D' x y b H → D x y b H) : RcT X n op D' := fun A pins s σ H x y b u v sb I rx ry d => h A pins s σ H x y b u v sb I rx ry (k _ _ _ _ d)
end
end L2
end B8_part
section B9_part
set_option Elab.async false
set_option linter.all false
set_option maxRecDepth 100000
set_option maxHeartbeats 1000000
set_option pp.deepTerms true
open PySem PySem.Spec PyProof.Rows L2
/-- go on as far as nothing is open -/
local macro_rules | `(tactic| walk_at "go") => `(tactic| repeat (first
  | with_reducible refine w_seq ?_ | with_reducible refine w_next ?_ | with_reducible refine w_set ?_ | with_reducible refine w_drop ?_ | with_reducible refine w_ret ?_ | with_reducible refine w_retN ?_
  | with_reducible refine w_if ?_ | ((with_reducible refine' w_var ?hv ?_); (case hv => exact rfl)) | with_reducible refine w_c ?_ | with_reducible refine w_nil ?_ | with_reducible refine w_cons ?_ | with_reducible refine w_op ?_ | with_reducible refine w_un ?_
  | with_reducible refine w_test ?_ | with_reducible refine w_tB ?_ | with_reducible refine w_not ?_ | with_reducible refine w_and ?_ | with_reducible refine w_or ?_ | with_reducible refine w_bl ?_
  | with_reducible refine w_andV ?_ | with_reducible refine w_orV ?_ | with_reducible refine w_notV ?_ | with_reducible refine w_ifE ?_ | with_reducible refine w_chain ?_ | with_reducible refine w_i0 ?_
  | with_reducible refine w_call ?_ | with_reducible refine w_callS ?_ | with_reducible refine w_cB ?_ | with_reducible refine w_tup ?_ | with_reducible refine w_lst ?_ | with_reducible refine w_fldV ?_
  | with_reducible refine w_neF ?_ | with_reducible refine w_neT ?_ | with_reducible refine w_notN ?_ | with_reducible refine w_isN ?_ | with_reducible refine w_gname ?_ | with_reducible refine w_gsub ?_ | with_reducible refine w_asg ?_ | with_reducible refine w_sl ?_ | with_reducible refine w_noP ?_ | with_reducible refine w_int1 ?_ | with_reducible refine w_part ?_ | with_reducible refine w_yes ?_ | with_reducible refine w_nT ?_ | with_reducible refine w_nF ?_ | with_reducible refine w_iteT ?_ | with_reducible refine w_iteF ?_))
namespace L2
open PySem PySem.Spec PyProof.Rows
/-! ### try: several clauses, each with or without 'as n' -/
end L2
end B9_part
section B10_part
set_option Elab.async false
set_option linter.all false
set_option maxRecDepth 100000
set_option maxHeartbeats 1000000
set_option pp.deepTerms true
open PySem PySem.Spec PyProof.Rows L2
/-- go on as far as nothing is open -/
local macro_rules | `(tactic| walk_at "go") => `(tactic| repeat (first
  | with_reducible refine w_seq ?_ | with_reducible refine w_next ?_ | with_reducible refine w_set ?_ | with_reducible refine w_drop ?_ | with_reducible refine w_ret ?_ | with_reducible refine w_retN ?_
  | with_reducible refine w_if ?_ | ((with_reducible refine' w_var ?hv ?_); (case hv => exact rfl)) | with_reducible refine w_c ?_ | with_reducible refine w_nil ?_ | with_reducible refine w_cons ?_ | with_reducible refine w_op ?_ | with_reducible refine w_un ?_
  | with_reducible refine w_test ?_ | with_reducible refine w_tB ?_ | with_reducible refine w_not ?_ | with_reducible refine w_and ?_ | with_reducible refine w_or ?_ | with_reducible refine w_bl ?_
  | with_reducible refine w_andV ?_ | with_reducible refine w_orV ?_ | with_reducible refine w_notV ?_ | with_reducible refine w_ifE ?_ | with_reducible refine w_chain ?_ | with_reducible refine w_i0 ?_
  | with_reducible refine w_call ?_ | with_reducible refine w_callS ?_ | with_reducible refine w_cB ?_ | with_reducible refine w_tup ?_ | with_reducible refine w_lst ?_ | with_reducible refine w_fldV ?_
  | with_reducible refine w_neF ?_ | with_reducible refine w_neT ?_ | with_reducible refine w_notN ?_ | with_reducible refine w_isN ?_ | with_reducible refine w_gname ?_ | with_reducible refine w_gsub ?_ | with_reducible refine w_asg ?_ | with_reducible refine w_sl ?_ | with_reducible refine w_noP ?_ | with_reducible refine w_int1 ?_ | with_reducible refine w_part ?_ | with_reducible refine w_yes ?_ | with_reducible refine w_nT ?_ | with_reducible refine w_nF ?_ | with_reducible refine w_iteT ?_ | with_reducible refine w_iteF ?_))
namespace L2
open PySem PySem.Spec PyProof.Rows
/-! ### C(e, .., k = v) that may raise, the raising wished for at the slots -/
end L2
namespace K3
/-! ### what a caught error tells -/
def ErrD (K : PySem.W.Frag) (cls : Value) (d : Option Addr) (D : Addr) (H : Hp) (fs : List (Str × V)) : Prop := cls = .ref D ∧ ∃ dd, d = some dd ∧ H dd = some (.xd fs)
theorem ErrD.same {K : PySem.W.Frag} {cls : Value} {d : Option Addr} {D : Addr} {H H' : Hp} {fs : List (Str × V)} (h : ErrD K cls d D H fs) (e : Same H H') : ErrD K cls d D H' fs := let ⟨h1, dd, h2, h3⟩ := h; ⟨h1, dd, h2, e _ _ h3⟩
end K3
end B10_part
section B11_part
set_option Elab.async false
set_option linter.all false
set_option maxRecDepth 100000
set_option maxHeartbeats 1000000
set_option pp.deepTerms true
open PySem PySem.Spec PyProof.Rows L2
/-- go on as far as nothing is open -/
local macro_rules | `(tactic| walk_at "go") => `(tactic| repeat (first
  | with_reducible refine w_seq ?_ | with_reducible refine w_next ?_ | with_reducible refine w_set ?_ | with_reducible refine w_drop ?_ | with_reducible refine w_ret ?_ | with_reducible refine w_retN ?_
  | with_reducible refine w_if ?_ | ((with_reducible refine' w_var ?hv ?_); (case hv => exact rfl)) | with_reducible refine w_c ?_ | with_reducible refine w_nil ?_ | with_reducible refine w_cons ?_ | with_reducible refine w_op ?_ | with_reducible refine w_un ?_
  | with_reducible refine w_test ?_ | with_reducible refine w_tB ?_ | with_reducible refine w_not ?_ | with_reducible refine w_and ?_ | with_reducible refine w_or ?_ | with_reducible refine w_bl ?_
  | with_reducible refine w_andV ?_ | with_reducible refine w_orV ?_ | with_reducible refine w_notV ?_ | with_reducible refine w_ifE ?_ | with_reducible refine w_chain ?_ | with_reducible refine w_i0 ?_
  | with_reducible refine w_call ?_ | with_reducible refine w_callS ?_ | with_reducible refine w_cB ?_ | with_reducible refine w_tup ?_ | with_reducible refine w_lst ?_ | with_reducible refine w_fldV ?_
  | with_reducible refine w_neF ?_ | with_reducible refine w_neT ?_ | with_reducible refine w_notN ?_ | with_reducible refine w_isN ?_ | with_reducible refine w_gname ?_ | with_reducible refine w_gsub ?_ | with_reducible refine w_asg ?_ | with_reducible refine w_sl ?_ | with_reducible refine w_noP ?_ | with_reducible refine w_int1 ?_ | with_reducible refine w_part ?_ | with_reducible refine w_yes ?_ | with_reducible refine w_nT ?_ | with_reducible refine w_nF ?_ | with_reducible refine w_iteT ?_ | with_reducible refine w_iteF ?_))
namespace L2
open PySem PySem.Spec PyProof.Rows
/-! ### raise C(), C an error without an __init__ of its own -/
end L2
namespace K3
end K3
end B11_part
section B12_part
set_option Elab.async false
set_option linter.all false
set_option maxRecDepth 100000
set_option maxHeartbeats 1000000
set_option pp.deepTerms true
open PySem PySem.Spec PyProof.Rows L2
/-- go on as far as nothing is open -/
local macro_rules | `(tactic| walk_at "go") => `(tactic| repeat (first
  | with_reducible refine w_seq ?_ | with_reducible refine w_next ?_ | with_reducible refine w_set ?_ | with_reducible refine w_drop ?_ | with_reducible refine w_ret ?_ | with_reducible refine w_retN ?_
  | with_reducible refine w_if ?_ | ((with_reducible refine' w_var ?hv ?_); (case hv => exact rfl)) | with_reducible refine w_c ?_ | with_reducible refine w_nil ?_ | with_reducible refine w_cons ?_ | with_reducible refine w_op ?_ | with_reducible refine w_un ?_
  | with_reducible refine w_test ?_ | with_reducible refine w_tB ?_ | with_reducible refine w_not ?_ | with_reducible refine w_and ?_ | with_reducible refine w_or ?_ | with_reducible refine w_bl ?_
  | with_reducible refine w_andV ?_ | with_reducible refine w_orV ?_ | with_reducible refine w_notV ?_ | with_reducible refine w_ifE ?_ | with_reducible refine w_chain ?_ | with_reducible refine w_i0 ?_
  | with_reducible refine w_call ?_ | with_reducible refine w_callS ?_ | with_reducible refine w_cB ?_ | with_reducible refine w_tup ?_ | with_reducible refine w_lst ?_ | with_reducible refine w_fldV ?_
  | with_reducible refine w_neF ?_ | with_reducible refine w_neT ?_ | with_reducible refine w_notN ?_ | with_reducible refine w_isN ?_ | with_reducible refine w_gname ?_ | with_reducible refine w_gsub ?_ | with_reducible refine w_asg ?_ | with_reducible refine w_sl ?_ | with_reducible refine w_noP ?_ | with_reducible refine w_int1 ?_ | with_reducible refine w_part ?_ | with_reducible refine w_yes ?_ | with_reducible refine w_nT ?_ | with_reducible refine w_nF ?_ | with_reducible refine w_iteT ?_ | with_reducible refine w_iteF ?_))
/-! ### defs under no guard: repr of containers can be read in them -/
namespace L2
open PySem PySem.Spec PyProof.Rows
/-! ### a law whose def is read under no guard -/
end L2
end B12_part
section Q0_part
set_option Elab.async false
set_option linter.all false
set_option maxRecDepth 100000
set_option maxHeartbeats 1000000
set_option pp.deepTerms true
open PySem PySem.Spec PyProof.Rows L2
/-- go on as far as nothing is open -/
local macro_rules | `(tactic| walk_at "go") => `(tactic| repeat (first
  | with_reducible refine w_seq ?_ | with_reducible refine w_next ?_ | with_reducible refine w_set ?_ | with_reducible refine w_drop ?_ | with_reducible refine w_ret ?_ | with_reducible refine w_retN ?_
  | with_reducible refine w_if ?_ | ((with_reducible refine' w_var ?hv ?_); (case hv => exact rfl)) | with_reducible refine w_c ?_ | with_reducible refine w_nil ?_ | with_reducible refine w_cons ?_ | with_reducible refine w_op ?_ | with_reducible refine w_un ?_
  | with_reducible refine w_test ?_ | with_reducible refine w_tB ?_ | with_reducible refine w_not ?_ | with_reducible refine w_and ?_ | with_reducible refine w_or ?_ | with_reducible refine w_bl ?_
  | with_reducible refine w_andV ?_ | with_reducible refine w_orV ?_ | with_reducible refine w_notV ?_ | with_reducible refine w_ifE ?_ | with_reducible refine w_chain ?_ | with_reducible refine w_i0 ?_
  | with_reducible refine w_call ?_ | with_reducible refine w_callS ?_ | with_reducible refine w_cB ?_ | with_reducible refine w_tup ?_ | with_reducible refine w_lst ?_ | with_reducible refine w_fldV ?_
  | with_reducible refine w_neF ?_ | with_reducible refine w_neT ?_ | with_reducible refine w_notN ?_ | with_reducible refine w_isN ?_ | with_reducible refine w_gname ?_ | with_reducible refine w_gsub ?_ | with_reducible refine w_asg ?_ | with_reducible refine w_sl ?_ | with_reducible refine w_noP ?_ | with_reducible refine w_int1 ?_ | with_reducible refine w_part ?_ | with_reducible refine w_meth ?_ | with_reducible refine w_din ?_ | with_reducible refine w_dnotin ?_ | with_reducible refine w_dgt ?_ | with_reducible refine w_dget1 ?_ | with_reducible refine w_dget2 ?_ | with_reducible refine w_dput ?_ | with_reducible refine w_yes ?_ | with_reducible refine w_nT ?_ | with_reducible refine w_nF ?_ | with_reducible refine w_iteT ?_ | with_reducible refine w_iteF ?_))
namespace L2
open PySem PySem.Spec PyProof.Rows
section
variable {X : Cx} {k : Nat} {f C : Addr} {ps : List Str} {sp : Sp} {m : Str} {o e : Expr} {es : List Expr} {apos pos : Pos} {t : TA} {ta : TE}
/-- o.m(e, ..) of an own instance, nothing is raised -/
theorem pe_mO {pl : Sem Bool} (O : Ok X.prog X.w X.K X.mg X.base k f ps sp) (hr : Room k X.A) (c : Cls X.K C) (hm : Meth X.K C m f) (he : PE X o ta) (ha : PA X (e :: es) t)
    (hst : starEach (e :: es) X.env = (false, eval e X.env) :: starEach es X.env := by rfl) (hpl : (backTo pos (starEach es X.env)).any (·.1) = false := by rfl)
    (ht : eval (.Call (.Attribute o m apos) (e :: es) [] pos) X.env = (do
      let ov ← eval o X.env
      standAt apos.atName
      let (f, first) ← holding [ov] (getMethod ov m pl)
      callWith pos f first (backTo pos (starEach (e :: es) X.env)) (backToKw pos (keywordEach [] X.env))) := by rfl) :
    PE X (.Call (.Attribute o m apos) (e :: es) [] pos) (tMeth C m sp [] E0 ta t) := by
  obtain ⟨fd, F, b, kp⟩ := O.run
  exact pe_meth he c hm F hr b .nil passL ha hst hpl ht
theorem pe_mO0 {pl : Sem Bool} (O : Ok X.prog X.w X.K X.mg X.base k f ps sp) (hr : Room k X.A) (c : Cls X.K C) (hm : Meth X.K C m f) (he : PE X o ta)
    (ht : eval (.Call (.Attribute o m apos) [] [] pos) X.env = (do
      let ov ← eval o X.env
      standAt apos.atName
      let (f, first) ← holding [ov] (getMethod ov m pl)
      callWith pos f first (backTo pos (starEach [] X.env)) (backToKw pos (keywordEach [] X.env))) := by rfl) :
    PE X (.Call (.Attribute o m apos) [] [] pos) (tMeth C m sp [] E0 ta tNil) := by
  obtain ⟨fd, F, b, kp⟩ := O.run
  exact pe_meth0 he c hm F hr b .nil passL ht
end
/-- x in t, t a tuple of data -/
def rInTD (K : PySem.W.Frag) : R2 := fun x y H Q => ∃ d ds, Dp K H x d ∧ Dp K H y (.tuple ds) ∧ SeqAt.shaped d = true ∧ SeqAt.shaped (.tuple ds) = true ∧ Q (.bl (ds.any fun z => PyData.eqv z d)) H
theorem op_inTD {X : Cx} (hu : X.A.units + 65 < cLine) : OpR X (compareOp .In) (rInTD X.K) := by
  intro pins s σ H x y v u Q I rx ry ⟨d, ds, hd, he, sd, se, q⟩
  obtain ⟨as, r1⟩ := Dp.reads I d x v hd rx
  obtain ⟨bs, r2⟩ := Dp.reads I (.tuple ds) y u he ry
  exact SeqAt.in_tuple_reads r2 r1 (SeqAt.canLay_of_shaped se) (SeqAt.canLay_of_shaped sd) (room_in_shaped sd hu) ⟨.bl _, H, I, rfl, q⟩
section
variable {σ : St} {H : Hp} {ta : TE} {t : TA} {Q : VK}
theorem w_din {ty td : TE} (h : ty σ H fun y H1 => td σ H1 fun x H2 => ∃ a o, x = .ref a ∧ DGet H2 a y o ∧ Q (.bl o.isSome) H2) : tDIn ty td σ H Q := h
theorem w_dnotin {ty td : TE} (h : ty σ H fun y H1 => td σ H1 fun x H2 => ∃ a o, x = .ref a ∧ DGet H2 a y o ∧ Q (.bl (!o.isSome)) H2) : tDNotIn ty td σ H Q := h
theorem w_dgt {td ty : TE} (h : td σ H fun x H1 => ty σ H1 fun y H2 => ∃ a v, x = .ref a ∧ DGet H2 a y (some v) ∧ Q v H2) : tDGet td ty σ H Q := h
theorem w_dget1 {td ty : TE} (h : td σ H fun x H1 => ∃ a, x = .ref a ∧ IsD H1 a ∧ ty σ H1 fun y H2 => ∃ o, DGet H2 a y o ∧ Q (o.getD .non) H2) : tDGet1 td ty σ H Q := h
theorem w_dget2 {td ty tx : TE} (h : td σ H fun x H1 => ∃ a, x = .ref a ∧ IsD H1 a ∧ ty σ H1 fun y H2 => tx σ H2 fun z H3 => ∃ o, DGet H3 a y o ∧ Q (o.getD z) H3) : tDGet2 td ty tx σ H Q := h
theorem w_dput {td ty tv : TE} {D : Ends} (h : tv σ H fun v H1 => td σ H1 fun x H2 => ty σ H2 fun y H3 => ∃ a H4, x = .ref a ∧ DPut H3 a y v H4 ∧ D.nx σ H4) : sDPut td ty tv D σ H := h
theorem w_meth {C : Addr} {m : Str} {sp : Sp} {dvs : List V} {E : XK} (h : ta σ H fun x H1 => ∃ a dx fs, x = .ref a ∧ H1 a = some (.ins C dx fs) ∧ fs.lookup m = none ∧ t σ H1 fun vs H2 => sp (x :: (vs ++ dvs)) H2 Q E) : tMeth C m sp dvs E ta t σ H Q := h
end
end L2
namespace K3
theorem Room.units70 {k : Nat} {A : Around} (h : Room k A) : A.units + 70 < cLine := Nat.lt_of_le_of_lt (by omega) h.un
theorem Room.units4 {k : Nat} {A : Around} (h : Room k A) : A.units + 4 < cLine := Nat.lt_of_le_of_lt (by omega) h.un
/-! ### answers: any text, number, truth, None or tuple of texts -/
inductive An where
  | str (z : Str)
  | int (i : Int)
  | bl (b : Bool)
  | non
  | tup (zs : List Str)
deriving DecidableEq
inductive AnO (H : Hp) : V → An → Prop where
  | str (z) : AnO H (.str z) (.str z)
  | int (i) : AnO H (.int i) (.int i)
  | bl (b) : AnO H (.bl b) (.bl b)
  | non : AnO H .non .non
  | tup {p zs} : H p = some (.tup (List.map V.str zs)) → AnO H (.ref p) (.tup zs)
theorem AnO.same {H H' : Hp} (e : Same H H') {v : V} {x : An} (h : AnO H v x) : AnO H' v x := by
  cases h with
  | str => exact .str _
  | int => exact .int _
  | bl => exact .bl _
  | non => exact .non
  | tup h => exact .tup (e _ _ h)
def An.data : An → PyData
  | .str z => .str z | .int i => .int i | .bl b => .bool b | .non => .none | .tup zs => .tuple (zs.map PyData.str)
theorem strs_dp {K : PySem.W.Frag} {H : Hp} : ∀ zs : List Str, DpAll K H (zs.map V.str) (zs.map PyData.str)
  | [] => .nil
  | z :: zs => .cons (.str z) (strs_dp zs)
theorem AnO.dp {K : PySem.W.Frag} {H : Hp} {v : V} {x : An} (h : AnO H v x) : Dp K H v x.data := by
  cases h with
  | str => exact .str _
  | int => exact .int _
  | bl => exact .bl _
  | non => exact .non
  | tup h => exact .tup (SqT.of h) (strs_dp _)
/-- texts are of signs that there are -/
def An.ok : An → Prop
  | .str z => PySem.PyData.strOk z = true
  | .tup zs => zs.length ≤ 1000 ∧ ∀ z ∈ zs, PySem.PyData.strOk z = true
  | _ => True
theorem strs_lay : ∀ {zs : List Str}, (∀ z ∈ zs, PySem.PyData.strOk z = true) → PyData.canLayAll0 (zs.map PyData.str) = true ∧ PyData.depthAll (zs.map PyData.str) ≤ 0
  | [], _ => ⟨rfl, Nat.le_refl _⟩
  | z :: zs, h => by
    obtain ⟨a, b⟩ := strs_lay fun y hy => h y (List.mem_cons_of_mem _ hy)
    simp only [List.map_cons, PyData.canLayAll0, PyData.canLay0, PyData.depthAll, PyData.depth]
    exact ⟨by rw [a, h z (List.mem_cons_self ..)]; rfl, by omega⟩
theorem shaped_of {d : PyData} (h : d.canLay0 = true) (k : d.depth ≤ 64) : SeqAt.shaped d = true := Bool.and_eq_true_iff.mpr ⟨h, decide_eq_true k⟩
theorem strs_shaped {zs : List Str} (h : ∀ z ∈ zs, PySem.PyData.strOk z = true) : SeqAt.shaped (.tuple (zs.map PyData.str)) = true ∧ SeqAt.shaped (.list (zs.map PyData.str)) = true := by
  obtain ⟨a, b⟩ := strs_lay h
  exact ⟨shaped_of (by simpa [PyData.canLay0] using a) (by simp only [PyData.depth]; omega), shaped_of (by simpa [PyData.canLay0] using a) (by simp only [PyData.depth]; omega)⟩
theorem str_shaped {z : Str} (h : PySem.PyData.strOk z = true) : SeqAt.shaped (.str z) = true := shaped_of (by simpa [PyData.canLay0] using h) (by simp [PyData.depth])
theorem An.shaped {x : An} (h : x.ok) : SeqAt.shaped x.data = true := by
  cases x with
  | str z => exact str_shaped h
  | tup zs => exact (strs_shaped h.2).1
  | _ => rfl
theorem eqv_strs : ∀ {xs ys : List Str}, PyData.eqvAll (xs.map PyData.str) (ys.map PyData.str) = decide (xs = ys)
  | [], [] => by simp [PyData.eqvAll]
  | [], y :: ys => by simp [PyData.eqvAll]
  | x :: xs, [] => by simp [PyData.eqvAll]
  | x :: xs, y :: ys => by
    have ih := eqv_strs (xs := xs) (ys := ys)
    simp only [List.map_cons, PyData.eqvAll, ih, PyData.eqv, List.cons.injEq, Bool.decide_and]
    congr 1
def An.isInt : An → Bool
  | .int _ => true
  | _ => false
def Rw.ans : Rw → An → Bool
  | .one _ os _, .str z => decide (z ∈ os)
  | .some _ os _, .tup zs => decide (zs = os.filter fun o => decide (o ∈ zs))
  | .number _ lo hi _, .int i => decide (lo ≤ i) && decide (i ≤ hi)
  | _, _ => false
def spAnB (f : An → Bool) (_ : PySem.W.Frag) : Sp := fun vs H Q _ => ∃ (v : V) (x : An), vs = [v] ∧ AnO H v x ∧ ∀ H', Same H H' → Q (.bl (f x)) H'
def spChosen (K : PySem.W.Frag) : Sp := fun vs H Q _ => ∃ (t p : Addr) (os zs : List Str), vs = [.ref t, .ref p] ∧ SqT K H t (os.map V.str) ∧ H p = some (.tup (zs.map V.str)) ∧ os.length ≤ 1000 ∧
  ∀ q H', Same H H' → H q = none → H' q = some (.lst ((os.filter fun o => decide (o ∈ zs)).map V.str)) → Q (.ref q) H'
def spIsAns (K : PySem.W.Frag) : Sp := fun vs H Q _ => ∃ (qv v : V) (r : Rw) (x : An), vs = [qv, v] ∧ RO K H qv r ∧ r.isQ = true ∧ AnO H v x ∧ x.ok ∧ r.opts.length ≤ 1000 ∧ (∀ o ∈ r.opts, PySem.PyData.strOk o = true) ∧ ∀ H', Same H H' → Q (.bl (r.ans x)) H'
def An.tyn : An → String
  | .str _ => "str" | .int _ => "int" | .bl _ => "bool" | .non => "NoneType" | .tup _ => "tuple"
theorem An.ty {K : PySem.W.Frag} {H : Hp} {v : V} {x : An} (h : AnO H v x) : TyX K H v (.type x.tyn) := by
  cases h with
  | str => exact .base (.str _)
  | int => exact .base (.int _)
  | bl => exact .base (.bl _)
  | non => exact .base .non
  | tup h => exact .base (.tup h)
theorem isB {y : String} {x : An} {K : PySem.W.Frag} {H : Hp} {v : V} {b : Bool} {Q : VK} (h : AnO H v x) (k : kitB x.tyn y = some b) (q : Q (.bl b) H) : rIsi K [v, .ty y] H Q :=
  ⟨v, .ty y, _, .type y, b, rfl, .ty y, An.ty h, kit_ty k, q⟩
theorem kii : kitB "int" "int" = some true := by decide +kernel
theorem kib : kitB "int" "bool" = some false := by decide +kernel
theorem kbi : kitB "bool" "int" = some true := by decide +kernel
theorem kbb : kitB "bool" "bool" = some true := by decide +kernel
theorem ksi : kitB "str" "int" = some false := by decide +kernel
theorem kni : kitB "NoneType" "int" = some false := by decide +kernel
theorem kti : kitB "tuple" "int" = some false := by decide +kernel
theorem kst : kitB "str" "tuple" = some false := by decide +kernel
theorem kit2 : kitB "int" "tuple" = some false := by decide +kernel
theorem kbt : kitB "bool" "tuple" = some false := by decide +kernel
theorem knt : kitB "NoneType" "tuple" = some false := by decide +kernel
theorem ktt : kitB "tuple" "tuple" = some true := by decide +kernel
def An.isTup : An → Bool
  | .tup _ => true | _ => false
theorem kit_tup : ∀ (x : An), kitB x.tyn "tuple" = some x.isTup
  | .str _ => kst | .int _ => kit2 | .bl _ => kbt | .non => knt | .tup _ => ktt
theorem filter_take {os : List Str} {zs : List Str} {i : Nat} {o : Str} (h : os[i]? = some o) : ((os.take (i + 1)).filter fun o => decide (o ∈ zs)) = ((os.take i).filter fun o => decide (o ∈ zs)) ++ if o ∈ zs then [o] else [] := by
  rw [List.take_add_one, h, List.filter_append]
  congr 1
  by_cases c : o ∈ zs <;> simp [c]
theorem any_str {os : List Str} {x : An} : ((os.map PyData.str).any fun z => PyData.eqv z x.data) = (match x with | .str z => decide (z ∈ os) | _ => false) := by
  induction os with
  | nil => cases x <;> rfl
  | cons o os ih =>
    rw [List.map_cons, List.any_cons, ih]
    cases x with
    | str z =>
      show ((o == z) || decide (z ∈ os)) = decide (z ∈ o :: os)
      by_cases e : o = z
      · rw [e]; simp
      · rw [beq_false_of_ne e, Bool.false_or]
        exact decide_eq_decide.mpr ⟨fun h => List.mem_cons_of_mem _ h, fun h => (List.mem_cons.mp h).resolve_left fun q => e q.symm⟩
    | _ => rfl
end K3
end Q0_part
section Q1_part
set_option Elab.async false
set_option linter.all false
set_option maxRecDepth 100000
set_option maxHeartbeats 1000000
set_option pp.deepTerms true
open PySem PySem.Spec PyProof.Rows L2
/-- go on as far as nothing is open -/
local macro_rules | `(tactic| walk_at "go") => `(tactic| repeat (first
  | with_reducible refine w_seq ?_ | with_reducible refine w_next ?_ | with_reducible refine w_set ?_ | with_reducible refine w_drop ?_ | with_reducible refine w_ret ?_ | with_reducible refine w_retN ?_
  | with_reducible refine w_if ?_ | ((with_reducible refine' w_var ?hv ?_); (case hv => exact rfl)) | with_reducible refine w_c ?_ | with_reducible refine w_nil ?_ | with_reducible refine w_cons ?_ | with_reducible refine w_op ?_ | with_reducible refine w_un ?_
  | with_reducible refine w_test ?_ | with_reducible refine w_tB ?_ | with_reducible refine w_not ?_ | with_reducible refine w_and ?_ | with_reducible refine w_or ?_ | with_reducible refine w_bl ?_
  | with_reducible refine w_andV ?_ | with_reducible refine w_orV ?_ | with_reducible refine w_notV ?_ | with_reducible refine w_ifE ?_ | with_reducible refine w_chain ?_ | with_reducible refine w_i0 ?_
  | with_reducible refine w_call ?_ | with_reducible refine w_callS ?_ | with_reducible refine w_cB ?_ | with_reducible refine w_tup ?_ | with_reducible refine w_lst ?_ | with_reducible refine w_fldV ?_
  | with_reducible refine w_neF ?_ | with_reducible refine w_neT ?_ | with_reducible refine w_notN ?_ | with_reducible refine w_isN ?_ | with_reducible refine w_gname ?_ | with_reducible refine w_gsub ?_ | with_reducible refine w_asg ?_ | with_reducible refine w_sl ?_ | with_reducible refine w_noP ?_ | with_reducible refine w_int1 ?_ | with_reducible refine w_part ?_ | with_reducible refine w_meth ?_ | with_reducible refine w_din ?_ | with_reducible refine w_dnotin ?_ | with_reducible refine w_dgt ?_ | with_reducible refine w_dget1 ?_ | with_reducible refine w_dget2 ?_ | with_reducible refine w_dput ?_ | with_reducible refine w_yes ?_ | with_reducible refine w_nT ?_ | with_reducible refine w_nF ?_ | with_reducible refine w_iteT ?_ | with_reducible refine w_iteF ?_))
namespace K3
section
variable {P : Program} {w : World} {K : PySem.W.Frag} {mg : Str → Option Value} {base : Heap}
theorem sc_is_number : FnScope ["answer"] ["answer"] (defScope s_is_number) := ⟨rfl, rfl, rfl, by decide +kernel, rfl, by decide +kernel, by decide +kernel⟩
theorem ok_is_number (T : Tx K mg) : Ok P w K mg base 1 (He.ga K "is_number") ["answer"] (spAnB An.isInt K) := by
  obtain ⟨fd, F⟩ := T.f_is_number
  refine ⟨fd, F.ok (k := 0) sc_is_number (fun vs H Q E h => ?_) (fun cdv A outer s_ H vs Q E hr h => ?_), F.bindsN fun _ _ _ _ _ _ us hl => match us, hl with | [_], _ => rfl, F.kp⟩
  · obtain ⟨v, x, rfl, hx, q⟩ := h
    rfl
  obtain ⟨v, x, rfl, hx, q⟩ := h
  have hu65 := K3.Room.units65 hr
  have hu70 := K3.Room.units70 hr
  have hu4 := K3.Room.units4 hr
  have hu64 := Nat.lt_of_succ_lt hu65
  have hu0 := Nat.lt_of_le_of_lt (Nat.le_add_right _ 65) hu65
  have hu1 := Nat.lt_of_le_of_lt (Nat.add_le_add_left (show 1 ≤ 65 by decide) _) hu65
  refine ⟨_, pss_one (ps_ret (pe_and (pe_callB call_isi (by rfl) T.z_isinstance (by decide +kernel) (pa_cons (pv 0) (pa_cons (pe_bltn (v := .ty "int") (u := .type "int") (by rfl) T.z_int (by decide +kernel) rfl) pa_nil))) (pe_one (pe_not (pe_callB call_isi (by rfl) T.z_isinstance (by decide +kernel) (pa_cons (pv 0) (pa_cons (pe_bltn (v := .ty "bool") (u := .type "bool") (by rfl) T.z_bool (by decide +kernel) rfl) pa_nil))))))), ?_⟩
  walk_at "go"
  cases hx with
  | int i =>
    refine isB (.int i) kii ⟨_, rfl, ?_⟩
    walk_at "go"
    exact isB (.int i) kib ⟨_, rfl, q _ (Same.refl _)⟩
  | bl b =>
    refine isB (.bl b) kbi ⟨_, rfl, ?_⟩
    walk_at "go"
    exact isB (.bl b) kbb ⟨_, rfl, q _ (Same.refl _)⟩
  | str z => exact isB (.str z) ksi ⟨_, rfl, q _ (Same.refl _)⟩
  | non => exact isB .non kni ⟨_, rfl, q _ (Same.refl _)⟩
  | tup h => exact isB (.tup h) kti ⟨_, rfl, q _ (Same.refl _)⟩
theorem sc_chosen_in_order : FnScope ["options", "answer", "option"] ["options", "answer"] (defScope s_chosen_in_order) := ⟨rfl, rfl, rfl, by decide +kernel, rfl, by decide +kernel, by decide +kernel⟩
theorem ok_chosen_in_order (T : Tx K mg) : Ok P w K mg base 1 (He.ga K "chosen_in_order") ["options", "answer"] (spChosen K) := by
  obtain ⟨fd, F⟩ := T.f_chosen_in_order
  refine ⟨fd, F.ok (k := 0) sc_chosen_in_order (fun vs H Q E h => ?_) (fun cdv A outer s_ H vs Q E hr h => ?_), F.bindsN fun _ _ _ _ _ _ us hl => match us, hl with | [_, _], _ => rfl, F.kp⟩
  · obtain ⟨t, p, os, zs, rfl, ht, hp, lo, q⟩ := h
    rfl
  obtain ⟨t, p, os, zs, rfl, ht, hp, lo, q⟩ := h
  have hu65 := K3.Room.units65 hr
  have hu70 := K3.Room.units70 hr
  have hu4 := K3.Room.units4 hr
  have hu64 := Nat.lt_of_succ_lt hu65
  have hu0 := Nat.lt_of_le_of_lt (Nat.le_add_right _ 65) hu65
  have hu1 := Nat.lt_of_le_of_lt (Nat.add_le_add_left (show 1 ≤ 65 by decide) _) hu65
  refine ⟨_, pss_one (ps_ret (by exact pe_lc (own := [("option", 2)]) (g := gName 2) (tt := (tTest (tOp (rIn K false) (tVar 2) (tVar 1)))) (te := (tVar 2)) (by rfl) sc_chosen_in_order.nd (pi_tup (pv 0)) (blkOk_by (own := [("option", 2)]) (N := ["options", "answer", "option"]) (sc := defScope s_chosen_in_order) (by decide +kernel)) (fun _ _ _ _ _ => (pg_name (i := 2) sc_chosen_in_order.nd rfl (Or.inl rfl))) (fun _ _ _ _ _ => (pts_one (pt_cmpR op_in_seq (pv 2) (pv 1) (by rfl)))) (fun _ _ _ _ _ => (pv 2)))), ?_⟩
  walk_at "go"
  refine ⟨_, rfl, t, rfl, ⟨_, ht⟩, fun D hD => ?_⟩
  refine lc_it (walk_tup (K := K) (a := t) (xs := os.map V.str)) (fun i H' => Same H H' ∧ H' D = some (.lst (((os.take i).filter fun o => decide (o ∈ zs)).map V.str))) ⟨Same.new hD _, upd_same⟩ (fun i H' _ z => z.1.sqt ht) ?_ ?_
  · rintro i v H1 H1' hi ⟨e1, h1⟩ ⟨rfl, hv⟩
    rw [List.getElem?_map] at hv
    obtain ⟨o, ho, rfl⟩ := Option.map_eq_some_iff.mp hv
    walk_at "go"
    refine ⟨rfl, ?_⟩
    walk_at "go"
    refine ⟨p, _, rfl, .inr (SqT.of (e1 _ _ hp)), rfl, flat_strs zs, ?_⟩
    refine ⟨_, rfl, ?_⟩
    show if inV (.str o) (zs.map V.str) = true then _ else _
    rw [inV_strs]
    by_cases c : o ∈ zs
    · rw [decide_eq_true c]
      walk_at "go"
      refine ⟨_, h1, ?_, e1.mut hD, ?_⟩
      · rw [List.length_map]
        refine Nat.lt_of_le_of_lt (Nat.le_trans (List.length_filter_le _ _) (List.length_take_le _ _)) ?_
        rw [List.length_map] at hi
        exact Nat.lt_of_lt_of_le hi (Nat.le_trans lo (by decide))
      · rw [upd_same, filter_take ho, if_pos c, List.map_append]
        rfl
    · rw [decide_eq_false c]
      walk_at "go"
      refine ⟨e1, ?_⟩
      rw [h1, filter_take ho, if_neg c, List.append_nil]
  · rintro H1 ⟨e1, h1⟩
    refine q D H1 e1 hD ?_
    rw [h1, List.length_map, List.take_length]
theorem sc_is_answer : FnScope ["question", "answer"] ["question", "answer"] (defScope s_is_answer) := ⟨rfl, rfl, rfl, by decide +kernel, rfl, by decide +kernel, by decide +kernel⟩
theorem ok_is_answer (T : Tx K mg) : Ok P w K mg base 2 (He.ga K "is_answer") ["question", "answer"] (spIsAns K) := by
  obtain ⟨fd, F⟩ := T.f_is_answer
  have Ois_number := ok_is_number (P := P) (w := w) (base := base) T
  have Ochosen_in_order := ok_chosen_in_order (P := P) (w := w) (base := base) T
  refine ⟨fd, F.ok (k := 1) sc_is_answer (fun vs H Q E h => ?_) (fun cdv A outer s_ H vs Q E hr h => ?_), F.bindsN fun _ _ _ _ _ _ us hl => match us, hl with | [_, _], _ => rfl, F.kp⟩
  · obtain ⟨qv, v, r, x, rfl, hr0, hq, hx, xo, lo, so, q⟩ := h
    rfl
  obtain ⟨qv, v, r, x, rfl, hr0, hq, hx, xo, lo, so, q⟩ := h
  have hu65 := K3.Room.units65 hr
  have hu70 := K3.Room.units70 hr
  have hu4 := K3.Room.units4 hr
  have hu64 := Nat.lt_of_succ_lt hu65
  have hu0 := Nat.lt_of_le_of_lt (Nat.le_add_right _ 65) hu65
  have hu1 := Nat.lt_of_le_of_lt (Nat.add_le_add_left (show 1 ≤ 65 by decide) _) hu65
  have ris_number : Room 1 _ := hr.mono (by decide)
  have rchosen_in_order : Room 1 _ := hr.mono (by decide)
  refine ⟨_, pss_cons (ps_if (pt_val (pe_callB call_isi (by rfl) T.z_isinstance (by decide +kernel) (pa_cons (pv 0) (pa_cons (pe_gref T.g_Some) pa_nil)))) (pss_one (ps_ret (pe_and (pe_callB call_isi (by rfl) T.z_isinstance (by decide +kernel) (pa_cons (pv 1) (pa_cons (pe_bltn (v := .ty "tuple") (u := .type "tuple") (by rfl) T.z_tuple (by decide +kernel) rfl) pa_nil))) (pe_one (pe_cmpR (op_eqD hu64) (pe_callTy call_list_of (by rfl) T.z_list (by decide +kernel) (pa_cons (pv 1) pa_nil)) (pe_f Ochosen_in_order rchosen_in_order T.g_chosen_in_order (pa_cons (pe_fld (pv 0) rfl) (pa_cons (pv 1) pa_nil))) rfl))))) pss_nil)
      (pss_cons (ps_if (pt_val (pe_callB call_isi (by rfl) T.z_isinstance (by decide +kernel) (pa_cons (pv 0) (pa_cons (pe_gref T.g_Number) pa_nil)))) (pss_one (ps_ret (pe_and (pe_f Ois_number ris_number T.g_is_number (pa_cons (pv 1) pa_nil)) (pe_one (pe_chain op_le op_le (pe_fld (pv 0) rfl) (pv 1) (pe_fld (pv 0) rfl)))))) pss_nil)
      (pss_one (ps_ret (pe_cmpR (op_inTD hu65) (pv 1) (pe_fld (pv 0) rfl) rfl)))), ?_⟩
  walk_at "go"
  refine isiR T (y := "Some") hr0 (by decide) ?_
  refine ⟨_, rfl, ?_⟩
  have kq := fun {b} (h : r.ans x = b) => (h ▸ q H (Same.refl _) : Q (.bl b) H)
  cases hr0 with
  | @some a t n os w wv hi ht hw =>
    obtain ⟨dx, hi⟩ := hi
    show if true = true then _ else _
    walk_at "go"
    refine isB hx (kit_tup x) ?_
    refine ⟨_, rfl, ?_⟩
    cases hx with
    | @tup p zs hp =>
      show if true = true then _ else _
      walk_at "go"
      refine ⟨p, _, rfl, .inr (SqT.of hp), fun l hl => ?_⟩
      have el := Same.new hl (.lst (zs.map V.str))
      walk_at "go"
      refine ⟨_, _, dx, _, _, rfl, el _ _ hi, T.cl_Some, T.n_Some_options, rfl, ?_⟩
      walk_at "go"
      refine ⟨_, p, _, zs, rfl, el.sqt ht, el _ _ hp, lo, fun q' H2 e2 hq' h2 => ?_⟩
      refine ⟨.list (zs.map PyData.str), .list ((os.filter fun o => decide (o ∈ zs)).map PyData.str), .lst (SqL.of (e2 _ _ upd_same)) (strs_dp zs), .lst (SqL.of h2) (strs_dp _), (strs_shaped xo.2).2, (strs_shaped fun o ho => so o (List.mem_filter.mp ho).1).2, ?_⟩
      rw [show PyData.eqv (.list (zs.map PyData.str)) (.list ((os.filter fun o => decide (o ∈ zs)).map PyData.str)) = decide (zs = os.filter fun o => decide (o ∈ zs)) by simp only [PyData.eqv]; exact eqv_strs]
      exact q _ (el.trans e2)
    | _ => exact kq rfl
  | @number a n lo1 hi1 w wv hi hw =>
    obtain ⟨dx, hi⟩ := hi
    show if false = true then _ else _
    walk_at "go"
    refine isiR T (y := "Number") (.number ⟨dx, hi⟩ hw) (by decide) ?_
    refine ⟨_, rfl, ?_⟩
    show if true = true then _ else _
    walk_at "go"
    refine ⟨v, x, rfl, hx, fun H1 e1 => ?_⟩
    cases hx with
    | int i =>
      refine ⟨_, rfl, ?_⟩
      show if true = true then _ else _
      walk_at "go"
      refine ⟨_, _, dx, _, _, rfl, e1 _ _ hi, T.cl_Number, T.n_Number_low, rfl, ?_⟩
      walk_at "go"
      have q1 := q H1 e1
      by_cases c : lo1 ≤ i
      · rw [decide_eq_true c]
        walk_at "go"
        refine ⟨_, _, dx, _, _, rfl, e1 _ _ hi, T.cl_Number, T.n_Number_high, rfl, ?_⟩
        walk_at "go"
        have : (Rw.number n lo1 hi1 w).ans (.int i) = decide (i ≤ hi1) := by show (decide (lo1 ≤ i) && decide (i ≤ hi1)) = _; rw [decide_eq_true c, Bool.true_and]
        rw [this] at q1
        exact q1
      · rw [decide_eq_false c]
        walk_at "go"
        have : (Rw.number n lo1 hi1 w).ans (.int i) = false := by show (decide (lo1 ≤ i) && decide (i ≤ hi1)) = _; rw [decide_eq_false c, Bool.false_and]
        rw [this] at q1
        exact q1
    | _ => exact ⟨_, rfl, q H1 e1⟩
  | @one a t n os w wv hi ht hw =>
    obtain ⟨dx, hi⟩ := hi
    show if false = true then _ else _
    walk_at "go"
    refine isiR T (y := "Number") (.one ⟨dx, hi⟩ ht hw) (by decide) ?_
    refine ⟨_, rfl, ?_⟩
    show if false = true then _ else _
    walk_at "go"
    refine ⟨_, _, dx, _, _, rfl, hi, T.cl_One, T.n_One_options, rfl, ?_⟩
    refine ⟨x.data, _, hx.dp, .tup ht (strs_dp os), An.shaped xo, (strs_shaped so).1, ?_⟩
    rw [any_str]
    cases hx <;> exact kq rfl
  | _ => cases hq
end
end K3
end Q1_part
section Q2_part
set_option Elab.async false
set_option linter.all false
set_option maxRecDepth 100000
set_option maxHeartbeats 1000000
set_option pp.deepTerms true
open PySem PySem.Spec PyProof.Rows L2
/-- go on as far as nothing is open -/
local macro_rules | `(tactic| walk_at "go") => `(tactic| repeat (first
  | with_reducible refine w_seq ?_ | with_reducible refine w_next ?_ | with_reducible refine w_set ?_ | with_reducible refine w_drop ?_ | with_reducible refine w_ret ?_ | with_reducible refine w_retN ?_
  | with_reducible refine w_if ?_ | ((with_reducible refine' w_var ?hv ?_); (case hv => exact rfl)) | with_reducible refine w_c ?_ | with_reducible refine w_nil ?_ | with_reducible refine w_cons ?_ | with_reducible refine w_op ?_ | with_reducible refine w_un ?_
  | with_reducible refine w_test ?_ | with_reducible refine w_tB ?_ | with_reducible refine w_not ?_ | with_reducible refine w_and ?_ | with_reducible refine w_or ?_ | with_reducible refine w_bl ?_
  | with_reducible refine w_andV ?_ | with_reducible refine w_orV ?_ | with_reducible refine w_notV ?_ | with_reducible refine w_ifE ?_ | with_reducible refine w_chain ?_ | with_reducible refine w_i0 ?_
  | with_reducible refine w_call ?_ | with_reducible refine w_callS ?_ | with_reducible refine w_cB ?_ | with_reducible refine w_tup ?_ | with_reducible refine w_lst ?_ | with_reducible refine w_fldV ?_
  | with_reducible refine w_neF ?_ | with_reducible refine w_neT ?_ | with_reducible refine w_notN ?_ | with_reducible refine w_isN ?_ | with_reducible refine w_gname ?_ | with_reducible refine w_gsub ?_ | with_reducible refine w_asg ?_ | with_reducible refine w_sl ?_ | with_reducible refine w_noP ?_ | with_reducible refine w_int1 ?_ | with_reducible refine w_part ?_ | with_reducible refine w_meth ?_ | with_reducible refine w_din ?_ | with_reducible refine w_dnotin ?_ | with_reducible refine w_dgt ?_ | with_reducible refine w_dget1 ?_ | with_reducible refine w_dget2 ?_ | with_reducible refine w_dput ?_ | with_reducible refine w_yes ?_ | with_reducible refine w_nT ?_ | with_reducible refine w_nF ?_ | with_reducible refine w_iteT ?_ | with_reducible refine w_iteF ?_))
namespace L2
open PySem PySem.Spec PyProof.Rows
end L2
namespace K3
/-- the question of this name among a form's rows -/
def formQ (rs : List Rw) (z : Str) : Option Rw := (qsOf (Rws.flat rs none 0)).find? fun r => decide (r.name = z)
def inRd (rs : List Rw) (z : Str) : Bool := repB (Rws.flat rs none 0) z
def qNames (rs : List Rw) : List Str := (qsOf (Rws.flat rs none 0)).map Rw.name
theorem formQ_isQ {rs : List Rw} {z : Str} {r : Rw} (h : formQ rs z = some r) : r.isQ = true ∧ r.name = z ∧ r ∈ qsOf (Rws.flat rs none 0) := by
  have h1 := List.find?_some h
  have h2 := List.mem_of_find?_eq_some h
  refine ⟨?_, of_decide_eq_true h1, h2⟩
  obtain ⟨e, _, h3⟩ := List.mem_filterMap.mp h2
  cases hq : e.1.isQ with
  | false => rw [hq] at h3; cases h3
  | true =>
    rw [hq, if_pos rfl] at h3
    rw [← Option.some.inj h3]
    exact hq
/-! ### what a form that is made has been checked for -/
theorem thenF_inv {a b : Option Flt} (h : thenF a b = none) : a = none ∧ b = none := by
  cases a with
  | none => exact ⟨rfl, h⟩
  | some f => cases h
theorem nameF_inv {z : Str} (h : nameF z = none) : isName z = true := by
  unfold nameF at h
  cases hz : isName z with
  | true => rfl
  | false => rw [hz] at h; cases h
theorem namesF_inv : ∀ {os : List Str}, namesF os = none → ∀ o ∈ os, isName o = true
  | [], _, _, h => by cases h
  | z :: r, h, o, ho => by
    obtain ⟨h1, h2⟩ := thenF_inv (show thenF (nameF z) (namesF r) = none from h)
    rcases List.mem_cons.mp ho with rfl | ho
    · exact nameF_inv h1
    · exact namesF_inv h2 o ho
theorem optF_inv {os : List Str} {m : Nat} (h : optF os m = none) : 1 ≤ os.length ∧ os.length ≤ m ∧ ∀ o ∈ os, isName o = true := by
  unfold optF at h
  split at h
  · rename_i c
    exact ⟨c.1, c.2, namesF_inv (thenF_inv h).1⟩
  · cases h
theorem ck_mem : ∀ {F : List (Rw × Option Nat)} {L : AL}, ckRows L F = none → ∀ e ∈ F, ∃ L', ckRow L' e.1 e.2 = none
  | (r, ar) :: F, L, h, e, he => by
    obtain ⟨h1, h2⟩ := thenF_inv (show thenF (ckRow L r ar) (ckRows (if r.isN then L ++ [(r.name, r, ar)] else L) F) = none from h)
    rcases List.mem_cons.mp he with rfl | he
    · exact ⟨L, h1⟩
    · exact ck_mem h2 e he
theorem formF_inv {rs : List Rw} (h : formF rs = none) : 1 ≤ Rws.cnt rs ∧ Rws.cnt rs ≤ 40 ∧ ckRows [] (Rws.flat rs none 0) = none := by
  unfold formF at h
  split at h
  · rename_i c
    exact ⟨c.1, c.2, h⟩
  · cases h
theorem form_row {rs : List Rw} (h : formF rs = none) {e : Rw × Option Nat} (he : e ∈ Rws.flat rs none 0) : (e.1.isN = true → isName e.1.name = true) ∧ e.1.opts.length ≤ 6 ∧ ∀ o ∈ e.1.opts, isName o = true := by
  obtain ⟨L, hc⟩ := ck_mem (formF_inv h).2.2 e he
  obtain ⟨h1, hc⟩ := thenF_inv (show thenF _ _ = none from hc)
  obtain ⟨h2, _⟩ := thenF_inv hc
  refine ⟨fun hn => ?_, ?_⟩
  · unfold ckName at h1
    rw [hn, if_pos rfl] at h1
    exact nameF_inv (thenF_inv h1).1
  · cases hr : e.1 with
    | one n os w =>
      rw [hr] at h2
      obtain ⟨_, b, c⟩ := optF_inv (show optF os 6 = none from h2)
      exact ⟨b, c⟩
    | some n os w =>
      rw [hr] at h2
      obtain ⟨_, b, c⟩ := optF_inv (show optF os 4 = none from h2)
      exact ⟨Nat.le_trans b (by decide), c⟩
    | _ => exact ⟨Nat.zero_le _, fun o h => nomatch h⟩
theorem name_ok {z : Str} (h : isName z = true) : PySem.PyData.strOk z = true ∧ z.length ≤ 8 := by
  unfold isName at h
  obtain ⟨_, h⟩ := Bool.and_eq_true_iff.mp h
  obtain ⟨h8, h⟩ := Bool.and_eq_true_iff.mp h
  refine ⟨?_, of_decide_eq_true h8⟩
  have key : ∀ c : Nat, (decide (c ∈ lets.cps.toList) || decide (c ∈ figs.cps.toList)) = true → c < 0x110000 := by
    have a : ∀ c ∈ lets.cps.toList ++ figs.cps.toList, c < 0x110000 := by decide +kernel
    intro c hc
    rcases Bool.or_eq_true_iff.mp hc with hc | hc
    · exact a c (List.mem_append_left _ (of_decide_eq_true hc))
    · exact a c (List.mem_append_right _ (of_decide_eq_true hc))
  have : z.cps.toList.all (fun c => decide (c < 0x110000)) = true := by
    cases hl : z.cps.toList with
    | nil => rfl
    | cons c r =>
      rw [hl] at h
      obtain ⟨_, h⟩ := Bool.and_eq_true_iff.mp h
      exact List.all_eq_true.mpr fun x hx => decide_eq_true (key x (List.all_eq_true.mp h x hx))
  unfold PySem.PyData.strOk
  rw [← Array.all_toList]
  exact this
theorem form_q {rs : List Rw} (h : formF rs = none) {z : Str} {r : Rw} (hr : formQ rs z = some r) : r.opts.length ≤ 1000 ∧ ∀ o ∈ r.opts, PySem.PyData.strOk o = true := by
  obtain ⟨_, _, hm⟩ := formQ_isQ hr
  obtain ⟨e, he, h3⟩ := List.mem_filterMap.mp hm
  have : e.1 = r := by
    split at h3
    · exact Option.some.inj h3
    · cases h3
  obtain ⟨_, b, c⟩ := form_row h he
  rw [this] at b c
  exact ⟨Nat.le_trans b (by decide), fun o ho => (name_ok (c o ho)).1⟩
/-- a form that was made of the rows rs -/
structure FormO (K : PySem.W.Frag) (H : Hp) (a : Addr) (rs : List Rw) : Prop where
  ok : formF rs = none
  at_ : ∃ dx t d d2 xs kvs kv2, H a = some (.ins (He.ga K "Form") dx [("rows", .ref t), ("questions", .ref d), ("repeated", .ref d2)]) ∧ SqT K H t xs ∧ ROs K H xs rs ∧
    H d = some (.dK kvs) ∧ Paired (QE K H) kvs (qsOf (Rws.flat rs none 0)) ∧ H d2 = some (.dK kv2) ∧ ∀ z, (valV kv2 (Sum.inr z)).isSome = inRd rs z
theorem FormO.same {K : PySem.W.Frag} {H H' : Hp} (e : Same H H') {a : Addr} {rs : List Rw} (h : FormO K H a rs) : FormO K H' a rs := by
  obtain ⟨o, dx, t, d, d2, xs, kvs, kv2, h1, h2, h3, h4, h5, h6, h7⟩ := h
  exact ⟨o, dx, t, d, d2, xs, kvs, kv2, e _ _ h1, e.sqt h2, ROs.same e h3, e _ _ h4, L2.Paired.mapP h5 fun _ _ z => ⟨z.1, RO.same e z.2⟩, e _ _ h6, h7⟩
theorem qe_keys {K : PySem.W.Frag} {H : Hp} : ∀ {kvs : List (Key × V)} {qs : List Rw}, Paired (QE K H) kvs qs → kvs.map (fun kv => kV kv.1) = (qs.map Rw.name).map V.str
  | _, _, .nil => rfl
  | _, _, .cons h t => by rw [List.map_cons, List.map_cons, List.map_cons, qe_keys t, h.1]; rfl
def spNames (K : PySem.W.Frag) : Sp := fun vs H Q _ => ∃ (a : Addr) (rs : List Rw), vs = [.ref a] ∧ FormO K H a rs ∧ ∀ p H', Same H H' → H p = none → H' p = some (.lst ((qNames rs).map V.str)) → Q (.ref p) H'
def spInRd (K : PySem.W.Frag) : Sp := fun vs H Q _ => ∃ (a : Addr) (z : Str) (rs : List Rw), vs = [.ref a, .str z] ∧ FormO K H a rs ∧ ∀ H', Same H H' → Q (.bl (inRd rs z)) H'
def SpotAt (H : Hp) (v : V) (s : Str × Int) : Prop := ∃ p, v = .ref p ∧ H p = some (.tup [.str s.1, .int s.2])
theorem SpotAt.same {H H' : Hp} (e : Same H H') {v : V} {s : Str × Int} (h : SpotAt H v s) : SpotAt H' v s := let ⟨p, h1, h2⟩ := h; ⟨p, h1, e _ _ h2⟩
section
variable {P : Program} {w : World} {K : PySem.W.Frag} {mg : Str → Option Value} {base : Heap}
theorem sc_Form_names : FnScope ["self"] ["self"] (defScope s_Form_names) := ⟨rfl, rfl, rfl, by decide +kernel, rfl, by decide +kernel, by decide +kernel⟩
theorem ok_Form_names (T : Tx K mg) : Ok P w K mg base 1 (He.ma K (He.ga K "Form") "names") ["self"] (spNames K) := by
  obtain ⟨fd, F⟩ := T.f_Form_names
  refine ⟨fd, F.ok (k := 0) sc_Form_names (fun vs H Q E h => ?_) (fun cdv A outer s_ H vs Q E hr h => ?_), F.bindsN fun _ _ _ _ _ _ us hl => match us, hl with | [_], _ => rfl, F.kp⟩
  · obtain ⟨a, rs, rfl, hf, q⟩ := h
    rfl
  obtain ⟨a, rs, rfl, hf, q⟩ := h
  have hu65 := K3.Room.units65 hr
  have hu70 := K3.Room.units70 hr
  have hu4 := K3.Room.units4 hr
  have hu64 := Nat.lt_of_succ_lt hu65
  have hu0 := Nat.lt_of_le_of_lt (Nat.le_add_right _ 65) hu65
  have hu1 := Nat.lt_of_le_of_lt (Nat.add_le_add_left (show 1 ≤ 65 by decide) _) hu65
  refine ⟨_, pss_one (ps_ret (pe_callTy (call_list_dK (by rfl)) (by rfl) T.z_list (by decide +kernel) (pa_cons (pe_fld (pv 0) rfl) pa_nil))), ?_⟩
  obtain ⟨hok, dx, t, d, d2, xs, kvs, kv2, h1, h2, h3, h4, h5, h6, h7⟩ := hf
  walk_at "go"
  refine ⟨a, _, dx, _, _, rfl, h1, T.cl_Form, T.n_Form_questions, rfl, ?_⟩
  walk_at "go"
  refine ⟨d, kvs, rfl, h4, fun p hp => ?_⟩
  refine q p _ (Same.new hp _) hp ?_
  rw [upd_same, qe_keys h5]
  rfl
theorem sc_Form_in_rounds : FnScope ["self", "name"] ["self", "name"] (defScope s_Form_in_rounds) := ⟨rfl, rfl, rfl, by decide +kernel, rfl, by decide +kernel, by decide +kernel⟩
theorem ok_Form_in_rounds (T : Tx K mg) : Ok P w K mg base 1 (He.ma K (He.ga K "Form") "in_rounds") ["self", "name"] (spInRd K) := by
  obtain ⟨fd, F⟩ := T.f_Form_in_rounds
  refine ⟨fd, F.ok (k := 0) sc_Form_in_rounds (fun vs H Q E h => ?_) (fun cdv A outer s_ H vs Q E hr h => ?_), F.bindsN fun _ _ _ _ _ _ us hl => match us, hl with | [_, _], _ => rfl, F.kp⟩
  · obtain ⟨a, z, rs, rfl, hf, q⟩ := h
    rfl
  obtain ⟨a, z, rs, rfl, hf, q⟩ := h
  have hu65 := K3.Room.units65 hr
  have hu70 := K3.Room.units70 hr
  have hu4 := K3.Room.units4 hr
  have hu64 := Nat.lt_of_succ_lt hu65
  have hu0 := Nat.lt_of_le_of_lt (Nat.le_add_right _ 65) hu65
  have hu1 := Nat.lt_of_le_of_lt (Nat.add_le_add_left (show 1 ≤ 65 by decide) _) hu65
  refine ⟨_, pss_one (ps_ret (pe_cmp (pc_din hu1 (pv 1) (pe_fld (pv 0) rfl)) rfl)), ?_⟩
  obtain ⟨hok, dx, t, d, d2, xs, kvs, kv2, h1, h2, h3, h4, h5, h6, h7⟩ := hf
  walk_at "go"
  refine ⟨a, _, dx, _, _, rfl, h1, T.cl_Form, T.n_Form_repeated, rfl, ?_⟩
  refine ⟨d2, _, rfl, DGet.k (k := Sum.inr z) h6, ?_⟩
  rw [h7]
  exact q _ (Same.refl _)
end
end K3
end Q2_part
section Q3_part
set_option Elab.async false
set_option linter.all false
set_option maxRecDepth 100000
set_option maxHeartbeats 1000000
set_option pp.deepTerms true
open PySem PySem.Spec PyProof.Rows L2
/-- go on as far as nothing is open -/
local macro_rules | `(tactic| walk_at "go") => `(tactic| repeat (first
  | with_reducible refine w_seq ?_ | with_reducible refine w_next ?_ | with_reducible refine w_set ?_ | with_reducible refine w_drop ?_ | with_reducible refine w_ret ?_ | with_reducible refine w_retN ?_
  | with_reducible refine w_if ?_ | ((with_reducible refine' w_var ?hv ?_); (case hv => exact rfl)) | with_reducible refine w_c ?_ | with_reducible refine w_nil ?_ | with_reducible refine w_cons ?_ | with_reducible refine w_op ?_ | with_reducible refine w_un ?_
  | with_reducible refine w_test ?_ | with_reducible refine w_tB ?_ | with_reducible refine w_not ?_ | with_reducible refine w_and ?_ | with_reducible refine w_or ?_ | with_reducible refine w_bl ?_
  | with_reducible refine w_andV ?_ | with_reducible refine w_orV ?_ | with_reducible refine w_notV ?_ | with_reducible refine w_ifE ?_ | with_reducible refine w_chain ?_ | with_reducible refine w_i0 ?_
  | with_reducible refine w_call ?_ | with_reducible refine w_callS ?_ | with_reducible refine w_cB ?_ | with_reducible refine w_tup ?_ | with_reducible refine w_lst ?_ | with_reducible refine w_fldV ?_
  | with_reducible refine w_neF ?_ | with_reducible refine w_neT ?_ | with_reducible refine w_notN ?_ | with_reducible refine w_isN ?_ | with_reducible refine w_gname ?_ | with_reducible refine w_gsub ?_ | with_reducible refine w_asg ?_ | with_reducible refine w_sl ?_ | with_reducible refine w_noP ?_ | with_reducible refine w_int1 ?_ | with_reducible refine w_part ?_ | with_reducible refine w_meth ?_ | with_reducible refine w_din ?_ | with_reducible refine w_dnotin ?_ | with_reducible refine w_dgt ?_ | with_reducible refine w_dget1 ?_ | with_reducible refine w_dget2 ?_ | with_reducible refine w_dput ?_ | with_reducible refine w_yes ?_ | with_reducible refine w_nT ?_ | with_reducible refine w_nF ?_ | with_reducible refine w_iteT ?_ | with_reducible refine w_iteF ?_))
namespace K3
/-! ### answers by their spots -/
abbrev Spot := Str × Int
abbrev Ans := List (Spot × An)
def keyOf (s : Spot) : List Key := [Sum.inr s.1, Sum.inl s.2]
theorem keyOf_inj {s t : Spot} (h : keyOf s = keyOf t) : s = t := by
  unfold keyOf at h
  simp only [List.cons.injEq, Sum.inr.injEq, Sum.inl.injEq, and_true] at h
  exact Prod.ext h.1 h.2
def EN (H : Hp) (kv : List Key × V) (x : Spot × An) : Prop := kv.1 = keyOf x.1 ∧ AnO H kv.2 x.2 ∧ x.2.ok
def lookA (al : Ans) (s : Spot) : Option An := (al.find? fun y => decide (y.1 = s)).map (·.2)
def putA (al : Ans) (s : Spot) (x : An) : Ans := if (lookA al s).isSome then al.map (fun y => if y.1 = s then (y.1, x) else y) else al ++ [(s, x)]
/-- all but the tuples' dicts stands -/
def NT (H H' : Hp) : Prop := ∀ b o, (∀ kvs, o ≠ .dT kvs) → H b = some o → H' b = some o
theorem Same.nt {H H' : Hp} (e : Same H H') : NT H H' := fun b o _ h => e b o h
theorem NT.trans {H H1 H2 : Hp} (a : NT H H1) (b : NT H1 H2) : NT H H2 := fun c o n h => b c o n (a c o n h)
theorem NT.si {H H' : Hp} (e : NT H H') : SI H H' := fun b o k h => e b o (fun kvs z => by rw [z] at k; cases k) h
theorem NT.upd {H : Hp} {d : Addr} {kvs : List (List Key × V)} (h : H d = some (.dT kvs)) (o : HO) : NT H (L2.upd H d o) := fun b u n q => by
  rw [upd_ne (fun z => by rw [z, h] at q; exact n kvs (Option.some.inj q).symm)]
  exact q
theorem AnO.nt {H H' : Hp} (e : NT H H') {v : V} {x : An} (h : AnO H v x) : AnO H' v x := by
  cases h with
  | str => exact .str _
  | int => exact .int _
  | bl => exact .bl _
  | non => exact .non
  | tup h => exact .tup (e _ _ (fun _ z => nomatch z) h)
theorem AnO.keep {H H' : Hp} (k : ∀ c xs, H c = some (.tup xs) → H' c = some (.tup xs)) {v : V} {x : An} (h : AnO H v x) : AnO H' v x := by
  cases h with
  | str => exact .str _
  | int => exact .int _
  | bl => exact .bl _
  | non => exact .non
  | tup h => exact .tup (k _ _ h)
theorem SqT.nt {K : PySem.W.Frag} {H H' : Hp} (e : NT H H') {a : Addr} {xs : List V} (h : SqT K H a xs) : SqT K H' a xs := e.si.sqt h
theorem SpotAt.nt {H H' : Hp} (e : NT H H') {v : V} {s : Spot} (h : SpotAt H v s) : SpotAt H' v s := let ⟨p, h1, h2⟩ := h; ⟨p, h1, e _ _ (fun _ z => nomatch z) h2⟩
theorem FormO.nt {K : PySem.W.Frag} {H H' : Hp} (e : NT H H') {a : Addr} {rs : List Rw} (h : FormO K H a rs) : FormO K H' a rs := by
  obtain ⟨o, dx, t, d, d2, xs, kvs, kv2, h1, h2, h3, h4, h5, h6, h7⟩ := h
  exact ⟨o, dx, t, d, d2, xs, kvs, kv2, e _ _ (fun _ z => nomatch z) h1, e.si.sqt h2, ROs.si e.si h3, e _ _ (fun _ z => nomatch z) h4, L2.Paired.mapP h5 fun _ _ z => ⟨z.1, RO.si e.si z.2⟩, e _ _ (fun _ z => nomatch z) h6, h7⟩
theorem EN.keep {H H' : Hp} (k : ∀ c xs, H c = some (.tup xs) → H' c = some (.tup xs)) {kv : List Key × V} {x : Spot × An} (h : EN H kv x) : EN H' kv x := ⟨h.1, h.2.1.keep k, h.2.2⟩
theorem EN.nt {H H' : Hp} (e : NT H H') {kv : List Key × V} {x : Spot × An} (h : EN H kv x) : EN H' kv x := ⟨h.1, h.2.1.nt e, h.2.2⟩
/-- answers by their spots, in a dict at d -/
structure AD (H : Hp) (d : Addr) (kvs : List (List Key × V)) (al : Ans) : Prop where
  ents : Paired (EN H) kvs al
  nd : (al.map (·.1)).Nodup
theorem AD.nt {H H' : Hp} (e : NT H H') {d : Addr} {kvs : List (List Key × V)} {al : Ans} (h : AD H d kvs al) : AD H' d kvs al := ⟨L2.Paired.mapP h.ents fun _ _ z => z.nt e, h.nd⟩
theorem en_val {H : Hp} {s : Spot} : ∀ {kvs : List (List Key × V)} {al : Ans}, Paired (EN H) kvs al → match lookA al s with
    | some x => ∃ v, valV kvs (keyOf s) = some v ∧ AnO H v x ∧ x.ok
    | none => valV kvs (keyOf s) = none
  | _, _, .nil => rfl
  | _, _, .cons (a := kv) (b := y) h t => by
    unfold lookA
    rw [List.find?_cons]
    by_cases e : y.1 = s
    · rw [decide_eq_true e]
      exact ⟨kv.2, valV_pos (by rw [h.1, e]), h.2.1, h.2.2⟩
    · rw [decide_eq_false e]
      have ne : ¬ kv.1 = keyOf s := by rw [h.1]; exact fun q => e (keyOf_inj q)
      have ih := en_val (s := s) t
      rw [valV_neg ne]
      exact ih
theorem en_put {H : Hp} {kvs : List (List Key × V)} {al : Ans} {s : Spot} {v : V} {x : An} (h : Paired (EN H) kvs al) (hv : AnO H v x) (hx : x.ok) : Paired (EN H) (putK kvs (keyOf s) v) (putA al s x) := by
  have e : (kvs.any fun kv => decide (kv.1 = keyOf s)) = (lookA al s).isSome := by
    rw [valV_any]
    have := en_val (s := s) h
    cases hl : lookA al s with
    | none => rw [hl] at this; rw [this]; rfl
    | some y => rw [hl] at this; obtain ⟨u, hu, _⟩ := this; rw [hu]; rfl
  unfold putK putA
  rw [e]
  by_cases c : (lookA al s).isSome = true
  · rw [if_pos c, if_pos c]
    clear e c
    induction h with
    | nil => exact .nil
    | @cons kv y kvs al g _ ih =>
      rw [List.map_cons, List.map_cons]
      refine .cons ?_ ih
      by_cases k : y.1 = s
      · rw [if_pos k, if_pos (show kv.1 = keyOf s by rw [g.1, k])]
        exact ⟨g.1, hv, hx⟩
      · rw [if_neg k, if_neg (show ¬ kv.1 = keyOf s by rw [g.1]; exact fun q => k (keyOf_inj q))]
        exact g
  · rw [if_neg c, if_neg c]
    exact K3.Paired.app h (.cons ⟨rfl, hv, hx⟩ .nil)
theorem look_mem {al : Ans} {s : Spot} (h : lookA al s = none) : s ∉ al.map (·.1) := by
  intro z
  obtain ⟨y, hy, e⟩ := List.mem_map.mp z
  unfold lookA at h
  rw [Option.map_eq_none_iff, List.find?_eq_none] at h
  exact h y hy (decide_eq_true e)
theorem put_keys {al : Ans} {s : Spot} {x : An} : (putA al s x).map (·.1) = if (lookA al s).isSome then al.map (·.1) else al.map (·.1) ++ [s] := by
  unfold putA
  split
  · rw [List.map_map]
    congr 1
    funext y
    show (if y.1 = s then (y.1, x) else y).1 = y.1
    split <;> rfl
  · rw [List.map_append]
    rfl
theorem put_nd {al : Ans} {s : Spot} {x : An} (h : (al.map (·.1)).Nodup) : ((putA al s x).map (·.1)).Nodup := by
  rw [put_keys]
  split
  · exact h
  · rename_i c
    refine nodup_snoc h (look_mem ?_)
    cases e : lookA al s with
    | none => rfl
    | some y => rw [e] at c; exact absurd rfl c
theorem put_len {al : Ans} {s : Spot} {x : An} : (putA al s x).length ≤ al.length + 1 := by
  unfold putA
  split
  · rw [List.length_map]; omega
  · rw [List.length_append]; exact Nat.le_refl _
/-- an edition's number, rows and calls -/
structure Ed where
  num : Int
  rs : List Rw
  cs : List (Str × Str)
structure CallsO (K : PySem.W.Frag) (H : Hp) (t : Addr) (cs : List (Str × Str)) : Prop where
  at_ : ∃ ps : List Addr, SqT K H t (ps.map V.ref) ∧ Paired (fun p c => SqT K H p [.str c.1, .str c.2]) ps cs
theorem CallsO.nt {K : PySem.W.Frag} {H H' : Hp} (e : NT H H') {t : Addr} {cs : List (Str × Str)} (h : CallsO K H t cs) : CallsO K H' t cs := let ⟨ps, h1, h2⟩ := h.at_; ⟨ps, SqT.nt e h1, L2.Paired.mapP h2 fun _ _ z => SqT.nt e z⟩
theorem CallsO.same {K : PySem.W.Frag} {H H' : Hp} (e : Same H H') {t : Addr} {cs : List (Str × Str)} (h : CallsO K H t cs) : CallsO K H' t cs := h.nt (Same.nt e)
structure EdO (K : PySem.W.Frag) (H : Hp) (a : Addr) (e : Ed) : Prop where
  at_ : ∃ dx f t, H a = some (.ins (He.ga K "Edition") dx [("number", .int e.num), ("form", .ref f), ("calls", .ref t)]) ∧ FormO K H f e.rs ∧ CallsO K H t e.cs
  few : e.cs.length ≤ 1000
theorem EdO.nt {K : PySem.W.Frag} {H H' : Hp} (k : NT H H') {a : Addr} {e : Ed} (h : EdO K H a e) : EdO K H' a e := by
  obtain ⟨⟨dx, f, t, h1, h2, h3⟩, h4⟩ := h
  exact ⟨⟨dx, f, t, k _ _ (fun _ z => nomatch z) h1, h2.nt k, h3.nt k⟩, h4⟩
theorem EdO.same {K : PySem.W.Frag} {H H' : Hp} (k : Same H H') {a : Addr} {e : Ed} (h : EdO K H a e) : EdO K H' a e := h.nt (Same.nt k)
end K3
end Q3_part
section Q4_part
set_option Elab.async false
set_option linter.all false
set_option maxRecDepth 100000
set_option maxHeartbeats 1000000
set_option pp.deepTerms true
open PySem PySem.Spec PyProof.Rows L2
/-- go on as far as nothing is open -/
local macro_rules | `(tactic| walk_at "go") => `(tactic| repeat (first
  | with_reducible refine w_seq ?_ | with_reducible refine w_next ?_ | with_reducible refine w_set ?_ | with_reducible refine w_drop ?_ | with_reducible refine w_ret ?_ | with_reducible refine w_retN ?_
  | with_reducible refine w_if ?_ | ((with_reducible refine' w_var ?hv ?_); (case hv => exact rfl)) | with_reducible refine w_c ?_ | with_reducible refine w_nil ?_ | with_reducible refine w_cons ?_ | with_reducible refine w_op ?_ | with_reducible refine w_un ?_
  | with_reducible refine w_test ?_ | with_reducible refine w_tB ?_ | with_reducible refine w_not ?_ | with_reducible refine w_and ?_ | with_reducible refine w_or ?_ | with_reducible refine w_bl ?_
  | with_reducible refine w_andV ?_ | with_reducible refine w_orV ?_ | with_reducible refine w_notV ?_ | with_reducible refine w_ifE ?_ | with_reducible refine w_chain ?_ | with_reducible refine w_i0 ?_
  | with_reducible refine w_call ?_ | with_reducible refine w_callS ?_ | with_reducible refine w_cB ?_ | with_reducible refine w_tup ?_ | with_reducible refine w_lst ?_ | with_reducible refine w_fldV ?_
  | with_reducible refine w_neF ?_ | with_reducible refine w_neT ?_ | with_reducible refine w_notN ?_ | with_reducible refine w_isN ?_ | with_reducible refine w_gname ?_ | with_reducible refine w_gsub ?_ | with_reducible refine w_asg ?_ | with_reducible refine w_sl ?_ | with_reducible refine w_noP ?_ | with_reducible refine w_int1 ?_ | with_reducible refine w_part ?_ | with_reducible refine w_meth ?_ | with_reducible refine w_din ?_ | with_reducible refine w_dnotin ?_ | with_reducible refine w_dgt ?_ | with_reducible refine w_dget1 ?_ | with_reducible refine w_dget2 ?_ | with_reducible refine w_dput ?_ | with_reducible refine w_yes ?_ | with_reducible refine w_nT ?_ | with_reducible refine w_nF ?_ | with_reducible refine w_iteT ?_ | with_reducible refine w_iteF ?_))
namespace K3
end K3
end Q4_part
section Q5_part
set_option Elab.async false
set_option linter.all false
set_option maxRecDepth 100000
set_option maxHeartbeats 1000000
set_option pp.deepTerms true
open PySem PySem.Spec PyProof.Rows L2
/-- go on as far as nothing is open -/
local macro_rules | `(tactic| walk_at "go") => `(tactic| repeat (first
  | with_reducible refine w_seq ?_ | with_reducible refine w_next ?_ | with_reducible refine w_set ?_ | with_reducible refine w_drop ?_ | with_reducible refine w_ret ?_ | with_reducible refine w_retN ?_
  | with_reducible refine w_if ?_ | ((with_reducible refine' w_var ?hv ?_); (case hv => exact rfl)) | with_reducible refine w_c ?_ | with_reducible refine w_nil ?_ | with_reducible refine w_cons ?_ | with_reducible refine w_op ?_ | with_reducible refine w_un ?_
  | with_reducible refine w_test ?_ | with_reducible refine w_tB ?_ | with_reducible refine w_not ?_ | with_reducible refine w_and ?_ | with_reducible refine w_or ?_ | with_reducible refine w_bl ?_
  | with_reducible refine w_andV ?_ | with_reducible refine w_orV ?_ | with_reducible refine w_notV ?_ | with_reducible refine w_ifE ?_ | with_reducible refine w_chain ?_ | with_reducible refine w_i0 ?_
  | with_reducible refine w_call ?_ | with_reducible refine w_callS ?_ | with_reducible refine w_cB ?_ | with_reducible refine w_tup ?_ | with_reducible refine w_lst ?_ | with_reducible refine w_fldV ?_
  | with_reducible refine w_neF ?_ | with_reducible refine w_neT ?_ | with_reducible refine w_notN ?_ | with_reducible refine w_isN ?_ | with_reducible refine w_gname ?_ | with_reducible refine w_gsub ?_ | with_reducible refine w_asg ?_ | with_reducible refine w_sl ?_ | with_reducible refine w_noP ?_ | with_reducible refine w_int1 ?_ | with_reducible refine w_part ?_ | with_reducible refine w_meth ?_ | with_reducible refine w_din ?_ | with_reducible refine w_dnotin ?_ | with_reducible refine w_dgt ?_ | with_reducible refine w_dget1 ?_ | with_reducible refine w_dget2 ?_ | with_reducible refine w_dput ?_ | with_reducible refine w_yes ?_ | with_reducible refine w_nT ?_ | with_reducible refine w_nF ?_ | with_reducible refine w_iteT ?_ | with_reducible refine w_iteF ?_))
namespace L2
open PySem PySem.Spec PyProof.Rows
section
variable {X : Cx} {k : Nat} {f C : Addr} {ps : List Str} {sp : Sp} {x : Str} {e : Expr} {es : List Expr} {p pos : Pos} {t : TA}
/-- C(e, ..), nothing is raised -/
theorem pe_cls (M : Mk X.K C f) (O : Ok X.prog X.w X.K X.mg X.base k f ps sp) (hr : Room (k + 1) X.A) (hm : X.mg x = some (.ref C)) (ha : PA X (e :: es) t) (hg : Gl X x := by rfl) (hdb : (x == ("__debug__" : Str)) = false := by decide)
    (he : starEach (e :: es) X.env = (false, eval e X.env) :: starEach es X.env := by rfl) (hpl : (backTo pos (starEach es X.env)).any (·.1) = false := by rfl) :
    PE X (.Call (.Name x p) (e :: es) [] pos) (tMake C sp [] E0 t) := by
  obtain ⟨fd, F, b, kp⟩ := O.run
  exact pe_make M F hr hg hm b .nil passL ha hdb he hpl
theorem w_make {C : Addr} {sp : Sp} {dvs : List V} {E : XK} {t : TA} {σ : St} {H : Hp} {Q : VK} (h : t σ H fun vs H1 => ∀ x dx, H1 x = none → H1 dx = none → dx ≠ x → sp (.ref x :: (vs ++ dvs)) (upd (upd H1 dx (.own x)) x (.ins C dx [])) (fun v H2 => v = .non ∧ Q (.ref x) H2) E) : tMake C sp dvs E t σ H Q := h
end
end L2
namespace K3
theorem w_makeK {C : Addr} {n m : Nat} {sp : Sp} {gV : List V → List V → List V} {E : XK} {t tk : TA} {σ : L2.St} {H : Hp} {Q : VK} (h : t σ H fun vs H1 => tk σ H1 fun zs H2 => vs.length = n ∧ zs.length = m ∧ ∀ x dx, H2 x = none → H2 dx = none → dx ≠ x → sp (gV (.ref x :: vs) zs) (upd (upd H2 dx (.own x)) x (.ins C dx [])) (fun v H3 => v = .non ∧ Q (.ref x) H3) E) : tMakeK C n m sp gV E t tk σ H Q := h
theorem mkIT {K : PySem.W.Frag} {x f1 f2 f3 : Str} {v1 v3 : V} {l : Addr} {xs : List V} {H1 : Hp} {Q : VK} {E : XK} (hl : H1 l = some (.lst xs)) (q : ∀ a t H', H1 a = none → Same H1 H' → Ins K H' a x [(f1, v1), (f2, .ref t), (f3, v3)] → SqT K H' t xs → Q (.ref a) H') :
    ∀ a dx, H1 a = none → H1 dx = none → dx ≠ a → spIT K x f1 f2 f3 [.ref a, v1, .ref l, v3] (upd (upd H1 dx (.own a)) a (.ins (He.ga K x) dx [])) (fun v H2 => v = .non ∧ Q (.ref a) H2) E := by
  intro a dx ha hd hne
  have st : ∀ b o, H1 b = some o → upd (upd H1 dx (.own a)) a (.ins (He.ga K x) dx []) b = some o := fun b o hb => by rw [upd_ne (ne_of_none hb ha), upd_ne (ne_of_none hb hd)]; exact hb
  exact ⟨a, dx, l, v1, v3, xs, rfl, .inl (SqL.of (st _ _ hl)), upd_same, fun t H' h1 h2 h3 => ⟨rfl, q a t H' ha (fun b o hb => h3 b o (ne_of_none hb ha) (st b o hb)) ⟨dx, h1⟩ h2⟩⟩
theorem mkIS {K : PySem.W.Frag} {v3 : V} {l : Addr} {xs : List V} {H1 : Hp} {Q : VK} {E : XK} (hl : H1 l = some (.lst xs)) (q : ∀ a t H', H1 a = none → Same H1 H' → Ins K H' a "Section" [("rows", .ref t), ("where", v3)] → SqT K H' t xs → Q (.ref a) H') :
    ∀ a dx, H1 a = none → H1 dx = none → dx ≠ a → spIS K [.ref a, .ref l, v3] (upd (upd H1 dx (.own a)) a (.ins (He.ga K "Section") dx [])) (fun v H2 => v = .non ∧ Q (.ref a) H2) E := by
  intro a dx ha hd hne
  have st : ∀ b o, H1 b = some o → upd (upd H1 dx (.own a)) a (.ins (He.ga K "Section") dx []) b = some o := fun b o hb => by rw [upd_ne (ne_of_none hb ha), upd_ne (ne_of_none hb hd)]; exact hb
  exact ⟨a, dx, l, v3, xs, rfl, .inl (SqL.of (st _ _ hl)), upd_same, fun t H' h1 h2 h3 => ⟨rfl, q a t H' ha (fun b o hb => h3 b o (ne_of_none hb ha) (st b o hb)) ⟨dx, h1⟩ h2⟩⟩
theorem mkIK {K : PySem.W.Frag} {x : Str} {fs : List Str} {ws : List V} {H1 : Hp} {Q : VK} {E : XK} (hl : ws.length = fs.length) (q : ∀ a H', H1 a = none → Same H1 H' → Ins K H' a x (fs.zip ws) → Q (.ref a) H') :
    ∀ a dx, H1 a = none → H1 dx = none → dx ≠ a → spI K x fs (.ref a :: ws) (upd (upd H1 dx (.own a)) a (.ins (He.ga K x) dx [])) (fun v H2 => v = .non ∧ Q (.ref a) H2) E := by
  intro a dx ha hd hne
  refine ⟨a, dx, ws, rfl, hl, upd_same, fun H' h1 h2 => ⟨rfl, q a H' ha (fun b o hb => ?_) ⟨dx, h1⟩⟩⟩
  have nb : b ≠ a := ne_of_none hb ha
  exact h2 b o nb (by rw [upd_ne nb, upd_ne (ne_of_none hb hd)]; exact hb)
theorem ROs.app {K : PySem.W.Frag} {B : Hp} : ∀ {xs ys : List V} {rs ss : List Rw}, ROs K B xs rs → ROs K B ys ss → ROs K B (xs ++ ys) (rs ++ ss)
  | _, _, _, _, .nil, h => h
  | _, _, _, _, .cons a t, h => .cons a (ROs.app t h)
end K3
end Q5_part
section A1_part
set_option Elab.async false
set_option linter.all false
set_option maxRecDepth 100000
set_option maxHeartbeats 1000000
set_option pp.deepTerms true
open PySem PySem.Spec PyProof.Rows L2
/-- go on as far as nothing is open -/
local macro_rules | `(tactic| walk_at "go") => `(tactic| repeat (first
  | with_reducible refine w_seq ?_ | with_reducible refine w_next ?_ | with_reducible refine w_set ?_ | with_reducible refine w_drop ?_ | with_reducible refine w_ret ?_ | with_reducible refine w_retN ?_
  | with_reducible refine w_if ?_ | ((with_reducible refine' w_var ?hv ?_); (case hv => exact rfl)) | with_reducible refine w_c ?_ | with_reducible refine w_nil ?_ | with_reducible refine w_cons ?_ | with_reducible refine w_op ?_ | with_reducible refine w_un ?_
  | with_reducible refine w_test ?_ | with_reducible refine w_tB ?_ | with_reducible refine w_not ?_ | with_reducible refine w_and ?_ | with_reducible refine w_or ?_ | with_reducible refine w_bl ?_
  | with_reducible refine w_andV ?_ | with_reducible refine w_orV ?_ | with_reducible refine w_notV ?_ | with_reducible refine w_ifE ?_ | with_reducible refine w_chain ?_ | with_reducible refine w_i0 ?_
  | with_reducible refine w_call ?_ | with_reducible refine w_callS ?_ | with_reducible refine w_cB ?_ | with_reducible refine w_tup ?_ | with_reducible refine w_lst ?_ | with_reducible refine w_fldV ?_
  | with_reducible refine w_neF ?_ | with_reducible refine w_neT ?_ | with_reducible refine w_notN ?_ | with_reducible refine w_isN ?_ | with_reducible refine w_gname ?_ | with_reducible refine w_gsub ?_ | with_reducible refine w_asg ?_ | with_reducible refine w_sl ?_ | with_reducible refine w_noP ?_ | with_reducible refine w_int1 ?_ | with_reducible refine w_part ?_ | with_reducible refine w_meth ?_ | with_reducible refine w_din ?_ | with_reducible refine w_dnotin ?_ | with_reducible refine w_dgt ?_ | with_reducible refine w_dget1 ?_ | with_reducible refine w_dget2 ?_ | with_reducible refine w_dput ?_ | with_reducible refine w_yes ?_ | with_reducible refine w_nT ?_ | with_reducible refine w_nF ?_ | with_reducible refine w_iteT ?_ | with_reducible refine w_iteF ?_))
namespace K3
/-! ### digits -/
/-- the state that digits are taken from: the given number's rest, then two that are mixed -/
def Sd (H : Hp) (s : Addr) : Prop := ∃ a b c : Int, H s = some (.lst [.int a, .int b, .int c]) ∧ 0 ≤ b ∧ b < 4294967296 ∧ 0 ≤ c ∧ c < 4294967296
theorem Sd.same {H H' : Hp} {s : Addr} (h : Sd H s) (e : Same H H') : Sd H' s := let ⟨a, b, c, q, r⟩ := h; ⟨a, b, c, e _ _ q, r⟩
theorem Sd.src {H : Hp} {s : Addr} (h : Sd H s) : Src H s := let ⟨a, b, c, q, _⟩ := h; ⟨a, b, c, q⟩
theorem Sd.upd {H : Hp} {s p : Addr} (hs : Sd H s) (ne : p ≠ s) (o : HO) : Sd (L2.upd H p o) s := let ⟨a, b, c, h, r⟩ := hs; ⟨a, b, c, by rw [upd_ne ne.symm]; exact h, r⟩
theorem Sd.bm {H H' : Hp} {s : Addr} {M : List Addr} (h : Sd H s) (e : BM M H H') (k : s ∉ M) : Sd H' s := let ⟨a, b, c, q, r⟩ := h; ⟨a, b, c, e.at q k, r⟩
theorem Sd.ne {H : Hp} {s p : Addr} (h : Sd H s) (hp : H p = none) : p ≠ s := fun z => by
  obtain ⟨_, _, _, q, _⟩ := h
  rw [z, q] at hp
  cases hp
def spState (K : PySem.W.Frag) : Sp := fun vs H Q _ => ∃ c : Int, vs = [.int c] ∧ ∀ p H', H p = none → Same H H' → Sd H' p → Q (.ref p) H'
def spDigit (K : PySem.W.Frag) : Sp := fun vs H Q _ => ∃ (s : Addr) (m : Int), vs = [.ref s, .int m] ∧ Sd H s ∧ 0 < m ∧ m < 2 ^ 62 ∧ ∀ (r : Nat) H', (r : Int) < m → BM [s] H H' → Sd H' s → Q (.int (r : Int)) H'
theorem mul01 (x : Int) (z : Bool) : CMul x (if z = true then 1 else 0) := .inr (by cases z <;> decide)
section
variable {P : Program} {w : World} {K : PySem.W.Frag} {mg : Str → Option Value} {base : Heap}
theorem sc_state : FnScope ["_law_source"] ["_law_source"] (defScope s__law_state) := ⟨rfl, rfl, rfl, by decide +kernel, rfl, by decide +kernel, by decide +kernel⟩
theorem ok_state (T : Tx K mg) : Ok P w K mg base 1 (He.ga K "_law_state") ["_law_source"] (spState K) := by
  obtain ⟨fd, F⟩ := T.f__law_state
  refine ⟨fd, F.ok (k := 0) sc_state (fun vs H Q E h => ?_) (fun cdv A outer s_ H vs Q E hr h => ?_), F.bindsN fun _ _ _ _ _ _ us hl => match us, hl with | [_], _ => rfl, F.kp⟩
  · obtain ⟨c, rfl, q⟩ := h
    rfl
  obtain ⟨c, rfl, q⟩ := h
  have hu65 := K3.Room.units65 hr
  have hu70 := K3.Room.units70 hr
  have hu4 := K3.Room.units4 hr
  have hu64 := Nat.lt_of_succ_lt hu65
  have hu0 := Nat.lt_of_le_of_lt (Nat.le_add_right _ 65) hu65
  have hu1 := Nat.lt_of_le_of_lt (Nat.add_le_add_left (show 1 ≤ 65 by decide) _) hu65
  refine ⟨_, pss_cons (ps_set (i := 0) sc_state.nd rfl (Or.inl rfl) (pe_callB call_abs (by rfl) T.z_abs (by decide +kernel) (pa_cons (pv 0) pa_nil)))
      (pss_one (ps_ret (pe_lst (pa_cons (pe_op op_mul (pv 0) (pe_callTy call_int1 (by rfl) T.z_int (by decide +kernel) (pa_cons (pe_cmpR op_ge (pv 0) (pe_op op_pow pe_int pe_int) rfl) pa_nil))) (pa_cons (pe_op op_add (pe_op op_mod (pv 0) pe_int) pe_int) (pa_cons (pe_op op_mod (pv 0) pe_int) pa_nil)))))), ?_⟩
  walk_at "go"
  refine ⟨c, rfl, ?_⟩
  walk_at "go"
  refine w_i (by refine ⟨?_, ?_, ?_⟩ <;> decide) ?_
  walk_at "go"
  refine .inr ⟨_, rfl, ?_⟩
  walk_at "go"
  refine w_i (mul01 _ _) ?_
  walk_at "go"
  refine w_i (by decide) ?_
  walk_at "go"
  refine w_i (by decide) ?_
  walk_at "go"
  exact ⟨(by show 3 ≤ sizeLine; decide), fun p hp => q p _ hp (Same.new hp _) ⟨_, _, _, upd_same, by omega, by omega, by omega, by omega⟩⟩
theorem sc_digit : FnScope ["_law_state_here", "_law_base", "_law_found", "_law_more_here"] ["_law_state_here", "_law_base"] (defScope s__law_digit) := ⟨rfl, rfl, rfl, by decide +kernel, rfl, by decide +kernel, by decide +kernel⟩
theorem ok_digit (T : Tx K mg) : Ok P w K mg base 1 (He.ga K "_law_digit") ["_law_state_here", "_law_base"] (spDigit K) := by
  obtain ⟨fd, F⟩ := T.f__law_digit
  refine ⟨fd, F.ok (k := 0) sc_digit (fun vs H Q E h => ?_) (fun cdv A outer s_ H vs Q E hr h => ?_), F.bindsN fun _ _ _ _ _ _ us hl => match us, hl with | [_, _], _ => rfl, F.kp⟩
  · obtain ⟨s, m, rfl, ⟨a, b, c, hs, b0, b1, c0, c1⟩, m0, m1, q⟩ := h
    rfl
  obtain ⟨s, m, rfl, ⟨a, b, c, hs, b0, b1, c0, c1⟩, m0, m1, q⟩ := h
  have hu65 := K3.Room.units65 hr
  have hu70 := K3.Room.units70 hr
  have hu4 := K3.Room.units4 hr
  have hu64 := Nat.lt_of_succ_lt hu65
  have hu0 := Nat.lt_of_le_of_lt (Nat.le_add_right _ 65) hu65
  have hu1 := Nat.lt_of_le_of_lt (Nat.add_le_add_left (show 1 ≤ 65 by decide) _) hu65
  refine ⟨_, pss_cons (ps_if (pt_cmpR op_gt (pe_ix ix_list (pv 0) pe_int (fun _ _ => rfl)) pe_int (nomark _)) (pss_cons (ps_set (i := 2) sc_digit.nd rfl (Or.inl rfl) (pe_op op_mod (pe_ix ix_list (pv 0) pe_int (fun _ _ => rfl)) (pv 1)))
      (pss_cons (ps_asg (pe_op op_fdivW (pe_ix ix_list (pv 0) pe_int (fun _ _ => rfl)) (pv 1)) (pg_sub (pv 0) pe_int set_list))
      (pss_one (ps_ret (pv 2))))) pss_nil)
      (pss_cons (ps_set (i := 3) sc_digit.nd rfl (Or.inl rfl) (pe_op op_mul (pe_ix ix_list (pv 0) pe_int (fun _ _ => rfl)) (pe_op op_add (pe_op op_fdiv (pe_ix ix_list (pv 0) pe_int (fun _ _ => rfl)) pe_int) pe_int)))
      (pss_cons (ps_asg (pe_op op_add (pe_op op_mod (pe_op op_add (pv 3) (pe_ix ix_list (pv 0) pe_int (fun _ _ => rfl))) pe_int) pe_int) (pg_sub (pv 0) pe_int set_list))
      (pss_one (ps_ret (pe_op op_mod (pe_op op_fdiv (pe_ix ix_list (pv 0) pe_int (fun _ _ => rfl)) pe_int) (pv 1)))))), ?_⟩
  have dv : CDivW a m := wide_div (b := 64) m0 (by omega) (by decide) (by decide)
  have qq : ∀ {r : Int} {H' : Hp}, 0 ≤ r → r < m → BM [s] H H' → Sd H' s → Q (.int r) H' := fun {r H'} r0 r1 hb hs => by
    obtain ⟨n, rfl⟩ : ∃ n : Nat, r = (n : Int) := ⟨r.toNat, by omega⟩
    exact q n H' r1 hb hs
  walk_at "go"
  refine w_ixL hs rfl ?_
  walk_at "go"
  by_cases a0 : (0 : Int) < a
  · rw [show decide (a > 0) = true from decide_eq_true a0]
    walk_at "go"
    refine w_ixL hs rfl ?_
    walk_at "go"
    refine w_i m0 ?_
    walk_at "go"
    refine w_ixL hs rfl ?_
    walk_at "go"
    refine w_i dv ?_
    walk_at "go"
    refine w_setL hs rfl ?_
    walk_at "go"
    exact qq (Int.emod_nonneg _ (by omega)) (Int.emod_lt_of_pos _ m0) (BM.upd (List.mem_singleton.mpr rfl) _) ⟨_, _, _, upd_same, b0, b1, c0, c1⟩
  · rw [show decide (a > 0) = false from decide_eq_false a0]
    walk_at "go"
    refine w_ixL hs rfl ?_
    walk_at "go"
    refine w_ixL hs rfl ?_
    walk_at "go"
    refine w_i (by refine ⟨?_, ?_⟩ <;> decide) ?_
    walk_at "go"
    refine w_i (.inl ⟨by omega, by omega⟩) ?_
    walk_at "go"
    refine w_ixL hs rfl ?_
    walk_at "go"
    refine w_i (by decide) ?_
    walk_at "go"
    refine w_setL hs rfl ?_
    walk_at "go"
    refine w_ixL upd_same rfl ?_
    walk_at "go"
    refine w_i (by refine ⟨?_, ?_⟩ <;> decide) ?_
    walk_at "go"
    refine w_i m0 ?_
    exact qq (Int.emod_nonneg _ (by omega)) (Int.emod_lt_of_pos _ m0) (BM.upd (List.mem_singleton.mpr rfl) _) ⟨_, _, _, upd_same, by omega, by omega, c0, c1⟩
end
end K3
end A1_part
section A3_part
set_option Elab.async false
set_option linter.all false
set_option maxRecDepth 100000
set_option maxHeartbeats 1000000
set_option pp.deepTerms true
open PySem PySem.Spec PyProof.Rows L2
/-- go on as far as nothing is open -/
local macro_rules | `(tactic| walk_at "go") => `(tactic| repeat (first
  | with_reducible refine w_seq ?_ | with_reducible refine w_next ?_ | with_reducible refine w_set ?_ | with_reducible refine w_drop ?_ | with_reducible refine w_ret ?_ | with_reducible refine w_retN ?_
  | with_reducible refine w_if ?_ | ((with_reducible refine' w_var ?hv ?_); (case hv => exact rfl)) | with_reducible refine w_c ?_ | with_reducible refine w_nil ?_ | with_reducible refine w_cons ?_ | with_reducible refine w_op ?_ | with_reducible refine w_un ?_
  | with_reducible refine w_test ?_ | with_reducible refine w_tB ?_ | with_reducible refine w_not ?_ | with_reducible refine w_and ?_ | with_reducible refine w_or ?_ | with_reducible refine w_bl ?_
  | with_reducible refine w_andV ?_ | with_reducible refine w_orV ?_ | with_reducible refine w_notV ?_ | with_reducible refine w_ifE ?_ | with_reducible refine w_chain ?_ | with_reducible refine w_i0 ?_
  | with_reducible refine w_call ?_ | with_reducible refine w_callS ?_ | with_reducible refine w_cB ?_ | with_reducible refine w_tup ?_ | with_reducible refine w_lst ?_ | with_reducible refine w_fldV ?_
  | with_reducible refine w_neF ?_ | with_reducible refine w_neT ?_ | with_reducible refine w_notN ?_ | with_reducible refine w_isN ?_ | with_reducible refine w_gname ?_ | with_reducible refine w_gsub ?_ | with_reducible refine w_asg ?_ | with_reducible refine w_sl ?_ | with_reducible refine w_noP ?_ | with_reducible refine w_int1 ?_ | with_reducible refine w_part ?_ | with_reducible refine w_meth ?_ | with_reducible refine w_din ?_ | with_reducible refine w_dnotin ?_ | with_reducible refine w_dgt ?_ | with_reducible refine w_dget1 ?_ | with_reducible refine w_dget2 ?_ | with_reducible refine w_dput ?_ | with_reducible refine w_yes ?_ | with_reducible refine w_nT ?_ | with_reducible refine w_nF ?_ | with_reducible refine w_iteT ?_ | with_reducible refine w_iteF ?_))
namespace K3
/-! ### rows that stand, told by what is known ahead of them -/
inductive Kn where
  | one (n : Str) (os : List Str)
  | some (n : Str) (os : List Str)
  | num (n : Str) (lo hi : Int)
def Kn.name : Kn → Str
  | .one n _ => n | .some n _ => n | .num n _ _ => n
def Kn.row : Kn → Option Cd → Rw
  | .one n os, w => .one n os w
  | .some n os, w => .some n os w
  | .num n lo hi, w => .number n lo hi w
mutual
def Rw.kns : Rw → List Kn
  | .one n os _ => [.one n os]
  | .some n os _ => [.some n os]
  | .number n lo hi _ => [.num n lo hi]
  | .check _ _ _ => []
  | .sect rs _ => Rws.kns rs
  | .rounds _ _ _ => []
def Rws.kns : List Rw → List Kn
  | [] => []
  | r :: rs => Rw.kns r ++ Rws.kns rs
end
mutual
def Rw.nms : Rw → List Str
  | .one n _ _ => [n]
  | .some n _ _ => [n]
  | .number n _ _ _ => [n]
  | .check n _ _ => [n]
  | .sect rs _ => Rws.nms rs
  | .rounds _ rs _ => Rws.nms rs
def Rws.nms : List Rw → List Str
  | [] => []
  | r :: rs => Rw.nms r ++ Rws.nms rs
end
def SmV (ks : List Kn) : Cd → Prop
  | .is n o => ∃ os, Kn.one n os ∈ ks ∧ o ∈ os
  | .has n o => ∃ os, Kn.some n os ∈ ks ∧ o ∈ os
  | .over n _ => ∃ lo hi, Kn.num n lo hi ∈ ks
  | .under n _ => ∃ lo hi, Kn.num n lo hi ∈ ks
  | _ => False
def CV (ks : List Kn) (c : Cd) : Prop := ∀ s ∈ c.simp, SmV ks s
def WV (ks : List Kn) (w : Option Cd) : Prop := ∀ s ∈ owh w, SmV ks s
structure OsV (os : List Str) (m : Nat) : Prop where
  lo : 1 ≤ os.length
  hi : os.length ≤ m
  nd : os.Nodup
  nm : ∀ o ∈ os, isName o = true
mutual
def VR (ks : List Kn) (ins : Bool) : Rw → Prop
  | .one _ os w => OsV os 6 ∧ WV ks w
  | .some _ os w => OsV os 4 ∧ WV ks w
  | .number _ lo hi w => lo ≤ hi ∧ WV ks w
  | .check _ m w => CV ks m ∧ WV ks w
  | .sect rs w => rs ≠ [] ∧ VRs ks ins rs ∧ WV ks w
  | .rounds c rs w => ins = false ∧ rs ≠ [] ∧ (∃ hi, Kn.num c 0 hi ∈ ks ∧ hi ≤ 4) ∧ VRs ks true rs ∧ WV ks w
def VRs (ks : List Kn) (ins : Bool) : List Rw → Prop
  | [] => True
  | r :: rs => VR ks ins r ∧ VRs (ks ++ Rw.kns r) ins rs
end
/-! what stands ahead -/
def KnL (L : AL) (ar : Option Nat) (ks : List Kn) : Prop := ∀ k ∈ ks, ∃ w a, look L k.name = some (k.row w, a) ∧ (a = none ∨ a = ar)
theorem look_moreV {L M : AL} {z : Str} {x : Rw × Option Nat} (h : look L z = some x) : look (L ++ M) z = some x := by
  unfold look at *
  rw [List.find?_append]
  cases hf : L.find? (fun e => decide (e.1 = z)) with
  | none => rw [hf] at h; cases h
  | some e => rw [hf] at h; exact h
theorem look_outV {L M : AL} {z : Str} (h : look L z = none) (n : z ∉ M.map (·.1)) : look (L ++ M) z = none := by
  unfold look at *
  rw [Option.map_eq_none_iff, List.find?_eq_none] at *
  intro e he
  rcases List.mem_append.mp he with he | he
  · exact h e he
  · rw [decide_eq_true_eq]
    intro q
    exact n (q ▸ List.mem_map_of_mem he)
theorem look_endV {L : AL} {z : Str} {r : Rw} {a : Option Nat} (h : look L z = none) : look (L ++ [(z, r, a)]) z = some (r, a) := by
  unfold look at *
  rw [Option.map_eq_none_iff] at h
  rw [List.find?_append, h, Option.none_or, List.find?_cons, decide_eq_true rfl]
  rfl
theorem KnL.more {L M : AL} {ar : Option Nat} {ks : List Kn} (h : KnL L ar ks) : KnL (L ++ M) ar ks := fun k hk => let ⟨w, a, h1, h2⟩ := h k hk; ⟨w, a, look_moreV h1, h2⟩
theorem KnL.inn {L : AL} {ks : List Kn} (h : KnL L none ks) (ar : Option Nat) : KnL L ar ks := fun k hk => let ⟨w, a, h1, h2⟩ := h k hk; ⟨w, a, h1, .inl (h2.elim id id)⟩
theorem quest_V {L : AL} {z : Str} {r : Rw} {a ar : Option Nat} (h : look L z = some (r, a)) (q : r.isQ = true) (k : a = none ∨ a = ar) : quest L z ar = .inr r := by
  unfold quest
  rw [h]
  show (if r.isQ = true then (if a ≠ none ∧ a ≠ ar then _ else _) else _) = _
  rw [if_pos q, if_neg fun z => k.elim z.1 z.2]
theorem kn_q (k : Kn) (w : Option Cd) : (k.row w).isQ = true := by cases k <;> rfl
theorem sm_ck {L : AL} {ar : Option Nat} {ks : List Kn} (h : KnL L ar ks) {s : Cd} (hs : SmV ks s) : ckCond L ar s = none := by
  cases s with
  | is n o =>
    obtain ⟨os, h1, h2⟩ := hs
    obtain ⟨w, a, k1, k2⟩ := h _ h1
    unfold ckCond
    have e : quest L n ar = _ := quest_V k1 (kn_q _ _) k2
    rw [show (Cd.is n o).name = n from rfl, e]
    show (if decide (o ∈ os) = true then none else _) = none
    rw [if_pos (decide_eq_true h2)]
  | has n o =>
    obtain ⟨os, h1, h2⟩ := hs
    obtain ⟨w, a, k1, k2⟩ := h _ h1
    unfold ckCond
    have e : quest L n ar = _ := quest_V k1 (kn_q _ _) k2
    rw [show (Cd.has n o).name = n from rfl, e]
    show (if decide (o ∈ os) = true then none else _) = none
    rw [if_pos (decide_eq_true h2)]
  | over n x =>
    obtain ⟨lo, hi, h1⟩ := hs
    obtain ⟨w, a, k1, k2⟩ := h _ h1
    unfold ckCond
    have e : quest L n ar = _ := quest_V k1 (kn_q _ _) k2
    rw [show (Cd.over n x).name = n from rfl, e]
    rfl
  | under n x =>
    obtain ⟨lo, hi, h1⟩ := hs
    obtain ⟨w, a, k1, k2⟩ := h _ h1
    unfold ckCond
    have e : quest L n ar = _ := quest_V k1 (kn_q _ _) k2
    rw [show (Cd.under n x).name = n from rfl, e]
    rfl
  | no => exact hs.elim
  | both => exact hs.elim
  | either => exact hs.elim
theorem sms_ck {L : AL} {ar : Option Nat} {ks : List Kn} (h : KnL L ar ks) : ∀ {cs : List Cd}, (∀ s ∈ cs, SmV ks s) → ckConds L ar cs = none
  | [], _ => rfl
  | c :: cs, hc => by
    show thenF (ckCond L ar c) (ckConds L ar cs) = none
    rw [sm_ck h (hc c (List.mem_cons_self ..)), sms_ck h fun s hs => hc s (List.mem_cons_of_mem _ hs)]
    rfl
theorem dupOf_V : ∀ {os sn : List Str}, os.Nodup → (∀ o ∈ os, o ∉ sn) → dupOf sn os = none
  | [], _, _, _ => rfl
  | o :: os, sn, h, k => by
    rw [List.nodup_cons] at h
    unfold dupOf
    rw [if_neg (k o (List.mem_cons_self ..))]
    refine dupOf_V h.2 fun x hx z => ?_
    rcases List.mem_append.mp z with z | z
    · exact k x (List.mem_cons_of_mem _ hx) z
    · rw [List.mem_singleton.mp z] at hx
      exact h.1 hx
theorem names_V : ∀ {os : List Str}, (∀ o ∈ os, isName o = true) → namesF os = none
  | [], _ => rfl
  | o :: os, h => by
    have : nameF o = none := by unfold nameF; rw [h o (List.mem_cons_self ..)]; rfl
    show thenF (nameF o) (namesF os) = none
    rw [this, names_V fun x hx => h x (List.mem_cons_of_mem _ hx)]
    rfl
theorem OsV.opt {os : List Str} {m : Nat} (h : OsV os m) : optF os m = none := by
  have e2 : dupF os = none := by
    unfold dupF
    rw [dupOf_V h.nd fun _ _ z => List.not_mem_nil z]
    rfl
  unfold optF
  rw [if_pos ⟨h.lo, h.hi⟩, names_V h.nm, e2]
  rfl
theorem name_V {L : AL} {r : Rw} (hn : isName r.name = true) (hl : look L r.name = none) : ckName L r = none := by
  unfold ckName
  have e1 : nameF r.name = none := by unfold nameF; rw [hn]; rfl
  split
  · rw [e1, hl]
    rfl
  · rfl
theorem thenF_V {a b : Option Flt} (h : thenF a b = none) : a = none ∧ b = none := by
  cases a with
  | none => exact ⟨rfl, h⟩
  | some f => cases h
theorem alOf_V (F G : List (Rw × Option Nat)) : alOf (F ++ G) = alOf F ++ alOf G := List.filterMap_append
theorem al_one {r : Rw} (ar : Option Nat) (h : r.isN = true) : alOf [(r, ar)] = [(r.name, r, ar)] := by
  unfold alOf
  rw [List.filterMap_cons]
  simp only [h, if_true]
  rfl
theorem al_none {r : Rw} (ar : Option Nat) (h : r.isN = false) : alOf [(r, ar)] = [] := by
  unfold alOf
  rw [List.filterMap_cons]
  simp only [h]
  rfl
theorem ckRows_V : ∀ {F G : List (Rw × Option Nat)} {L : AL}, ckRows L F = none → ckRows (L ++ alOf F) G = none → ckRows L (F ++ G) = none
  | [], G, L, _, h => by
    have e : L ++ alOf [] = L := List.append_nil L
    rw [e] at h
    exact h
  | (r, ar) :: F, G, L, h1, h2 => by
    obtain ⟨a, b⟩ := thenF_V (show thenF (ckRow L r ar) (ckRows (if r.isN then L ++ [(r.name, r, ar)] else L) F) = none from h1)
    show thenF (ckRow L r ar) (ckRows (if r.isN then L ++ [(r.name, r, ar)] else L) (F ++ G)) = none
    rw [a]
    refine ckRows_V b ?_
    rw [show (r, ar) :: F = [(r, ar)] ++ F from rfl, alOf_V, ← List.append_assoc] at h2
    cases hr : r.isN with
    | true => rw [al_one ar hr] at h2; rw [if_pos rfl]; exact h2
    | false => rw [al_none ar hr, List.append_nil] at h2; rw [if_neg Bool.false_ne_true]; exact h2
theorem ckOne_V {L : AL} {r : Rw} {ar : Option Nat} (h : ckRow L r ar = none) : ckRows L [(r, ar)] = none := by
  show thenF (ckRow L r ar) none = none
  rw [h]
  rfl
/-- what rows add -/
structure AddV (L : AL) (F : List (Rw × Option Nat)) (ar : Option Nat) (ks new : List Kn) (zs : List Str) : Prop where
  ck : ckRows L F = none
  kn : KnL (L ++ alOf F) ar (ks ++ new)
  fr : ∀ z, look L z = none → z ∉ zs → look (L ++ alOf F) z = none
theorem AddV.app {L : AL} {F G : List (Rw × Option Nat)} {ar : Option Nat} {ks n1 n2 : List Kn} {z1 z2 : List Str} (a : AddV L F ar ks n1 z1) (b : AddV (L ++ alOf F) G ar (ks ++ n1) n2 z2) : AddV L (F ++ G) ar ks (n1 ++ n2) (z1 ++ z2) :=
  ⟨ckRows_V a.ck b.ck, by rw [alOf_V, ← List.append_assoc, ← List.append_assoc]; exact b.kn, fun z h n => by
    rw [alOf_V, ← List.append_assoc]
    exact b.fr z (a.fr z h fun k => n (List.mem_append_left _ k)) fun k => n (List.mem_append_right _ k)⟩
/-- a named row -/
theorem add_named {L : AL} {r : Rw} {ar : Option Nat} {ks new : List Kn} (hr : r.isN = true) (hk : KnL L ar ks) (hl : look L r.name = none) (hck : ckRow L r ar = none) (hnew : ∀ k ∈ new, k.name = r.name ∧ ∃ w, r = k.row w) : AddV L [(r, ar)] ar ks new [r.name] := by
  refine ⟨ckOne_V hck, fun k hk' => ?_, fun z h n => ?_⟩
  · rcases List.mem_append.mp hk' with h | h
    · exact (hk.more) k h
    · obtain ⟨e, w, hw⟩ := hnew k h
      refine ⟨w, ar, ?_, .inr rfl⟩
      rw [al_one ar hr, e, ← hw]
      exact look_endV hl
  · rw [al_one ar hr]
    exact look_outV h fun q => n (by simpa using q)
theorem add_bare {L : AL} {r : Rw} {ar : Option Nat} {ks : List Kn} (hr : r.isN = false) (hk : KnL L ar ks) (hck : ckRow L r ar = none) : AddV L [(r, ar)] ar ks [] [] := by
  refine ⟨ckOne_V hck, ?_, fun z h _ => ?_⟩
  · rw [List.append_nil, al_none ar hr, List.append_nil]; exact hk
  · rw [al_none ar hr, List.append_nil]; exact h
theorem conds_V {L : AL} {ar : Option Nat} {ks : List Kn} {r : Rw} (hk : KnL L ar ks) (h1 : ∀ s ∈ owh r.wh, SmV ks s) (h2 : ∀ s ∈ r.mu, SmV ks s) : ckConds L ar r.conds = none :=
  sms_ck hk fun s hs => (List.mem_append.mp hs).elim (h1 s) (h2 s)
mutual
theorem VR.add : ∀ (r : Rw) {L : AL} {ar : Option Nat} {k : Nat} {ks : List Kn} {ins : Bool}, VR ks ins r → (ins = false → ar = none) → KnL L ar ks → (∀ z ∈ Rw.nms r, look L z = none ∧ isName z = true) → (Rw.nms r).Nodup → AddV L (r.flat ar k) ar ks (Rw.kns r) (Rw.nms r)
  | .one n os w, L, ar, k, ks, ins, h, ha, hk, hn, nd => by
    rw [VR] at h
    obtain ⟨ho, hw⟩ := h
    rw [Rw.flat, Rw.kns, Rw.nms]
    rw [Rw.nms] at hn
    obtain ⟨h1, h2⟩ := hn n (List.mem_singleton.mpr rfl)
    refine add_named (r := .one n os w) rfl hk h1 ?_ fun k hk => by rw [List.mem_singleton.mp hk]; exact ⟨rfl, w, rfl⟩
    unfold ckRow
    have e1 : ckName L (.one n os w) = none := name_V h2 h1
    have e2 : ckOpt (.one n os w) = none := ho.opt
    rw [e1, e2, conds_V (r := .one n os w) hk hw fun s hs => (nomatch (show s ∈ ([] : List Cd) from hs))]
    rfl
  | .some n os w, L, ar, k, ks, ins, h, ha, hk, hn, nd => by
    rw [VR] at h
    obtain ⟨ho, hw⟩ := h
    rw [Rw.flat, Rw.kns, Rw.nms]
    rw [Rw.nms] at hn
    obtain ⟨h1, h2⟩ := hn n (List.mem_singleton.mpr rfl)
    refine add_named (r := .some n os w) rfl hk h1 ?_ fun k hk => by rw [List.mem_singleton.mp hk]; exact ⟨rfl, w, rfl⟩
    unfold ckRow
    have e1 : ckName L (.some n os w) = none := name_V h2 h1
    have e2 : ckOpt (.some n os w) = none := ho.opt
    rw [e1, e2, conds_V (r := .some n os w) hk hw fun s hs => (nomatch (show s ∈ ([] : List Cd) from hs))]
    rfl
  | .number n lo hi w, L, ar, k, ks, ins, h, ha, hk, hn, nd => by
    rw [VR] at h
    obtain ⟨ho, hw⟩ := h
    rw [Rw.flat, Rw.kns, Rw.nms]
    rw [Rw.nms] at hn
    obtain ⟨h1, h2⟩ := hn n (List.mem_singleton.mpr rfl)
    refine add_named (r := .number n lo hi w) rfl hk h1 ?_ fun k hk => by rw [List.mem_singleton.mp hk]; exact ⟨rfl, w, rfl⟩
    unfold ckRow
    have e1 : ckName L (.number n lo hi w) = none := name_V h2 h1
    have e3 : ckBound (.number n lo hi w) = none := by
      show (if hi < lo then _ else none) = none
      rw [if_neg (by omega)]
    rw [e1, e3, conds_V (r := .number n lo hi w) hk hw fun s hs => (nomatch (show s ∈ ([] : List Cd) from hs))]
    rfl
  | .check n m w, L, ar, k, ks, ins, h, ha, hk, hn, nd => by
    rw [VR] at h
    obtain ⟨ho, hw⟩ := h
    rw [Rw.flat, Rw.kns, Rw.nms]
    rw [Rw.nms] at hn
    obtain ⟨h1, h2⟩ := hn n (List.mem_singleton.mpr rfl)
    refine add_named (r := .check n m w) rfl hk h1 ?_ fun k hk => nomatch hk
    unfold ckRow
    have e1 : ckName L (.check n m w) = none := name_V h2 h1
    rw [e1, conds_V (r := .check n m w) hk hw fun s hs => ho s hs]
    rfl
  | .sect rs w, L, ar, k, ks, ins, h, ha, hk, hn, nd => by
    rw [VR] at h
    obtain ⟨ne, hrs, hw⟩ := h
    rw [Rw.flat, Rw.kns, Rw.nms]
    rw [Rw.nms] at hn nd
    have e4 : ckInner (.sect rs w) ar = none := by
      show (if rs.length = 0 then _ else none) = none
      rw [if_neg fun z => ne (List.length_eq_zero_iff.mp z)]
    have h1 : ckRow L (.sect rs w) ar = none := by
      unfold ckRow
      rw [e4, conds_V (r := .sect rs w) hk hw fun s hs => (nomatch (show s ∈ ([] : List Cd) from hs))]
      rfl
    have a := add_bare (r := .sect rs w) rfl hk h1
    have e0 : alOf [(Rw.sect rs w, ar)] = [] := rfl
    have b := VRs.add rs (L := L ++ alOf [(Rw.sect rs w, ar)]) (k := k + 1) (ks := ks ++ []) (by rw [List.append_nil]; exact hrs) ha a.kn (fun z hz => by rw [e0, List.append_nil]; exact hn z hz) nd
    exact a.app b
  | .rounds c rs w, L, ar, k, ks, ins, h, ha, hk, hn, nd => by
    rw [VR] at h
    obtain ⟨hi0, ne, ⟨hi, hc, h4⟩, hrs, hw⟩ := h
    have ea := ha hi0
    subst ea
    rw [Rw.flat, Rw.kns, Rw.nms]
    rw [Rw.nms] at hn nd
    have e4 : ckInner (.rounds c rs w) none = none := by
      show (if rs.length = 0 then _ else if (none : Option Nat) = none then none else _) = none
      rw [if_neg fun z => ne (List.length_eq_zero_iff.mp z), if_pos rfl]
    have e5 : ckCount L (.rounds c rs w) none = none := by
      obtain ⟨w', a', k1, k2⟩ := hk _ hc
      show (match quest L c none with | .inl f => some f | .inr q => fitN q) = none
      have e : quest L c none = _ := quest_V k1 (kn_q _ _) k2
      rw [e]
      show (if (0 : Int) < 0 then some (Flt.fit c) else if 4 < hi then some (Flt.fit c) else none) = none
      rw [if_neg (by decide), if_neg (by omega)]
    have h1 : ckRow L (.rounds c rs w) none = none := by
      unfold ckRow
      rw [e4, e5, conds_V (r := .rounds c rs w) hk hw fun s hs => (nomatch (show s ∈ ([] : List Cd) from hs))]
      rfl
    have e0 : alOf [(Rw.rounds c rs w, (none : Option Nat))] = [] := rfl
    have b := VRs.add rs (L := L) (ar := some k) (k := k + 1) (ks := ks) hrs (fun z => nomatch z) (hk.inn _) hn nd
    refine ⟨ckRows_V (F := [(.rounds c rs w, none)]) (ckOne_V h1) (by rw [e0, List.append_nil]; exact b.ck), ?_, fun z hz n => ?_⟩
    · rw [List.append_nil]; exact hk.more
    · rw [show (Rw.rounds c rs w, (none : Option Nat)) :: Rws.flat rs (some k) (k + 1) = [(.rounds c rs w, none)] ++ Rws.flat rs (some k) (k + 1) from rfl, alOf_V, e0, List.nil_append]
      exact b.fr z hz n
theorem VRs.add : ∀ (rs : List Rw) {L : AL} {ar : Option Nat} {k : Nat} {ks : List Kn} {ins : Bool}, VRs ks ins rs → (ins = false → ar = none) → KnL L ar ks → (∀ z ∈ Rws.nms rs, look L z = none ∧ isName z = true) → (Rws.nms rs).Nodup → AddV L (Rws.flat rs ar k) ar ks (Rws.kns rs) (Rws.nms rs)
  | [], L, ar, k, ks, ins, h, ha, hk, hn, nd => by
    rw [Rws.flat, Rws.kns, Rws.nms]
    exact ⟨rfl, by rw [List.append_nil]; exact hk.more, fun z h _ => by rw [show alOf [] = [] from rfl, List.append_nil]; exact h⟩
  | r :: rs, L, ar, k, ks, ins, h, ha, hk, hn, nd => by
    rw [VRs] at h
    obtain ⟨h1, h2⟩ := h
    rw [Rws.flat, Rws.kns, Rws.nms]
    rw [Rws.nms] at hn nd
    obtain ⟨n1, n2, n3⟩ := List.nodup_append.mp nd
    have a := VR.add r (L := L) (ar := ar) (k := k) h1 ha hk (fun z hz => hn z (List.mem_append_left _ hz)) n1
    have b := VRs.add rs (L := L ++ alOf (r.flat ar k)) (ar := ar) (k := k + r.cnt) h2 ha a.kn (fun z hz => ⟨a.fr z (hn z (List.mem_append_right _ hz)).1 fun q => n3 z q z hz rfl, (hn z (List.mem_append_right _ hz)).2⟩) n2
    exact a.app b
end
/-- rows that stand make a form -/
theorem form_V {rs : List Rw} (h : VRs [] false rs) (hn : ∀ z ∈ Rws.nms rs, isName z = true) (nd : (Rws.nms rs).Nodup) (c1 : 1 ≤ Rws.cnt rs) (c40 : Rws.cnt rs ≤ 40) : formF rs = none := by
  unfold formF
  rw [if_pos ⟨c1, c40⟩]
  exact (VRs.add rs (L := []) (ar := none) (k := 0) (ks := []) h (fun _ => rfl) (fun _ z => nomatch z) (fun z hz => ⟨rfl, hn z hz⟩) nd).ck
end K3
end A3_part
section A4_part
set_option Elab.async false
set_option linter.all false
set_option maxRecDepth 100000
set_option maxHeartbeats 1000000
set_option pp.deepTerms true
open PySem PySem.Spec PyProof.Rows L2
/-- go on as far as nothing is open -/
local macro_rules | `(tactic| walk_at "go") => `(tactic| repeat (first
  | with_reducible refine w_seq ?_ | with_reducible refine w_next ?_ | with_reducible refine w_set ?_ | with_reducible refine w_drop ?_ | with_reducible refine w_ret ?_ | with_reducible refine w_retN ?_
  | with_reducible refine w_if ?_ | ((with_reducible refine' w_var ?hv ?_); (case hv => exact rfl)) | with_reducible refine w_c ?_ | with_reducible refine w_nil ?_ | with_reducible refine w_cons ?_ | with_reducible refine w_op ?_ | with_reducible refine w_un ?_
  | with_reducible refine w_test ?_ | with_reducible refine w_tB ?_ | with_reducible refine w_not ?_ | with_reducible refine w_and ?_ | with_reducible refine w_or ?_ | with_reducible refine w_bl ?_
  | with_reducible refine w_andV ?_ | with_reducible refine w_orV ?_ | with_reducible refine w_notV ?_ | with_reducible refine w_ifE ?_ | with_reducible refine w_chain ?_ | with_reducible refine w_i0 ?_
  | with_reducible refine w_call ?_ | with_reducible refine w_callS ?_ | with_reducible refine w_cB ?_ | with_reducible refine w_tup ?_ | with_reducible refine w_lst ?_ | with_reducible refine w_fldV ?_
  | with_reducible refine w_neF ?_ | with_reducible refine w_neT ?_ | with_reducible refine w_notN ?_ | with_reducible refine w_isN ?_ | with_reducible refine w_gname ?_ | with_reducible refine w_gsub ?_ | with_reducible refine w_asg ?_ | with_reducible refine w_sl ?_ | with_reducible refine w_noP ?_ | with_reducible refine w_int1 ?_ | with_reducible refine w_part ?_ | with_reducible refine w_meth ?_ | with_reducible refine w_din ?_ | with_reducible refine w_dnotin ?_ | with_reducible refine w_dgt ?_ | with_reducible refine w_dget1 ?_ | with_reducible refine w_dget2 ?_ | with_reducible refine w_dput ?_ | with_reducible refine w_yes ?_ | with_reducible refine w_nT ?_ | with_reducible refine w_nF ?_ | with_reducible refine w_iteT ?_ | with_reducible refine w_iteF ?_))
namespace K3
/-! ### rows that stand when more is known -/
def Kn.rf : Kn → Kn → Prop
  | .one n os, .one m us => n = m ∧ ∀ o ∈ os, o ∈ us
  | .some n os, .some m us => n = m ∧ ∀ o ∈ os, o ∈ us
  | .num n lo hi, .num m lo' hi' => n = m ∧ (lo = 0 → lo' = 0 ∧ hi' = hi)
  | _, _ => False
theorem Kn.rf_refl : ∀ k : Kn, k.rf k
  | .one _ _ => ⟨rfl, fun _ h => h⟩
  | .some _ _ => ⟨rfl, fun _ h => h⟩
  | .num _ _ _ => ⟨rfl, fun h => ⟨h, rfl⟩⟩
def KsR (ks ls : List Kn) : Prop := ∀ k ∈ ks, ∃ l ∈ ls, k.rf l
theorem KsR.sub {ks ls : List Kn} (h : ∀ k ∈ ks, k ∈ ls) : KsR ks ls := fun k hk => ⟨k, h k hk, k.rf_refl⟩
theorem KsR.refl (ks : List Kn) : KsR ks ks := .sub fun _ h => h
theorem KsR.app {ks ls ms ns : List Kn} (a : KsR ks ls) (b : KsR ms ns) : KsR (ks ++ ms) (ls ++ ns) := fun k hk => by
  rcases List.mem_append.mp hk with h | h
  · obtain ⟨l, h1, h2⟩ := a k h; exact ⟨l, List.mem_append_left _ h1, h2⟩
  · obtain ⟨l, h1, h2⟩ := b k h; exact ⟨l, List.mem_append_right _ h1, h2⟩
theorem SmV.mono {ks ls : List Kn} (r : KsR ks ls) : ∀ {s : Cd}, SmV ks s → SmV ls s
  | .is n o, ⟨os, h1, h2⟩ => by
    obtain ⟨l, k1, k2⟩ := r _ h1
    cases l with
    | one m us => obtain ⟨rfl, k3⟩ := k2; exact ⟨us, k1, k3 o h2⟩
    | some => exact k2.elim
    | num => exact k2.elim
  | .has n o, ⟨os, h1, h2⟩ => by
    obtain ⟨l, k1, k2⟩ := r _ h1
    cases l with
    | some m us => obtain ⟨rfl, k3⟩ := k2; exact ⟨us, k1, k3 o h2⟩
    | one => exact k2.elim
    | num => exact k2.elim
  | .over n x, ⟨lo, hi, h1⟩ => by
    obtain ⟨l, k1, k2⟩ := r _ h1
    cases l with
    | num m lo' hi' => obtain ⟨rfl, _⟩ := k2; exact ⟨lo', hi', k1⟩
    | one => exact k2.elim
    | some => exact k2.elim
  | .under n x, ⟨lo, hi, h1⟩ => by
    obtain ⟨l, k1, k2⟩ := r _ h1
    cases l with
    | num m lo' hi' => obtain ⟨rfl, _⟩ := k2; exact ⟨lo', hi', k1⟩
    | one => exact k2.elim
    | some => exact k2.elim
  | .no _, h => h.elim
  | .both _ _, h => h.elim
  | .either _ _, h => h.elim
theorem CV.mono {ks ls : List Kn} (r : KsR ks ls) {c : Cd} (h : CV ks c) : CV ls c := fun s hs => (h s hs).mono r
theorem WV.mono {ks ls : List Kn} (r : KsR ks ls) {w : Option Cd} (h : WV ks w) : WV ls w := fun s hs => (h s hs).mono r
mutual
theorem VR.mono : ∀ (r : Rw) {ks ls : List Kn} {ins : Bool}, KsR ks ls → VR ks ins r → VR ls ins r
  | .one _ _ _, ks, ls, ins, r, h => by rw [VR] at h ⊢; exact ⟨h.1, h.2.mono r⟩
  | .some _ _ _, ks, ls, ins, r, h => by rw [VR] at h ⊢; exact ⟨h.1, h.2.mono r⟩
  | .number _ _ _ _, ks, ls, ins, r, h => by rw [VR] at h ⊢; exact ⟨h.1, h.2.mono r⟩
  | .check _ _ _, ks, ls, ins, r, h => by rw [VR] at h ⊢; exact ⟨h.1.mono r, h.2.mono r⟩
  | .sect rs _, ks, ls, ins, r, h => by rw [VR] at h ⊢; exact ⟨h.1, VRs.mono rs r h.2.1, h.2.2.mono r⟩
  | .rounds c rs _, ks, ls, ins, r, h => by
    rw [VR] at h ⊢
    obtain ⟨h1, h2, ⟨hi, h3, h4⟩, h5, h6⟩ := h
    refine ⟨h1, h2, ?_, VRs.mono rs r h5, h6.mono r⟩
    obtain ⟨l, k1, k2⟩ := r _ h3
    cases l with
    | num m lo' hi' =>
      obtain ⟨rfl, k3⟩ := k2
      obtain ⟨rfl, rfl⟩ := k3 rfl
      exact ⟨_, k1, h4⟩
    | one => exact k2.elim
    | some => exact k2.elim
theorem VRs.mono : ∀ (rs : List Rw) {ks ls : List Kn} {ins : Bool}, KsR ks ls → VRs ks ins rs → VRs ls ins rs
  | [], ks, ls, ins, r, h => by rw [VRs]; trivial
  | r :: rs, ks, ls, ins, k, h => by rw [VRs] at h ⊢; exact ⟨VR.mono r k h.1, VRs.mono rs (k.app (KsR.refl _)) h.2⟩
end
theorem kns_app : ∀ rs us : List Rw, Rws.kns (rs ++ us) = Rws.kns rs ++ Rws.kns us
  | [], us => by rw [List.nil_append, Rws.kns.eq_1, List.nil_append]
  | r :: rs, us => by rw [List.cons_append, Rws.kns, Rws.kns, kns_app rs us, List.append_assoc]
theorem nms_app : ∀ rs us : List Rw, Rws.nms (rs ++ us) = Rws.nms rs ++ Rws.nms us
  | [], us => by rw [List.nil_append, Rws.nms.eq_1, List.nil_append]
  | r :: rs, us => by rw [List.cons_append, Rws.nms, Rws.nms, nms_app rs us, List.append_assoc]
theorem VRs_app : ∀ (rs us : List Rw) {ks : List Kn} {ins : Bool}, VRs ks ins (rs ++ us) ↔ VRs ks ins rs ∧ VRs (ks ++ Rws.kns rs) ins us
  | [], us, ks, ins => by
    rw [List.nil_append, Rws.kns, List.append_nil]
    exact ⟨fun h => ⟨by rw [VRs]; trivial, h⟩, fun h => h.2⟩
  | r :: rs, us, ks, ins => by
    rw [List.cons_append, VRs, VRs, VRs_app rs us, Rws.kns, List.append_assoc]
    exact ⟨fun ⟨a, b, c⟩ => ⟨⟨a, b⟩, c⟩, fun ⟨⟨a, b⟩, c⟩ => ⟨a, b, c⟩⟩
theorem VRs_one (r : Rw) {ks : List Kn} {ins : Bool} : VRs ks ins [r] ↔ VR ks ins r := by
  rw [VRs, VRs]
  exact ⟨fun h => h.1, fun h => ⟨h, trivial⟩⟩
theorem nms_one (r : Rw) : Rws.nms [r] = Rw.nms r := by rw [Rws.nms, Rws.nms, List.append_nil]
end K3
end A4_part
section A5_part
set_option Elab.async false
set_option linter.all false
set_option maxRecDepth 100000
set_option maxHeartbeats 1000000
set_option pp.deepTerms true
open PySem PySem.Spec PyProof.Rows L2
/-- go on as far as nothing is open -/
local macro_rules | `(tactic| walk_at "go") => `(tactic| repeat (first
  | with_reducible refine w_seq ?_ | with_reducible refine w_next ?_ | with_reducible refine w_set ?_ | with_reducible refine w_drop ?_ | with_reducible refine w_ret ?_ | with_reducible refine w_retN ?_
  | with_reducible refine w_if ?_ | ((with_reducible refine' w_var ?hv ?_); (case hv => exact rfl)) | with_reducible refine w_c ?_ | with_reducible refine w_nil ?_ | with_reducible refine w_cons ?_ | with_reducible refine w_op ?_ | with_reducible refine w_un ?_
  | with_reducible refine w_test ?_ | with_reducible refine w_tB ?_ | with_reducible refine w_not ?_ | with_reducible refine w_and ?_ | with_reducible refine w_or ?_ | with_reducible refine w_bl ?_
  | with_reducible refine w_andV ?_ | with_reducible refine w_orV ?_ | with_reducible refine w_notV ?_ | with_reducible refine w_ifE ?_ | with_reducible refine w_chain ?_ | with_reducible refine w_i0 ?_
  | with_reducible refine w_call ?_ | with_reducible refine w_callS ?_ | with_reducible refine w_cB ?_ | with_reducible refine w_tup ?_ | with_reducible refine w_lst ?_ | with_reducible refine w_fldV ?_
  | with_reducible refine w_neF ?_ | with_reducible refine w_neT ?_ | with_reducible refine w_notN ?_ | with_reducible refine w_isN ?_ | with_reducible refine w_gname ?_ | with_reducible refine w_gsub ?_ | with_reducible refine w_asg ?_ | with_reducible refine w_sl ?_ | with_reducible refine w_noP ?_ | with_reducible refine w_int1 ?_ | with_reducible refine w_part ?_ | with_reducible refine w_meth ?_ | with_reducible refine w_din ?_ | with_reducible refine w_dnotin ?_ | with_reducible refine w_dgt ?_ | with_reducible refine w_dget1 ?_ | with_reducible refine w_dget2 ?_ | with_reducible refine w_dput ?_ | with_reducible refine w_yes ?_ | with_reducible refine w_nT ?_ | with_reducible refine w_nF ?_ | with_reducible refine w_iteT ?_ | with_reducible refine w_iteF ?_))
namespace K3
/-! ### the law's own data: tuples and lists that stay -/
inductive DC (B : Hp) : V → Cd → Prop where
  | is {t n o} : B t = some (.tup [.str "is", .str n, .str o]) → DC B (.ref t) (.is n o)
  | has {t n o} : B t = some (.tup [.str "has", .str n, .str o]) → DC B (.ref t) (.has n o)
  | over {t n k} : B t = some (.tup [.str "above", .str n, .int k]) → DC B (.ref t) (.over n k)
  | under {t n k} : B t = some (.tup [.str "below", .str n, .int k]) → DC B (.ref t) (.under n k)
  | no {t v c} : B t = some (.tup [.str "not", v]) → DC B v c → DC B (.ref t) (.no c)
  | both {t v u c d} : B t = some (.tup [.str "both", v, u]) → DC B v c → DC B u d → DC B (.ref t) (.both c d)
  | either {t v u c d} : B t = some (.tup [.str "either", v, u]) → DC B v c → DC B u d → DC B (.ref t) (.either c d)
theorem DC.same {B B' : Hp} (e : Same B B') : ∀ {c : Cd} {v : V}, DC B v c → DC B' v c := by
  intro c v h
  induction h with
  | is h => exact .is (e _ _ h)
  | has h => exact .has (e _ _ h)
  | over h => exact .over (e _ _ h)
  | under h => exact .under (e _ _ h)
  | no h _ i => exact .no (e _ _ h) i
  | both h _ _ i j => exact .both (e _ _ h) i j
  | either h _ _ i j => exact .either (e _ _ h) i j
inductive DW (B : Hp) : V → Option Cd → Prop where
  | none : DW B .non none
  | some {v c} : DC B v c → DW B v (some c)
theorem DW.same {B B' : Hp} (e : Same B B') {c : Option Cd} {v : V} (h : DW B v c) : DW B' v c := by
  cases h with
  | none => exact .none
  | some h => exact .some (h.same e)
mutual
inductive DR (B : Hp) : V → Rw → Prop where
  | one {t l n os w wv} : B t = some (.tup [.str "one", .str n, .ref l, wv]) → B l = some (.lst (os.map V.str)) → DW B wv w → DR B (.ref t) (.one n os w)
  | some {t l n os w wv} : B t = some (.tup [.str "some", .str n, .ref l, wv]) → B l = some (.lst (os.map V.str)) → DW B wv w → DR B (.ref t) (.some n os w)
  | number {t n lo hi w wv} : B t = some (.tup [.str "number", .str n, .int lo, .int hi, wv]) → DW B wv w → DR B (.ref t) (.number n lo hi w)
  | check {t n mv m w wv} : B t = some (.tup [.str "check", .str n, mv, wv]) → DC B mv m → DW B wv w → DR B (.ref t) (.check n m w)
  | sect {t l xs rs w wv} : B t = some (.tup [.str "section", .ref l, wv]) → B l = some (.lst xs) → DRs B xs rs → DW B wv w → DR B (.ref t) (.sect rs w)
  | rounds {t l n xs rs w wv} : B t = some (.tup [.str "rounds", .str n, .ref l, wv]) → B l = some (.lst xs) → DRs B xs rs → DW B wv w → DR B (.ref t) (.rounds n rs w)
inductive DRs (B : Hp) : List V → List Rw → Prop where
  | nil : DRs B [] []
  | cons {v vs r rs} : DR B v r → DRs B vs rs → DRs B (v :: vs) (r :: rs)
end
mutual
theorem DR.same {B B' : Hp} (e : Same B B') : ∀ {r : Rw} {v : V}, DR B v r → DR B' v r
  | _, _, .one h l w => .one (e _ _ h) (e _ _ l) (w.same e)
  | _, _, .some h l w => .some (e _ _ h) (e _ _ l) (w.same e)
  | _, _, .number h w => .number (e _ _ h) (w.same e)
  | _, _, .check h m w => .check (e _ _ h) (m.same e) (w.same e)
  | _, _, .sect h l rs w => .sect (e _ _ h) (e _ _ l) (DRs.same e rs) (w.same e)
  | _, _, .rounds h l rs w => .rounds (e _ _ h) (e _ _ l) (DRs.same e rs) (w.same e)
theorem DRs.same {B B' : Hp} (e : Same B B') : ∀ {rs : List Rw} {vs : List V}, DRs B vs rs → DRs B' vs rs
  | _, _, .nil => .nil
  | _, _, .cons h t => .cons (DR.same e h) (DRs.same e t)
end
inductive KE (B : Hp) : V → Kn → Prop where
  | one {t l n os} : B t = some (.tup [.str n, .str "one", .ref l]) → B l = some (.lst (os.map V.str)) → 0 < os.length → os.length ≤ 6 → KE B (.ref t) (.one n os)
  | some {t l n os} : B t = some (.tup [.str n, .str "some", .ref l]) → B l = some (.lst (os.map V.str)) → 0 < os.length → os.length ≤ 6 → KE B (.ref t) (.some n os)
  | num {t t2 n lo hi} : B t = some (.tup [.str n, .str "number", .ref t2]) → B t2 = some (.tup [.int lo, .int hi]) → lo ≤ hi → hi ≤ lo + 8 → KE B (.ref t) (.num n lo hi)
theorem KE.same {B B' : Hp} (e : Same B B') {k : Kn} {v : V} (h : KE B v k) : KE B' v k := by
  cases h with
  | one h l a b => exact .one (e _ _ h) (e _ _ l) a b
  | some h l a b => exact .some (e _ _ h) (e _ _ l) a b
  | num h l a b => exact .num (e _ _ h) (e _ _ l) a b
/-- the list of those known, at kn -/
def KL (M : List Addr) (H : Hp) (kn : Addr) (ks : List Kn) : Prop := ∃ xs, H kn = some (.lst xs) ∧ Paired (KE (less H M)) xs ks
theorem KL.bm {M N : List Addr} {H H' : Hp} {kn : Addr} {ks : List Kn} (h : KL M H kn ks) (e : BM N H H') (k : kn ∉ N) (s : ∀ b ∈ N, b ∈ M) : KL M H' kn ks := by
  obtain ⟨xs, h1, h2⟩ := h
  exact ⟨xs, e.at h1 k, L2.Paired.mapP h2 fun _ _ q => q.same (e.mono s).less⟩
/-- what stands ahead of a draw: the state, what is known; M may change -/
structure Ah (M : List Addr) (H : Hp) (s kn : Addr) (ks : List Kn) : Prop where
  src : Sd H s
  kl : KL M H kn ks
  sm : s ∈ M
  ne : kn ≠ s
  len : ks.length ≤ 60
theorem Ah.bm {M : List Addr} {H H' : Hp} {s kn : Addr} {ks : List Kn} (h : Ah M H s kn ks) (e : BM [s] H H') (hs : Sd H' s) : Ah M H' s kn ks :=
  ⟨hs, h.kl.bm e (by simpa using h.ne) (fun b hb => by rw [List.mem_singleton.mp hb]; exact h.sm), h.sm, h.ne, h.len⟩
theorem Ah.same {M : List Addr} {H H' : Hp} {s kn : Addr} {ks : List Kn} (h : Ah M H s kn ks) (e : Same H H') : Ah M H' s kn ks := h.bm (BM.of e) (h.src.same e)
/-- a condition drawn -/
def RetD (M : List Addr) (s : Addr) (ks : List Kn) (d : Nat) (H : Hp) (Q : VK) : Prop := ∀ v H' c, BM [s] H H' → Sd H' s → DC (less H' M) v c → CV ks c → c.dep ≤ d → c.simp.length ≤ 2 ^ d → Q v H'
def spSimple (K : PySem.W.Frag) : Sp := fun vs H Q _ => ∃ (M : List Addr) (s kn : Addr) (ks : List Kn), vs = [.ref s, .ref kn] ∧ In M H ∧ Ah M H s kn ks ∧ 0 < ks.length ∧ RetD M s ks 0 H Q
theorem w_eTA {x y : V} (h : x = y) {A B : Prop} (q : A) : ∃ k, V.bl (decide (x = y)) = V.bl k ∧ if k = true then A else B := ⟨_, rfl, by rw [decide_eq_true h]; exact iteT q⟩
theorem w_eFA {x y : V} (h : x ≠ y) {A B : Prop} (q : B) : ∃ k, V.bl (decide (x = y)) = V.bl k ∧ if k = true then A else B := ⟨_, rfl, by rw [decide_eq_false h]; exact iteF q⟩
theorem at_inA {xs : List V} {r : Nat} (h : r < xs.length) : ∃ v, atI xs (r : Int) = some v ∧ xs[r]? = some v ∧ v ∈ xs := ⟨_, atI_nat (List.getElem?_eq_getElem h), List.getElem?_eq_getElem h, List.getElem_mem h⟩
section
variable {P : Program} {w : World} {K : PySem.W.Frag} {mg : Str → Option Value} {base : Heap}
theorem sc_simple : FnScope ["_law_s", "_law_known", "_law_name", "_law_kind", "_law_some"] ["_law_s", "_law_known"] (defScope s__law_simple) := ⟨rfl, rfl, rfl, by decide +kernel, rfl, by decide +kernel, by decide +kernel⟩
theorem ok_simple (T : Tx K mg) : Ok P w K mg base 2 (He.ga K "_law_simple") ["_law_s", "_law_known"] (spSimple K) := by
  obtain ⟨fd, F⟩ := T.f__law_simple
  have O_law_digit := ok_digit (P := P) (w := w) (base := base) T
  refine ⟨fd, F.ok (k := 1) sc_simple (fun vs H Q E h => ?_) (fun cdv A outer s_ H vs Q E hr h => ?_), F.bindsN fun _ _ _ _ _ _ us hl => match us, hl with | [_, _], _ => rfl, F.kp⟩
  · obtain ⟨M, s, kn, ks, rfl, hM, hA, hk, q⟩ := h
    rfl
  obtain ⟨M, s, kn, ks, rfl, hM, hA, hk, q⟩ := h
  have hu65 := K3.Room.units65 hr
  have hu70 := K3.Room.units70 hr
  have hu4 := K3.Room.units4 hr
  have hu64 := Nat.lt_of_succ_lt hu65
  have hu0 := Nat.lt_of_le_of_lt (Nat.le_add_right _ 65) hu65
  have hu1 := Nat.lt_of_le_of_lt (Nat.add_le_add_left (show 1 ≤ 65 by decide) _) hu65
  have r_law_digit : Room 1 _ := hr.mono (by decide)
  refine ⟨_, pss_cons (ps_asg (pe_ix ix_list (pv 1) (pe_f O_law_digit r_law_digit T.g__law_digit (pa_cons (pv 0) (pa_cons (pe_callB call_len_seq (by rfl) T.z_len PySem.boot_len (pa_cons (pv 1) pa_nil)) pa_nil))) (fun _ _ => rfl)) (pg_tup (by rfl) (pgs_cons (pg_name (i := 2) sc_simple.nd rfl (Or.inl rfl)) (pgs_cons (pg_name (i := 3) sc_simple.nd rfl (Or.inl rfl)) (pgs_cons (pg_name (i := 4) sc_simple.nd rfl (Or.inl rfl)) pgs_nil)))))
      (pss_cons (ps_if (pt_cmpR op_eq (pv 3) pe_str (nomark _)) (pss_one (ps_ret (pe_tup (pa_cons pe_str (pa_cons (pv 2) (pa_cons (pe_ix ix_list (pv 4) (pe_f O_law_digit r_law_digit T.g__law_digit (pa_cons (pv 0) (pa_cons (pe_callB call_len_seq (by rfl) T.z_len PySem.boot_len (pa_cons (pv 4) pa_nil)) pa_nil))) (fun _ _ => rfl)) pa_nil)))))) pss_nil)
      (pss_cons (ps_if (pt_cmpR op_eq (pv 3) pe_str (nomark _)) (pss_one (ps_ret (pe_tup (pa_cons pe_str (pa_cons (pv 2) (pa_cons (pe_ix ix_list (pv 4) (pe_f O_law_digit r_law_digit T.g__law_digit (pa_cons (pv 0) (pa_cons (pe_callB call_len_seq (by rfl) T.z_len PySem.boot_len (pa_cons (pv 4) pa_nil)) pa_nil))) (fun _ _ => rfl)) pa_nil)))))) pss_nil)
      (pss_one (ps_ret (pe_tup (pa_cons (pe_ix ix_list (pe_lst (pa_cons pe_str (pa_cons pe_str pa_nil))) (pe_f O_law_digit r_law_digit T.g__law_digit (pa_cons (pv 0) (pa_cons pe_int pa_nil))) (fun _ _ => rfl)) (pa_cons (pv 2) (pa_cons (pe_op op_sub (pe_op op_add (pe_ix ix_tup (pv 4) pe_int (fun _ _ => rfl)) (pe_f O_law_digit r_law_digit T.g__law_digit (pa_cons (pv 0) (pa_cons (pe_op op_add (pe_op op_sub (pe_ix ix_tup (pv 4) pe_int (fun _ _ => rfl)) (pe_ix ix_tup (pv 4) pe_int (fun _ _ => rfl))) pe_int) pa_nil)))) pe_int) pa_nil)))))))), ?_⟩
  obtain ⟨xs, hx, hp⟩ := hA.kl
  have lp := hp.length
  have l60 := hA.len
  walk_at "go"
  refine ⟨kn, _, rfl, .inl (SqL.of hx), ?_⟩
  walk_at "go"
  refine ⟨s, _, rfl, hA.src, by omega, by omega, fun r1 H1 hr1 e1 s1 => ?_⟩
  obtain ⟨v, hv, hv2, _⟩ := at_inA (xs := xs) (r := r1) (by omega)
  refine w_ixL (e1.at hx (by simpa using hA.ne)) hv ?_
  obtain ⟨k, hk1, hke⟩ := K3.Paired.get hp hv2
  have km : k ∈ ks := List.mem_of_getElem? hk1
  have eM : BM M H H1 := e1.mono fun b hb => by rw [List.mem_singleton.mp hb]; exact hA.sm
  have hke1 := hke.same eM.less
  have ns : ∀ {p : Addr} {o : HO}, less H1 M p = some o → p ≠ s := fun {p o} h z => (less_at h).2 (by rw [z]; exact hA.sm)
  -- a question with options
  have opts : ∀ (l : Addr) (n nk : Str) (os : List Str) (C : Str → Str → Cd) (H2 : Hp), Same H1 H2 → (∀ a b, (C a b).dep = 0) → (∀ a b, (C a b).simp = [C a b]) → (∀ o ∈ os, SmV ks (C n o)) → (∀ (B : Hp) (t : Addr) (a b : Str), B t = some (.tup [.str nk, .str a, .str b]) → DC B (.ref t) (C a b)) → less H1 M l = some (.lst (os.map V.str)) → 0 < os.length → os.length ≤ 6 →
      spDigit K [V.ref s, .int ((os.map V.str).length : Int)] H2 (fun y H3 => rIxL K (V.ref l) y H3 fun x H4 => [V.str nk, .str n, x].length ≤ sizeLine ∧ ∀ p, H4 p = none → Q (.ref p) (upd H4 p (.tup [V.str nk, .str n, x]))) E0 := by
    intro l n nk os C H2 e2 hd hs hv hc hl o0 o6
    refine ⟨s, _, rfl, s1.same e2, by rw [List.length_map]; omega, by rw [List.length_map]; omega, fun r3 H3 hr3 e3 s3 => ?_⟩
    rw [List.length_map] at hr3
    have lr : r3 < os.length := by omega
    refine w_ixL (e3.at (e2 _ _ (less_at hl).1) (by simpa using ns hl)) (atI_nat (show (os.map V.str)[r3]? = some (V.str os[r3]) by rw [List.getElem?_map, List.getElem?_eq_getElem lr]; rfl)) ?_
    refine ⟨(by show 3 ≤ sizeLine; decide), fun t3 ht3 => ?_⟩
    have e4 : BM [s] H (upd H3 t3 (.tup [.str nk, .str n, .str os[r3]])) := ((e1.same e2).trans e3).same (Same.new ht3 _)
    refine q _ _ (C n os[r3]) e4 (s3.same (Same.new ht3 _)) (hc _ _ _ _ (less_of upd_same ((hM.bm ((e1.same e2).trans e3)).new ht3))) (fun x hx => ?_) (by rw [hd]; exact Nat.le_refl _) (by rw [hs]; show 1 ≤ 1; exact Nat.le_refl 1)
    rw [hs] at hx
    rw [List.mem_singleton.mp hx]
    exact hv _ (List.getElem_mem lr)
  cases hke1 with
  | @one t l n os a1 a2 a3 a4 =>
    refine ⟨t, _, rfl, SqT.of (less_at a1).1, rfl, _, _, rfl, _, _, rfl, _, _, rfl, rfl, ?_⟩
    dsimp only
    walk_at "go"
    refine ⟨rfl, ?_⟩
    refine w_eTA rfl ?_
    walk_at "go"
    refine ⟨l, _, rfl, .inl (SqL.of (less_at a2).1), ?_⟩
    walk_at "go"
    exact opts l n "is" os .is H1 (Same.refl _) (fun _ _ => rfl) (fun _ _ => rfl) (fun o ho => ⟨os, km, ho⟩) (fun _ _ _ _ h => .is h) a2 a3 a4
  | @some t l n os a1 a2 a3 a4 =>
    refine ⟨t, _, rfl, SqT.of (less_at a1).1, rfl, _, _, rfl, _, _, rfl, _, _, rfl, rfl, ?_⟩
    dsimp only
    walk_at "go"
    refine ⟨rfl, ?_⟩
    refine w_eFA (by decide) ?_
    walk_at "go"
    refine ⟨rfl, ?_⟩
    refine w_eTA rfl ?_
    walk_at "go"
    refine ⟨l, _, rfl, .inl (SqL.of (less_at a2).1), ?_⟩
    walk_at "go"
    exact opts l n "has" os .has H1 (Same.refl _) (fun _ _ => rfl) (fun _ _ => rfl) (fun o ho => ⟨os, km, ho⟩) (fun _ _ _ _ h => .has h) a2 a3 a4
  | @num t t2 n lo hi a1 a2 a3 a4 =>
    refine ⟨t, _, rfl, SqT.of (less_at a1).1, rfl, _, _, rfl, _, _, rfl, _, _, rfl, rfl, ?_⟩
    dsimp only
    walk_at "go"
    refine ⟨rfl, ?_⟩
    refine w_eFA (by decide) ?_
    walk_at "go"
    refine ⟨rfl, ?_⟩
    refine w_eFA (by decide) ?_
    walk_at "go"
    refine ⟨(by show 2 ≤ sizeLine; decide), fun p hp2 => ?_⟩
    have e2 : Same H1 (upd H1 p (.lst [.str "above", .str "below"])) := Same.new hp2 _
    have g2 : (upd H1 p (.lst [.str "above", .str "below"])) p = some (.lst [V.str "above", .str "below"]) := upd_same
    have ps := s1.ne hp2
    generalize upd H1 p (.lst [.str "above", .str "below"]) = H2 at e2 g2 ⊢
    walk_at "go"
    refine ⟨s, 2, rfl, s1.same e2, by decide, by decide, fun r3 H3 hr3 e3 s3 => ?_⟩
    have hp3 := e3.at g2 (by simpa using ps)
    have ht3 : H3 t2 = some (.tup [.int lo, .int hi]) := e3.at (e2 _ _ (less_at a2).1) (by simpa using ns a2)
    obtain ⟨nk, C, hnk, hd, hs, hc, hv⟩ : ∃ (nk : Str) (C : Str → Int → Cd), atI [V.str "above", .str "below"] (r3 : Int) = some (.str nk) ∧ (∀ a b, (C a b).dep = 0) ∧ (∀ a b, (C a b).simp = [C a b]) ∧ (∀ (B : Hp) (t : Addr) (a : Str) (b : Int), B t = some (.tup [.str nk, .str a, .int b]) → DC B (.ref t) (C a b)) ∧ ∀ b, SmV ks (C n b) := by
      have : r3 = 0 ∨ r3 = 1 := by omega
      rcases this with rfl | rfl
      · exact ⟨"above", .over, rfl, fun _ _ => rfl, fun _ _ => rfl, fun _ _ _ _ h => .over h, fun _ => ⟨lo, hi, km⟩⟩
      · exact ⟨"below", .under, rfl, fun _ _ => rfl, fun _ _ => rfl, fun _ _ _ _ h => .under h, fun _ => ⟨lo, hi, km⟩⟩
    refine w_ixL hp3 hnk ?_
    walk_at "go"
    refine w_ixT (SqT.of ht3) rfl ?_
    walk_at "go"
    refine w_ixT (SqT.of ht3) rfl ?_
    walk_at "go"
    refine w_ixT (SqT.of ht3) rfl ?_
    walk_at "go"
    refine ⟨s, _, rfl, s3, by omega, by omega, fun r4 H4 hr4 e4 s4 => ?_⟩
    walk_at "go"
    refine ⟨(by show 3 ≤ sizeLine; decide), fun t5 ht5 => ?_⟩
    have e5 := ((e1.same e2).trans e3).trans e4
    refine q _ _ (C n _) (e5.same (Same.new ht5 _)) (s4.same (Same.new ht5 _)) (hc _ _ _ _ (less_of upd_same ((hM.bm e5).new ht5))) (fun x hx => ?_) (by rw [hd]; exact Nat.le_refl _) (by rw [hs]; show 1 ≤ 1; exact Nat.le_refl 1)
    rw [hs] at hx
    rw [List.mem_singleton.mp hx]
    exact hv _
end
end K3
end A5_part
section A7u_part
set_option Elab.async false
set_option linter.all false
set_option maxRecDepth 100000
set_option maxHeartbeats 1000000
set_option pp.deepTerms true
open PySem PySem.Spec PyProof.Rows L2
/-- go on as far as nothing is open -/
local macro_rules | `(tactic| walk_at "go") => `(tactic| repeat (first
  | with_reducible refine w_seq ?_ | with_reducible refine w_next ?_ | with_reducible refine w_set ?_ | with_reducible refine w_drop ?_ | with_reducible refine w_ret ?_ | with_reducible refine w_retN ?_
  | with_reducible refine w_if ?_ | ((with_reducible refine' w_var ?hv ?_); (case hv => exact rfl)) | with_reducible refine w_c ?_ | with_reducible refine w_nil ?_ | with_reducible refine w_cons ?_ | with_reducible refine w_op ?_ | with_reducible refine w_un ?_
  | with_reducible refine w_test ?_ | with_reducible refine w_tB ?_ | with_reducible refine w_not ?_ | with_reducible refine w_and ?_ | with_reducible refine w_or ?_ | with_reducible refine w_bl ?_
  | with_reducible refine w_andV ?_ | with_reducible refine w_orV ?_ | with_reducible refine w_notV ?_ | with_reducible refine w_ifE ?_ | with_reducible refine w_chain ?_ | with_reducible refine w_i0 ?_
  | with_reducible refine w_call ?_ | with_reducible refine w_callS ?_ | with_reducible refine w_cB ?_ | with_reducible refine w_tup ?_ | with_reducible refine w_lst ?_ | with_reducible refine w_fldV ?_
  | with_reducible refine w_neF ?_ | with_reducible refine w_neT ?_ | with_reducible refine w_notN ?_ | with_reducible refine w_isN ?_ | with_reducible refine w_gname ?_ | with_reducible refine w_gsub ?_ | with_reducible refine w_asg ?_ | with_reducible refine w_sl ?_ | with_reducible refine w_noP ?_ | with_reducible refine w_int1 ?_ | with_reducible refine w_part ?_ | with_reducible refine w_meth ?_ | with_reducible refine w_din ?_ | with_reducible refine w_dnotin ?_ | with_reducible refine w_dgt ?_ | with_reducible refine w_dget1 ?_ | with_reducible refine w_dget2 ?_ | with_reducible refine w_dput ?_ | with_reducible refine w_yes ?_ | with_reducible refine w_nT ?_ | with_reducible refine w_nF ?_ | with_reducible refine w_iteT ?_ | with_reducible refine w_iteF ?_))
namespace K3
/-! bounds of rows that are made -/
def WU (w : Option Cd) : Prop := odep w ≤ 10 ∧ (owh w).length ≤ 100
mutual
def RU : Rw → Prop
  | .one _ _ w => WU w
  | .some _ _ w => WU w
  | .number _ _ _ w => WU w
  | .check _ m w => (m.dep ≤ 10 ∧ m.simp.length ≤ 100) ∧ WU w
  | .sect rs w => RUs rs ∧ WU w
  | .rounds _ rs w => RUs rs ∧ WU w
def RUs : List Rw → Prop
  | [] => True
  | r :: rs => RU r ∧ RUs rs
end
theorem RUs_app : ∀ (rs us : List Rw), RUs (rs ++ us) ↔ RUs rs ∧ RUs us
  | [], us => by rw [List.nil_append, RUs]; exact ⟨fun h => ⟨trivial, h⟩, fun h => h.2⟩
  | r :: rs, us => by rw [List.cons_append, RUs, RUs, RUs_app rs us]; exact ⟨fun ⟨a, b, c⟩ => ⟨⟨a, b⟩, c⟩, fun ⟨⟨a, b⟩, c⟩ => ⟨a, b, c⟩⟩
theorem RUs_one (r : Rw) : RUs [r] ↔ RU r := by rw [RUs, RUs]; exact ⟨fun h => h.1, fun h => ⟨h, trivial⟩⟩
theorem ok_noneS {P : Program} {w : World} {K : PySem.W.Frag} {mg : Str → Option Value} {base : Heap} {f : Addr} {fd : FuncData} {ps : List Str} {sp : Sp} {k : Nat} (no : ∀ vs H Q E, ¬ sp vs H Q E) : FnOk P w K mg base (L2.CX P w) k f fd ps sp :=
  ⟨fun vs H Q E h => absurd h (no vs H Q E), fun A outer s H args us vs Q E _ _ _ _ h => absurd h (no vs H Q E)⟩
theorem cntA_app : ∀ (rs us : List Rw), Rws.cnt (rs ++ us) = Rws.cnt rs + Rws.cnt us
  | [], us => by rw [List.nil_append, Rws.cnt.eq_1, Nat.zero_add]
  | r :: rs, us => by rw [List.cons_append, Rws.cnt.eq_2, Rws.cnt.eq_2, cntA_app rs us, Nat.add_assoc]
theorem DRs.app {B : Hp} : ∀ {xs ys : List V} {rs ss : List Rw}, DRs B xs rs → DRs B ys ss → DRs B (xs ++ ys) (rs ++ ss)
  | _, _, _, _, .nil, h => h
  | _, _, _, _, .cons a t, h => .cons a (DRs.app t h)
theorem DRs.len {B : Hp} : ∀ {xs : List V} {rs : List Rw}, DRs B xs rs → xs.length = rs.length
  | _, _, .nil => rfl
  | _, _, .cons _ t => congrArg (· + 1) (DRs.len t)
end K3
end A7u_part
section A10_part
set_option Elab.async false
set_option linter.all false
set_option maxRecDepth 100000
set_option maxHeartbeats 1000000
set_option pp.deepTerms true
open PySem PySem.Spec PyProof.Rows L2
/-- go on as far as nothing is open -/
local macro_rules | `(tactic| walk_at "go") => `(tactic| repeat (first
  | with_reducible refine w_seq ?_ | with_reducible refine w_next ?_ | with_reducible refine w_set ?_ | with_reducible refine w_drop ?_ | with_reducible refine w_ret ?_ | with_reducible refine w_retN ?_
  | with_reducible refine w_if ?_ | ((with_reducible refine' w_var ?hv ?_); (case hv => exact rfl)) | with_reducible refine w_c ?_ | with_reducible refine w_nil ?_ | with_reducible refine w_cons ?_ | with_reducible refine w_op ?_ | with_reducible refine w_un ?_
  | with_reducible refine w_test ?_ | with_reducible refine w_tB ?_ | with_reducible refine w_not ?_ | with_reducible refine w_and ?_ | with_reducible refine w_or ?_ | with_reducible refine w_bl ?_
  | with_reducible refine w_andV ?_ | with_reducible refine w_orV ?_ | with_reducible refine w_notV ?_ | with_reducible refine w_ifE ?_ | with_reducible refine w_chain ?_ | with_reducible refine w_i0 ?_
  | with_reducible refine w_call ?_ | with_reducible refine w_callS ?_ | with_reducible refine w_cB ?_ | with_reducible refine w_tup ?_ | with_reducible refine w_lst ?_ | with_reducible refine w_fldV ?_
  | with_reducible refine w_neF ?_ | with_reducible refine w_neT ?_ | with_reducible refine w_notN ?_ | with_reducible refine w_isN ?_ | with_reducible refine w_gname ?_ | with_reducible refine w_gsub ?_ | with_reducible refine w_asg ?_ | with_reducible refine w_sl ?_ | with_reducible refine w_noP ?_ | with_reducible refine w_int1 ?_ | with_reducible refine w_part ?_ | with_reducible refine w_meth ?_ | with_reducible refine w_din ?_ | with_reducible refine w_dnotin ?_ | with_reducible refine w_dgt ?_ | with_reducible refine w_dget1 ?_ | with_reducible refine w_dget2 ?_ | with_reducible refine w_dput ?_ | with_reducible refine w_yes ?_ | with_reducible refine w_nT ?_ | with_reducible refine w_nF ?_ | with_reducible refine w_iteT ?_ | with_reducible refine w_iteF ?_))
namespace K3
theorem mkIA {K : PySem.W.Frag} {x : Str} {fs : List Str} {vs : List V} {H1 : Hp} {Q : VK} {E : XK} (hl : vs.length = fs.length) (q : ∀ a H', H1 a = none → Same H1 H' → Ins K H' a x (fs.zip vs) → Q (.ref a) H') :
    ∀ a dx, H1 a = none → H1 dx = none → dx ≠ a → spI K x fs (.ref a :: (vs ++ [])) (upd (upd H1 dx (.own a)) a (.ins (He.ga K x) dx [])) (fun v H2 => v = .non ∧ Q (.ref a) H2) E := by
  intro a dx ha hd hne
  rw [List.append_nil]
  refine ⟨a, dx, vs, rfl, hl, upd_same, fun H' h1 h2 => ⟨rfl, q a H' ha (fun b o hb => ?_) ⟨dx, h1⟩⟩⟩
  have nb : b ≠ a := ne_of_none hb ha
  exact h2 b o nb (by rw [upd_ne nb, upd_ne (ne_of_none hb hd)]; exact hb)
theorem w_sEA {a b : Str} {H : Hp} {Q : VK} (k : Bool) (hk : decide (V.str a = V.str b) = k) (h : Q (.bl k) H) : rEq (.str a) (.str b) H Q := ⟨rfl, by rw [hk]; exact h⟩
def spHeld (K : PySem.W.Frag) (n : Nat) : Sp := fun vs H Q _ => ∃ (v : V) (c : Option Cd), vs = [v] ∧ DW H v c ∧ odep c < n ∧ ∀ v' H', Same H H' → WO K H' v' c → Q v' H'
section
variable {P : Program} {w : World} {K : PySem.W.Frag} {mg : Str → Option Value} {base : Heap}
theorem sc_held : FnScope ["_law_condition", "_law_word"] ["_law_condition"] (defScope s__law_held) := ⟨rfl, rfl, rfl, by decide +kernel, rfl, by decide +kernel, by decide +kernel⟩
theorem ok_held (T : Tx K mg) (n : Nat) : Ok P w K mg base (n + 3) (He.ga K "_law_held") ["_law_condition"] (spHeld K n) := by
  induction n with
  | zero =>
    obtain ⟨fd, F⟩ := T.f__law_held
    exact ⟨fd, ok_noneS fun vs H Q E ⟨_, _, _, _, h, _⟩ => absurd h (Nat.not_lt_zero _), F.bindsN fun _ _ _ _ _ _ us hl => match us, hl with | [_], _ => rfl, F.kp⟩
  | succ n O_law_held =>
  obtain ⟨fd, F⟩ := T.f__law_held
  refine ⟨fd, F.ok (k := n + 3) sc_held (fun vs H Q E h => ?_) (fun cdv A outer s_ H vs Q E hr h => ?_), F.bindsN fun _ _ _ _ _ _ us hl => match us, hl with | [_], _ => rfl, F.kp⟩
  · obtain ⟨v, c, rfl, _⟩ := h
    rfl
  obtain ⟨v, c, rfl, hv, hn, q⟩ := h
  have r_law_held := hr
  refine ⟨_, pss_cons (ps_if (pt_cmp (pc_isN (pv 0))) (pss_one (ps_ret pe_non)) pss_nil)
      (pss_cons (ps_set (i := 1) sc_held.nd rfl (Or.inl rfl) (pe_ix ix_tup (pv 0) pe_int (fun _ _ => rfl)))
      (pss_cons (ps_if (pt_cmpR op_eq (pv 1) pe_str (nomark _)) (pss_one (ps_ret (pe_cls T.mk_Not (ok_Not T) (hr.mono (by omega)) T.g_Not (pa_cons (pe_f O_law_held r_law_held T.g__law_held (pa_cons (pe_ix ix_tup (pv 0) pe_int (fun _ _ => rfl)) pa_nil)) pa_nil)))) pss_nil)
      (pss_cons (ps_if (pt_cmpR op_eq (pv 1) pe_str (nomark _)) (pss_one (ps_ret (pe_cls T.mk_Both (ok_Both T) (hr.mono (by omega)) T.g_Both (pa_cons (pe_f O_law_held r_law_held T.g__law_held (pa_cons (pe_ix ix_tup (pv 0) pe_int (fun _ _ => rfl)) pa_nil)) (pa_cons (pe_f O_law_held r_law_held T.g__law_held (pa_cons (pe_ix ix_tup (pv 0) pe_int (fun _ _ => rfl)) pa_nil)) pa_nil))))) pss_nil)
      (pss_cons (ps_if (pt_cmpR op_eq (pv 1) pe_str (nomark _)) (pss_one (ps_ret (pe_cls T.mk_Either (ok_Either T) (hr.mono (by omega)) T.g_Either (pa_cons (pe_f O_law_held r_law_held T.g__law_held (pa_cons (pe_ix ix_tup (pv 0) pe_int (fun _ _ => rfl)) pa_nil)) (pa_cons (pe_f O_law_held r_law_held T.g__law_held (pa_cons (pe_ix ix_tup (pv 0) pe_int (fun _ _ => rfl)) pa_nil)) pa_nil))))) pss_nil)
      (pss_cons (ps_if (pt_cmpR op_eq (pv 1) pe_str (nomark _)) (pss_one (ps_ret (pe_cls T.mk_Is (ok_Is T) (hr.mono (by omega)) T.g_Is (pa_cons (pe_ix ix_tup (pv 0) pe_int (fun _ _ => rfl)) (pa_cons (pe_ix ix_tup (pv 0) pe_int (fun _ _ => rfl)) pa_nil))))) pss_nil)
      (pss_cons (ps_if (pt_cmpR op_eq (pv 1) pe_str (nomark _)) (pss_one (ps_ret (pe_cls T.mk_Has (ok_Has T) (hr.mono (by omega)) T.g_Has (pa_cons (pe_ix ix_tup (pv 0) pe_int (fun _ _ => rfl)) (pa_cons (pe_ix ix_tup (pv 0) pe_int (fun _ _ => rfl)) pa_nil))))) pss_nil)
      (pss_cons (ps_if (pt_cmpR op_eq (pv 1) pe_str (nomark _)) (pss_one (ps_ret (pe_cls T.mk_Above (ok_Above T) (hr.mono (by omega)) T.g_Above (pa_cons (pe_ix ix_tup (pv 0) pe_int (fun _ _ => rfl)) (pa_cons (pe_ix ix_tup (pv 0) pe_int (fun _ _ => rfl)) pa_nil))))) pss_nil)
      (pss_one (ps_ret (pe_cls T.mk_Below (ok_Below T) (hr.mono (by omega)) T.g_Below (pa_cons (pe_ix ix_tup (pv 0) pe_int (fun _ _ => rfl)) (pa_cons (pe_ix ix_tup (pv 0) pe_int (fun _ _ => rfl)) pa_nil)))))))))))), ?_⟩
  cases hv with
  | none =>
    walk_at "go"
    exact q _ _ (Same.refl _) .none
  | @some v c hd =>
    have one : ∀ (u : V) (c1 : Cd) (H1 : Hp) (Q2 : VK) (E2 : XK), DC H1 u c1 → c1.dep < n → (∀ v' H', Same H1 H' → CO K H' v' c1 → Q2 v' H') → spHeld K n ([u] ++ []) H1 Q2 E2 := fun u c1 H1 Q2 E2 h1 h2 k =>
      ⟨u, some c1, rfl, .some h1, h2, fun v' H' e hw => by
        cases hw with
        | some hc => exact k v' H' e hc⟩
    obtain ⟨t, rfl⟩ : ∃ t, v = V.ref t := by cases hd <;> exact ⟨_, rfl⟩
    walk_at "go"
    rw [show decide (V.ref t = V.non) = false from decide_eq_false (fun z => nomatch z)]
    walk_at "go"
    cases hd with
    | no h h1 =>
      refine w_ixT (SqT.of h) rfl ?_
      walk_at "go"
      refine w_sEA true (by decide +kernel) ?_
      refine ⟨_, rfl, ?_⟩
      rw [if_pos rfl]
      walk_at "go"
      refine w_make ?_
      walk_at "go"
      refine w_ixT (SqT.of h) rfl ?_
      walk_at "go"
      refine one _ _ _ _ _ h1 (by have : _ + 1 < n + 1 := hn; omega) fun v1 H1 e1 hc1 => ?_
      refine mkIA (x := "Not") (fs := ["inner"]) (vs := [v1]) rfl fun a H' ha e hi => q _ _ (e1.trans e) (.some (.no hi (hc1.si e.si)))
    | both h h1 h2 =>
      refine w_ixT (SqT.of h) rfl ?_
      walk_at "go"
      refine w_sEA false (by decide +kernel) ?_
      refine ⟨_, rfl, ?_⟩
      rw [if_neg Bool.false_ne_true]
      walk_at "go"
      refine w_sEA true (by decide +kernel) ?_
      refine ⟨_, rfl, ?_⟩
      rw [if_pos rfl]
      walk_at "go"
      refine w_make ?_
      walk_at "go"
      refine w_ixT (SqT.of h) rfl ?_
      walk_at "go"
      refine one _ _ _ _ _ h1 (by have : max _ _ + 1 < n + 1 := hn; omega) fun v1 H1 e1 hc1 => ?_
      walk_at "go"
      refine w_ixT (SqT.of (e1 _ _ h)) rfl ?_
      walk_at "go"
      refine one _ _ _ _ _ (h2.same e1) (by have : max _ _ + 1 < n + 1 := hn; omega) fun v2 H2 e2 hc2 => ?_
      refine mkIA (x := "Both") (fs := ["left", "right"]) (vs := [v1, v2]) rfl fun a H' ha e hi => q _ _ (e1.trans (e2.trans e)) (.some (.both hi ((hc1.si e2.si).si e.si) (hc2.si e.si)))
    | either h h1 h2 =>
      refine w_ixT (SqT.of h) rfl ?_
      walk_at "go"
      refine w_sEA false (by decide +kernel) ?_
      refine ⟨_, rfl, ?_⟩
      rw [if_neg Bool.false_ne_true]
      walk_at "go"
      refine w_sEA false (by decide +kernel) ?_
      refine ⟨_, rfl, ?_⟩
      rw [if_neg Bool.false_ne_true]
      walk_at "go"
      refine w_sEA true (by decide +kernel) ?_
      refine ⟨_, rfl, ?_⟩
      rw [if_pos rfl]
      walk_at "go"
      refine w_make ?_
      walk_at "go"
      refine w_ixT (SqT.of h) rfl ?_
      walk_at "go"
      refine one _ _ _ _ _ h1 (by have : max _ _ + 1 < n + 1 := hn; omega) fun v1 H1 e1 hc1 => ?_
      walk_at "go"
      refine w_ixT (SqT.of (e1 _ _ h)) rfl ?_
      walk_at "go"
      refine one _ _ _ _ _ (h2.same e1) (by have : max _ _ + 1 < n + 1 := hn; omega) fun v2 H2 e2 hc2 => ?_
      refine mkIA (x := "Either") (fs := ["left", "right"]) (vs := [v1, v2]) rfl fun a H' ha e hi => q _ _ (e1.trans (e2.trans e)) (.some (.either hi ((hc1.si e2.si).si e.si) (hc2.si e.si)))
    | is h =>
      refine w_ixT (SqT.of h) rfl ?_
      walk_at "go"
      refine w_sEA false (by decide +kernel) ?_
      refine ⟨_, rfl, ?_⟩
      rw [if_neg Bool.false_ne_true]
      walk_at "go"
      refine w_sEA false (by decide +kernel) ?_
      refine ⟨_, rfl, ?_⟩
      rw [if_neg Bool.false_ne_true]
      walk_at "go"
      refine w_sEA false (by decide +kernel) ?_
      refine ⟨_, rfl, ?_⟩
      rw [if_neg Bool.false_ne_true]
      walk_at "go"
      refine w_sEA true (by decide +kernel) ?_
      refine ⟨_, rfl, ?_⟩
      rw [if_pos rfl]
      walk_at "go"
      refine w_make ?_
      walk_at "go"
      refine w_ixT (SqT.of h) rfl ?_
      walk_at "go"
      refine w_ixT (SqT.of h) rfl ?_
      exact mkIA (x := "Is") (fs := ["name", "option"]) (vs := [_, _]) rfl fun a H' ha e hi => q _ _ e (.some (.is hi))
    | has h =>
      refine w_ixT (SqT.of h) rfl ?_
      walk_at "go"
      refine w_sEA false (by decide +kernel) ?_
      refine ⟨_, rfl, ?_⟩
      rw [if_neg Bool.false_ne_true]
      walk_at "go"
      refine w_sEA false (by decide +kernel) ?_
      refine ⟨_, rfl, ?_⟩
      rw [if_neg Bool.false_ne_true]
      walk_at "go"
      refine w_sEA false (by decide +kernel) ?_
      refine ⟨_, rfl, ?_⟩
      rw [if_neg Bool.false_ne_true]
      walk_at "go"
      refine w_sEA false (by decide +kernel) ?_
      refine ⟨_, rfl, ?_⟩
      rw [if_neg Bool.false_ne_true]
      walk_at "go"
      refine w_sEA true (by decide +kernel) ?_
      refine ⟨_, rfl, ?_⟩
      rw [if_pos rfl]
      walk_at "go"
      refine w_make ?_
      walk_at "go"
      refine w_ixT (SqT.of h) rfl ?_
      walk_at "go"
      refine w_ixT (SqT.of h) rfl ?_
      exact mkIA (x := "Has") (fs := ["name", "option"]) (vs := [_, _]) rfl fun a H' ha e hi => q _ _ e (.some (.has hi))
    | over h =>
      refine w_ixT (SqT.of h) rfl ?_
      walk_at "go"
      refine w_sEA false (by decide +kernel) ?_
      refine ⟨_, rfl, ?_⟩
      rw [if_neg Bool.false_ne_true]
      walk_at "go"
      refine w_sEA false (by decide +kernel) ?_
      refine ⟨_, rfl, ?_⟩
      rw [if_neg Bool.false_ne_true]
      walk_at "go"
      refine w_sEA false (by decide +kernel) ?_
      refine ⟨_, rfl, ?_⟩
      rw [if_neg Bool.false_ne_true]
      walk_at "go"
      refine w_sEA false (by decide +kernel) ?_
      refine ⟨_, rfl, ?_⟩
      rw [if_neg Bool.false_ne_true]
      walk_at "go"
      refine w_sEA false (by decide +kernel) ?_
      refine ⟨_, rfl, ?_⟩
      rw [if_neg Bool.false_ne_true]
      walk_at "go"
      refine w_sEA true (by decide +kernel) ?_
      refine ⟨_, rfl, ?_⟩
      rw [if_pos rfl]
      walk_at "go"
      refine w_make ?_
      walk_at "go"
      refine w_ixT (SqT.of h) rfl ?_
      walk_at "go"
      refine w_ixT (SqT.of h) rfl ?_
      exact mkIA (x := "Above") (fs := ["name", "number"]) (vs := [_, _]) rfl fun a H' ha e hi => q _ _ e (.some (.over hi))
    | under h =>
      refine w_ixT (SqT.of h) rfl ?_
      walk_at "go"
      refine w_sEA false (by decide +kernel) ?_
      refine ⟨_, rfl, ?_⟩
      rw [if_neg Bool.false_ne_true]
      walk_at "go"
      refine w_sEA false (by decide +kernel) ?_
      refine ⟨_, rfl, ?_⟩
      rw [if_neg Bool.false_ne_true]
      walk_at "go"
      refine w_sEA false (by decide +kernel) ?_
      refine ⟨_, rfl, ?_⟩
      rw [if_neg Bool.false_ne_true]
      walk_at "go"
      refine w_sEA false (by decide +kernel) ?_
      refine ⟨_, rfl, ?_⟩
      rw [if_neg Bool.false_ne_true]
      walk_at "go"
      refine w_sEA false (by decide +kernel) ?_
      refine ⟨_, rfl, ?_⟩
      rw [if_neg Bool.false_ne_true]
      walk_at "go"
      refine w_sEA false (by decide +kernel) ?_
      refine ⟨_, rfl, ?_⟩
      rw [if_neg Bool.false_ne_true]
      walk_at "go"
      refine w_make ?_
      walk_at "go"
      refine w_ixT (SqT.of h) rfl ?_
      walk_at "go"
      refine w_ixT (SqT.of h) rfl ?_
      exact mkIA (x := "Below") (fs := ["name", "number"]) (vs := [_, _]) rfl fun a H' ha e hi => q _ _ e (.some (.under hi))
end
end K3
end A10_part
section A11_part
set_option Elab.async false
set_option linter.all false
set_option maxRecDepth 100000
set_option maxHeartbeats 1000000
set_option pp.deepTerms true
open PySem PySem.Spec PyProof.Rows L2
/-- go on as far as nothing is open -/
local macro_rules | `(tactic| walk_at "go") => `(tactic| repeat (first
  | with_reducible refine w_seq ?_ | with_reducible refine w_next ?_ | with_reducible refine w_set ?_ | with_reducible refine w_drop ?_ | with_reducible refine w_ret ?_ | with_reducible refine w_retN ?_
  | with_reducible refine w_if ?_ | ((with_reducible refine' w_var ?hv ?_); (case hv => exact rfl)) | with_reducible refine w_c ?_ | with_reducible refine w_nil ?_ | with_reducible refine w_cons ?_ | with_reducible refine w_op ?_ | with_reducible refine w_un ?_
  | with_reducible refine w_test ?_ | with_reducible refine w_tB ?_ | with_reducible refine w_not ?_ | with_reducible refine w_and ?_ | with_reducible refine w_or ?_ | with_reducible refine w_bl ?_
  | with_reducible refine w_andV ?_ | with_reducible refine w_orV ?_ | with_reducible refine w_notV ?_ | with_reducible refine w_ifE ?_ | with_reducible refine w_chain ?_ | with_reducible refine w_i0 ?_
  | with_reducible refine w_call ?_ | with_reducible refine w_callS ?_ | with_reducible refine w_cB ?_ | with_reducible refine w_tup ?_ | with_reducible refine w_lst ?_ | with_reducible refine w_fldV ?_
  | with_reducible refine w_neF ?_ | with_reducible refine w_neT ?_ | with_reducible refine w_notN ?_ | with_reducible refine w_isN ?_ | with_reducible refine w_gname ?_ | with_reducible refine w_gsub ?_ | with_reducible refine w_asg ?_ | with_reducible refine w_sl ?_ | with_reducible refine w_noP ?_ | with_reducible refine w_int1 ?_ | with_reducible refine w_part ?_ | with_reducible refine w_meth ?_ | with_reducible refine w_din ?_ | with_reducible refine w_dnotin ?_ | with_reducible refine w_dgt ?_ | with_reducible refine w_dget1 ?_ | with_reducible refine w_dget2 ?_ | with_reducible refine w_dput ?_ | with_reducible refine w_yes ?_ | with_reducible refine w_nT ?_ | with_reducible refine w_nF ?_ | with_reducible refine w_iteT ?_ | with_reducible refine w_iteF ?_))
namespace K3
def spMadeRS (K : PySem.W.Frag) (n : Nat) : Sp := fun vs H Q _ => ∃ (v : V) (r : Rw), vs = [v] ∧ DR H v r ∧ RU r ∧ r.dep < n ∧ r.cnt ≤ 1000 ∧ ∀ v' H', Same H H' → RO K H' v' r → Q v' H'
def spMadeS (K : PySem.W.Frag) (n : Nat) : Sp := fun vs H Q _ => ∃ (l : Addr) (xs : List V) (rs : List Rw), vs = [.ref l] ∧ H l = some (.lst xs) ∧ DRs H xs rs ∧ RUs rs ∧ Rws.dep rs < n ∧ Rws.cnt rs ≤ 1000 ∧ ∀ D H' ys, H D = none → Same H H' → H' D = some (.lst ys) → ROs K H' ys rs → Q (.ref D) H'
theorem DRs.getA {B : Hp} : ∀ {xs : List V} {rs : List Rw}, DRs B xs rs → ∀ {i : Nat} {x : V}, xs[i]? = some x → ∃ r, rs[i]? = some r ∧ DR B x r
  | _, _, .nil, i, x, h => by simp at h
  | _, _, .cons a t, 0, x, h => by
    cases h
    exact ⟨_, rfl, a⟩
  | _, _, .cons a t, i + 1, x, h => DRs.getA t (i := i) (by simpa using h)
theorem len_cntA : ∀ rs : List Rw, rs.length ≤ Rws.cnt rs
  | [] => Nat.zero_le _
  | r :: rs => by
    have := len_cntA rs
    have h1 : 1 ≤ r.cnt := by cases r <;> unfold Rw.cnt <;> omega
    rw [Rws.cnt, List.length_cons]
    omega
theorem mem_A {r : Rw} : ∀ {rs : List Rw}, r ∈ rs → RUs rs → RU r ∧ r.dep ≤ Rws.dep rs ∧ r.cnt ≤ Rws.cnt rs
  | q :: rs, h, hb => by
    rw [RUs] at hb
    rw [Rws.dep, Rws.cnt]
    rcases List.mem_cons.mp h with z | z
    · rw [z]; exact ⟨hb.1, by omega, by omega⟩
    · obtain ⟨a, b, c⟩ := mem_A z hb.2; exact ⟨a, by omega, by omega⟩
section
variable {P : Program} {w : World} {K : PySem.W.Frag} {mg : Str → Option Value} {base : Heap}
theorem sc_made_row : FnScope ["_law_row", "_law_cond"] ["_law_row"] (defScope s__law_made_row) := ⟨rfl, rfl, rfl, by decide +kernel, rfl, by decide +kernel, by decide +kernel⟩
theorem sc_made : FnScope ["_law_rows", "_law_row"] ["_law_rows"] (defScope s__law_made) := ⟨rfl, rfl, rfl, by decide +kernel, rfl, by decide +kernel, by decide +kernel⟩
theorem ok_mades (T : Tx K mg) (n : Nat) : Ok P w K mg base (2 * n + 16) (He.ga K "_law_made_row") ["_law_row"] (spMadeRS K n) ∧ Ok P w K mg base (2 * n + 17) (He.ga K "_law_made") ["_law_rows"] (spMadeS K n) := by
  have step : ∀ n, Ok P w K mg base (2 * n + 16) (He.ga K "_law_made_row") ["_law_row"] (spMadeRS K n) → Ok P w K mg base (2 * n + 17) (He.ga K "_law_made") ["_law_rows"] (spMadeS K n) := by
    intro n O_law_made_row
    obtain ⟨fd, F⟩ := T.f__law_made
    refine ⟨fd, F.ok (k := 2 * n + 16) sc_made (fun vs H Q E h => ?_) (fun cdv A outer s_ H vs Q E hr h => ?_), F.bindsN fun _ _ _ _ _ _ us hl => match us, hl with | [_], _ => rfl, F.kp⟩
    · obtain ⟨l, xs, rs, rfl, _⟩ := h
      rfl
    obtain ⟨l, xs, rs, rfl, hl, hd, hb, hn, hc, q⟩ := h
    have r_law_made_row := hr
    refine ⟨_, pss_one (ps_ret (by exact pe_lc (own := [("_law_row", 1)]) (g := gName 1) (tt := tYes) (te := (tCall ((fun K => spMadeRS K n) K) [] E0 (tCons (tVar 1) tNil))) (by rfl) sc_made.nd (pi_list (pv 0)) (blkOk_by (own := [("_law_row", 1)]) (N := ["_law_rows", "_law_row"]) (sc := defScope s__law_made) (by decide +kernel)) (fun _ _ _ _ _ => (pg_name (i := 1) sc_made.nd rfl (Or.inl rfl))) (fun _ _ _ _ _ => pts_nil) (fun _ _ _ _ _ => (pe_f O_law_made_row r_law_made_row T.g__law_made_row (pa_cons (pv 1) pa_nil))))), ?_⟩
    have lx := hd.len
    have lr := len_cntA rs
    walk_at "go"
    refine lc_open (list_open ?_)
    walk_at "go"
    refine ⟨l, rfl, ⟨_, SqL.of hl⟩, fun D hD => ?_⟩
    refine lc_list (K := K) (a := l) (xs := xs) (fun (i : Nat) H' => Same H H' ∧ ∃ ys : List V, H' D = some (.lst ys) ∧ ys.length ≤ i ∧ ROs K H' ys (rs.take i)) ⟨Same.new hD _, [], upd_same, Nat.le_refl _, .nil⟩ (fun i H' _ k => SqL.of (k.1 _ _ hl)) ?_ ?_
    · rintro i x H1 hx ⟨e1, ys, hys, ly, ro⟩
      obtain ⟨r, hr1, hdr⟩ := hd.getA hx
      obtain ⟨m1, m2, m3⟩ := mem_A (List.mem_of_getElem? hr1) hb
      have li := (List.getElem?_eq_some_iff.mp hr1).1
      walk_at "go"
      refine ⟨rfl, ?_⟩
      walk_at "go"
      refine ⟨x, r, rfl, hdr.same e1, m1, by omega, by omega, fun y H2 e2 hy => ?_⟩
      have hD2 := e2 _ _ hys
      refine ⟨ys, hD2, Nat.lt_of_le_of_lt (show ys.length ≤ 1000 by omega) (by decide), (e1.trans e2).mut hD, ys ++ [y], upd_same, by rw [List.length_append]; show ys.length + 1 ≤ _; omega, ?_⟩
      have si : SI H2 (upd H2 D (.lst (ys ++ [y]))) := SI.upd hD2 rfl _
      rw [List.take_add_one, hr1]
      exact ROs.app ((ROs.si e2.si ro |> ROs.si si)) (.cons (hy.si si) .nil)
    · rintro H1 ⟨e1, ys, hys, ly, ro⟩
      rw [lx, List.take_length] at ro
      walk_at "go"
      exact q D H1 ys hD e1 hys ro
  induction n with
  | zero =>
    refine ⟨?_, step 0 ?_⟩ <;>
    · obtain ⟨fd, F⟩ := T.f__law_made_row
      exact ⟨fd, ok_noneS fun vs H Q E ⟨_, _, _, _, _, h, _⟩ => absurd h (Nat.not_lt_zero _), F.bindsN fun _ _ _ _ _ _ us hl => match us, hl with | [_], _ => rfl, F.kp⟩
  | succ n ih =>
    have O_law_made := ih.2
    have main : Ok P w K mg base (2 * (n + 1) + 16) (He.ga K "_law_made_row") ["_law_row"] (spMadeRS K (n + 1)) := by
      obtain ⟨fd, F⟩ := T.f__law_made_row
      have O_law_held := ok_held (P := P) (w := w) (base := base) T 11
      obtain ⟨fOne, FOne⟩ := T.f_One_init
      obtain ⟨fSome, FSome⟩ := T.f_Some_init
      obtain ⟨fNumber, FNumber⟩ := T.f_Number_init
      obtain ⟨fCheck, FCheck⟩ := T.f_Check_init
      obtain ⟨fSection, FSection⟩ := T.f_Section_init
      obtain ⟨fRounds, FRounds⟩ := T.f_Rounds_init
      obtain ⟨_, kbOne⟩ := FOne.kbinds0 (ps := ["self", "name", "options", "where"]) 3 ["where"] [] (fun us _ ws => us ++ ws) (by simp) (by simp) (fun a _ c => a.append c) (fun _ _ _ _ _ _ us mv ws h1 h2 h3 => match us, mv, ws, h1, h2, h3 with | [_, _, _], [], [_], _, _, _ => rfl)
      obtain ⟨_, kbSome⟩ := FSome.kbinds0 (ps := ["self", "name", "options", "where"]) 3 ["where"] [] (fun us _ ws => us ++ ws) (by simp) (by simp) (fun a _ c => a.append c) (fun _ _ _ _ _ _ us mv ws h1 h2 h3 => match us, mv, ws, h1, h2, h3 with | [_, _, _], [], [_], _, _, _ => rfl)
      obtain ⟨_, kbNumber⟩ := FNumber.kbinds0 (ps := ["self", "name", "low", "high", "where"]) 4 ["where"] [] (fun us _ ws => us ++ ws) (by simp) (by simp) (fun a _ c => a.append c) (fun _ _ _ _ _ _ us mv ws h1 h2 h3 => match us, mv, ws, h1, h2, h3 with | [_, _, _, _], [], [_], _, _, _ => rfl)
      obtain ⟨_, kbCheck⟩ := FCheck.kbinds0 (ps := ["self", "name", "must", "where"]) 3 ["where"] [] (fun us _ ws => us ++ ws) (by simp) (by simp) (fun a _ c => a.append c) (fun _ _ _ _ _ _ us mv ws h1 h2 h3 => match us, mv, ws, h1, h2, h3 with | [_, _, _], [], [_], _, _, _ => rfl)
      obtain ⟨_, kbSection⟩ := FSection.kbinds0 (ps := ["self", "rows", "where"]) 2 ["where"] [] (fun us _ ws => us ++ ws) (by simp) (by simp) (fun a _ c => a.append c) (fun _ _ _ _ _ _ us mv ws h1 h2 h3 => match us, mv, ws, h1, h2, h3 with | [_, _], [], [_], _, _, _ => rfl)
      obtain ⟨_, kbRounds⟩ := FRounds.kbinds0 (ps := ["self", "count", "rows", "where"]) 3 ["where"] [] (fun us _ ws => us ++ ws) (by simp) (by simp) (fun a _ c => a.append c) (fun _ _ _ _ _ _ us mv ws h1 h2 h3 => match us, mv, ws, h1, h2, h3 with | [_, _, _], [], [_], _, _, _ => rfl)
      refine ⟨fd, F.ok (k := 2 * n + 17) sc_made_row (fun vs H Q E h => ?_) (fun cdv A outer s_ H vs Q E hr h => ?_), F.bindsN fun _ _ _ _ _ _ us hl => match us, hl with | [_], _ => rfl, F.kp⟩
      · obtain ⟨v, r, rfl, _⟩ := h
        rfl
      obtain ⟨v, r, rfl, hv, hB, hn, hcn, q⟩ := h
      have r_law_held : Room 14 _ := hr.mono (by omega)
      have r_law_made := hr
      refine ⟨_, pss_cons (ps_set (i := 1) sc_made_row.nd rfl (Or.inl rfl) (pe_f O_law_held r_law_held T.g__law_held (pa_cons (pe_ix ix_tup (pv 0) (pe_un un_neg pe_int) (fun _ _ => rfl)) pa_nil)))
      (pss_cons (ps_if (pt_cmpR op_eq (pe_ix ix_tup (pv 0) pe_int (fun _ _ => rfl)) pe_str (nomark _)) (pss_one (ps_ret (pe_makeK (n := 2) (ks := ["where"]) T.mk_One (ok_One T FOne) (hr.mono (by omega : 2 ≤ 2 * n + 17)) (by rfl) T.g_One kbOne passL (pa_cons (pe_ix ix_tup (pv 0) pe_int (fun _ _ => rfl)) (pa_cons (pe_callTy call_list_of (by rfl) T.z_list (by decide +kernel) (pa_cons (pe_ix ix_tup (pv 0) pe_int (fun _ _ => rfl)) pa_nil)) pa_nil)) (pk_cons (pv 1) pk_nil)))) pss_nil)
      (pss_cons (ps_if (pt_cmpR op_eq (pe_ix ix_tup (pv 0) pe_int (fun _ _ => rfl)) pe_str (nomark _)) (pss_one (ps_ret (pe_makeK (n := 2) (ks := ["where"]) T.mk_Some (ok_Some T FSome) (hr.mono (by omega : 2 ≤ 2 * n + 17)) (by rfl) T.g_Some kbSome passL (pa_cons (pe_ix ix_tup (pv 0) pe_int (fun _ _ => rfl)) (pa_cons (pe_callTy call_list_of (by rfl) T.z_list (by decide +kernel) (pa_cons (pe_ix ix_tup (pv 0) pe_int (fun _ _ => rfl)) pa_nil)) pa_nil)) (pk_cons (pv 1) pk_nil)))) pss_nil)
      (pss_cons (ps_if (pt_cmpR op_eq (pe_ix ix_tup (pv 0) pe_int (fun _ _ => rfl)) pe_str (nomark _)) (pss_one (ps_ret (pe_makeK (n := 3) (ks := ["where"]) T.mk_Number (ok_Number T FNumber) (hr.mono (by omega : 2 ≤ 2 * n + 17)) (by rfl) T.g_Number kbNumber passL (pa_cons (pe_ix ix_tup (pv 0) pe_int (fun _ _ => rfl)) (pa_cons (pe_ix ix_tup (pv 0) pe_int (fun _ _ => rfl)) (pa_cons (pe_ix ix_tup (pv 0) pe_int (fun _ _ => rfl)) pa_nil))) (pk_cons (pv 1) pk_nil)))) pss_nil)
      (pss_cons (ps_if (pt_cmpR op_eq (pe_ix ix_tup (pv 0) pe_int (fun _ _ => rfl)) pe_str (nomark _)) (pss_one (ps_ret (pe_makeK (n := 2) (ks := ["where"]) T.mk_Check (ok_Check T FCheck) (hr.mono (by omega : 2 ≤ 2 * n + 17)) (by rfl) T.g_Check kbCheck passL (pa_cons (pe_ix ix_tup (pv 0) pe_int (fun _ _ => rfl)) (pa_cons (pe_f O_law_held r_law_held T.g__law_held (pa_cons (pe_ix ix_tup (pv 0) pe_int (fun _ _ => rfl)) pa_nil)) pa_nil)) (pk_cons (pv 1) pk_nil)))) pss_nil)
      (pss_cons (ps_if (pt_cmpR op_eq (pe_ix ix_tup (pv 0) pe_int (fun _ _ => rfl)) pe_str (nomark _)) (pss_one (ps_ret (pe_makeK (n := 1) (ks := ["where"]) T.mk_Section (ok_Section T FSection) (hr.mono (by omega : 2 ≤ 2 * n + 17)) (by rfl) T.g_Section kbSection passL (pa_cons (pe_f O_law_made r_law_made T.g__law_made (pa_cons (pe_ix ix_tup (pv 0) pe_int (fun _ _ => rfl)) pa_nil)) pa_nil) (pk_cons (pv 1) pk_nil)))) pss_nil)
      (pss_one (ps_ret (pe_makeK (n := 2) (ks := ["where"]) T.mk_Rounds (ok_Rounds T FRounds) (hr.mono (by omega : 2 ≤ 2 * n + 17)) (by rfl) T.g_Rounds kbRounds passL (pa_cons (pe_ix ix_tup (pv 0) pe_int (fun _ _ => rfl)) (pa_cons (pe_f O_law_made r_law_made T.g__law_made (pa_cons (pe_ix ix_tup (pv 0) pe_int (fun _ _ => rfl)) pa_nil)) pa_nil)) (pk_cons (pv 1) pk_nil))))))))), ?_⟩
      have wh : ∀ (wv : V) (w' : Option Cd) (H1 : Hp), DW H1 wv w' → WU w' → ∀ (Q2 : VK) (E2 : XK), (∀ cv H2, Same H1 H2 → WO K H2 cv w' → Q2 cv H2) → spHeld K 11 ([wv] ++ []) H1 Q2 E2 := fun wv w' H1 h1 h2 Q2 E2 k => ⟨wv, w', rfl, h1, by have := h2.1; omega, k⟩
      cases hv with
      | @one t l n' os w' wv h hl hw =>
        have hB' : WU w' := by rw [RU] at hB; exact hB
        walk_at "go"
        refine ⟨1, rfl, ?_⟩
        refine w_ixT (SqT.of h) rfl ?_
        walk_at "go"
        refine wh wv w' _ hw hB' _ _ fun cv H1 e1 hc => ?_
        have h1 := e1 _ _ h
        walk_at "go"
        refine w_ixT (SqT.of h1) rfl ?_
        walk_at "go"
        refine w_sEA true (by decide +kernel) ?_
        refine ⟨_, rfl, ?_⟩
        rw [if_pos rfl]
        walk_at "go"
        refine w_makeK ?_
        walk_at "go"
        refine w_ixT (SqT.of h1) rfl ?_
        walk_at "go"
        refine w_ixT (SqT.of h1) rfl ?_
        refine ⟨l, _, rfl, .inl (SqL.of (e1 _ _ hl)), fun l2 hl2 => ?_⟩
        have e2 := Same.new hl2 (.lst (os.map V.str))
        walk_at "go"
        refine ⟨rfl, rfl, ?_⟩
        exact mkIT (xs := os.map V.str) upd_same fun a t H' ha e hi ht => q _ _ ((e1.trans e2).trans e) (.one hi ht (hc.si (e2.trans e).si))
      | @some t l n' os w' wv h hl hw =>
        have hB' : WU w' := by rw [RU] at hB; exact hB
        walk_at "go"
        refine ⟨1, rfl, ?_⟩
        refine w_ixT (SqT.of h) rfl ?_
        walk_at "go"
        refine wh wv w' _ hw hB' _ _ fun cv H1 e1 hc => ?_
        have h1 := e1 _ _ h
        walk_at "go"
        refine w_ixT (SqT.of h1) rfl ?_
        walk_at "go"
        refine w_sEA false (by decide +kernel) ?_
        refine ⟨_, rfl, ?_⟩
        rw [if_neg Bool.false_ne_true]
        walk_at "go"
        refine w_ixT (SqT.of h1) rfl ?_
        walk_at "go"
        refine w_sEA true (by decide +kernel) ?_
        refine ⟨_, rfl, ?_⟩
        rw [if_pos rfl]
        walk_at "go"
        refine w_makeK ?_
        walk_at "go"
        refine w_ixT (SqT.of h1) rfl ?_
        walk_at "go"
        refine w_ixT (SqT.of h1) rfl ?_
        refine ⟨l, _, rfl, .inl (SqL.of (e1 _ _ hl)), fun l2 hl2 => ?_⟩
        have e2 := Same.new hl2 (.lst (os.map V.str))
        walk_at "go"
        refine ⟨rfl, rfl, ?_⟩
        exact mkIT (xs := os.map V.str) upd_same fun a t H' ha e hi ht => q _ _ ((e1.trans e2).trans e) (.some hi ht (hc.si (e2.trans e).si))
      | @number t n' lo hi w' wv h hw =>
        have hB' : WU w' := by rw [RU] at hB; exact hB
        walk_at "go"
        refine ⟨1, rfl, ?_⟩
        refine w_ixT (SqT.of h) rfl ?_
        walk_at "go"
        refine wh wv w' _ hw hB' _ _ fun cv H1 e1 hc => ?_
        have h1 := e1 _ _ h
        walk_at "go"
        refine w_ixT (SqT.of h1) rfl ?_
        walk_at "go"
        refine w_sEA false (by decide +kernel) ?_
        refine ⟨_, rfl, ?_⟩
        rw [if_neg Bool.false_ne_true]
        walk_at "go"
        refine w_ixT (SqT.of h1) rfl ?_
        walk_at "go"
        refine w_sEA false (by decide +kernel) ?_
        refine ⟨_, rfl, ?_⟩
        rw [if_neg Bool.false_ne_true]
        walk_at "go"
        refine w_ixT (SqT.of h1) rfl ?_
        walk_at "go"
        refine w_sEA true (by decide +kernel) ?_
        refine ⟨_, rfl, ?_⟩
        rw [if_pos rfl]
        walk_at "go"
        refine w_makeK ?_
        walk_at "go"
        refine w_ixT (SqT.of h1) rfl ?_
        walk_at "go"
        refine w_ixT (SqT.of h1) rfl ?_
        walk_at "go"
        refine w_ixT (SqT.of h1) rfl ?_
        walk_at "go"
        refine ⟨rfl, rfl, ?_⟩
        exact mkIK rfl fun a H' ha e hi => q _ _ (e1.trans e) (.number hi (hc.si e.si))
      | @check t n' mv m w' wv h hm hw =>
        have hB' : (m.dep ≤ 10 ∧ m.simp.length ≤ 100) ∧ WU w' := by rw [RU] at hB; exact hB
        walk_at "go"
        refine ⟨1, rfl, ?_⟩
        refine w_ixT (SqT.of h) rfl ?_
        walk_at "go"
        refine wh wv w' _ hw hB'.2 _ _ fun cv H1 e1 hc => ?_
        have h1 := e1 _ _ h
        walk_at "go"
        refine w_ixT (SqT.of h1) rfl ?_
        walk_at "go"
        refine w_sEA false (by decide +kernel) ?_
        refine ⟨_, rfl, ?_⟩
        rw [if_neg Bool.false_ne_true]
        walk_at "go"
        refine w_ixT (SqT.of h1) rfl ?_
        walk_at "go"
        refine w_sEA false (by decide +kernel) ?_
        refine ⟨_, rfl, ?_⟩
        rw [if_neg Bool.false_ne_true]
        walk_at "go"
        refine w_ixT (SqT.of h1) rfl ?_
        walk_at "go"
        refine w_sEA false (by decide +kernel) ?_
        refine ⟨_, rfl, ?_⟩
        rw [if_neg Bool.false_ne_true]
        walk_at "go"
        refine w_ixT (SqT.of h1) rfl ?_
        walk_at "go"
        refine w_sEA true (by decide +kernel) ?_
        refine ⟨_, rfl, ?_⟩
        rw [if_pos rfl]
        walk_at "go"
        refine w_makeK ?_
        walk_at "go"
        refine w_ixT (SqT.of h1) rfl ?_
        walk_at "go"
        refine w_ixT (SqT.of h1) rfl ?_
        walk_at "go"
        refine ⟨mv, some m, rfl, .some (hm.same e1), by show m.dep < 11; omega, fun v2 H2 e2 hc2 => ?_⟩
        cases hc2 with
        | some hc2 =>
          walk_at "go"
          refine ⟨rfl, rfl, ?_⟩
          exact mkIK rfl fun a H' ha e hi => q _ _ ((e1.trans e2).trans e) (.check hi (hc2.si e.si) (hc.si (e2.trans e).si))
      | @sect t l xs rs w' wv h hl hrs hw =>
        have hB' : RUs rs ∧ WU w' := by rw [RU] at hB; exact hB
        walk_at "go"
        refine ⟨1, rfl, ?_⟩
        refine w_ixT (SqT.of h) rfl ?_
        walk_at "go"
        refine wh wv w' _ hw hB'.2 _ _ fun cv H1 e1 hc => ?_
        have h1 := e1 _ _ h
        walk_at "go"
        refine w_ixT (SqT.of h1) rfl ?_
        walk_at "go"
        refine w_sEA false (by decide +kernel) ?_
        refine ⟨_, rfl, ?_⟩
        rw [if_neg Bool.false_ne_true]
        walk_at "go"
        refine w_ixT (SqT.of h1) rfl ?_
        walk_at "go"
        refine w_sEA false (by decide +kernel) ?_
        refine ⟨_, rfl, ?_⟩
        rw [if_neg Bool.false_ne_true]
        walk_at "go"
        refine w_ixT (SqT.of h1) rfl ?_
        walk_at "go"
        refine w_sEA false (by decide +kernel) ?_
        refine ⟨_, rfl, ?_⟩
        rw [if_neg Bool.false_ne_true]
        walk_at "go"
        refine w_ixT (SqT.of h1) rfl ?_
        walk_at "go"
        refine w_sEA false (by decide +kernel) ?_
        refine ⟨_, rfl, ?_⟩
        rw [if_neg Bool.false_ne_true]
        walk_at "go"
        refine w_ixT (SqT.of h1) rfl ?_
        walk_at "go"
        refine w_sEA true (by decide +kernel) ?_
        refine ⟨_, rfl, ?_⟩
        rw [if_pos rfl]
        walk_at "go"
        refine w_makeK ?_
        walk_at "go"
        refine w_ixT (SqT.of h1) rfl ?_
        walk_at "go"
        have hd' : 1 + Rws.dep rs < n + 1 := by rw [Rw.dep] at hn; exact hn
        have hc' : 1 + Rws.cnt rs ≤ 1000 := by rw [Rw.cnt] at hcn; exact hcn
        refine ⟨l, xs, rs, rfl, e1 _ _ hl, hrs.same e1, hB'.1, by omega, by omega, fun D H2 ys hDn e2 hD hys => ?_⟩
        walk_at "go"
        refine ⟨rfl, rfl, ?_⟩
        exact mkIS (xs := ys) hD fun a t H' ha e hi ht => q _ _ ((e1.trans e2).trans e) (.sect hi ht (ROs.si e.si hys) (hc.si (e2.trans e).si))
      | @rounds t l n' xs rs w' wv h hl hrs hw =>
        have hB' : RUs rs ∧ WU w' := by rw [RU] at hB; exact hB
        walk_at "go"
        refine ⟨1, rfl, ?_⟩
        refine w_ixT (SqT.of h) rfl ?_
        walk_at "go"
        refine wh wv w' _ hw hB'.2 _ _ fun cv H1 e1 hc => ?_
        have h1 := e1 _ _ h
        walk_at "go"
        refine w_ixT (SqT.of h1) rfl ?_
        walk_at "go"
        refine w_sEA false (by decide +kernel) ?_
        refine ⟨_, rfl, ?_⟩
        rw [if_neg Bool.false_ne_true]
        walk_at "go"
        refine w_ixT (SqT.of h1) rfl ?_
        walk_at "go"
        refine w_sEA false (by decide +kernel) ?_
        refine ⟨_, rfl, ?_⟩
        rw [if_neg Bool.false_ne_true]
        walk_at "go"
        refine w_ixT (SqT.of h1) rfl ?_
        walk_at "go"
        refine w_sEA false (by decide +kernel) ?_
        refine ⟨_, rfl, ?_⟩
        rw [if_neg Bool.false_ne_true]
        walk_at "go"
        refine w_ixT (SqT.of h1) rfl ?_
        walk_at "go"
        refine w_sEA false (by decide +kernel) ?_
        refine ⟨_, rfl, ?_⟩
        rw [if_neg Bool.false_ne_true]
        walk_at "go"
        refine w_ixT (SqT.of h1) rfl ?_
        walk_at "go"
        refine w_sEA false (by decide +kernel) ?_
        refine ⟨_, rfl, ?_⟩
        rw [if_neg Bool.false_ne_true]
        walk_at "go"
        refine w_makeK ?_
        walk_at "go"
        refine w_ixT (SqT.of h1) rfl ?_
        walk_at "go"
        refine w_ixT (SqT.of h1) rfl ?_
        walk_at "go"
        have hd' : 1 + Rws.dep rs < n + 1 := by rw [Rw.dep] at hn; exact hn
        have hc' : 1 + Rws.cnt rs ≤ 1000 := by rw [Rw.cnt] at hcn; exact hcn
        refine ⟨l, xs, rs, rfl, e1 _ _ hl, hrs.same e1, hB'.1, by omega, by omega, fun D H2 ys hDn e2 hD hys => ?_⟩
        walk_at "go"
        refine ⟨rfl, rfl, ?_⟩
        exact mkIT (xs := ys) hD fun a t H' ha e hi ht => q _ _ ((e1.trans e2).trans e) (.rounds hi ht (ROs.si e.si hys) (hc.si (e2.trans e).si))
    exact ⟨main, step _ main⟩
end
end K3
end A11_part
section A12_part
set_option Elab.async false
set_option linter.all false
set_option maxRecDepth 100000
set_option maxHeartbeats 1000000
set_option pp.deepTerms true
open PySem PySem.Spec PyProof.Rows L2
/-- go on as far as nothing is open -/
local macro_rules | `(tactic| walk_at "go") => `(tactic| repeat (first
  | with_reducible refine w_seq ?_ | with_reducible refine w_next ?_ | with_reducible refine w_set ?_ | with_reducible refine w_drop ?_ | with_reducible refine w_ret ?_ | with_reducible refine w_retN ?_
  | with_reducible refine w_if ?_ | ((with_reducible refine' w_var ?hv ?_); (case hv => exact rfl)) | with_reducible refine w_c ?_ | with_reducible refine w_nil ?_ | with_reducible refine w_cons ?_ | with_reducible refine w_op ?_ | with_reducible refine w_un ?_
  | with_reducible refine w_test ?_ | with_reducible refine w_tB ?_ | with_reducible refine w_not ?_ | with_reducible refine w_and ?_ | with_reducible refine w_or ?_ | with_reducible refine w_bl ?_
  | with_reducible refine w_andV ?_ | with_reducible refine w_orV ?_ | with_reducible refine w_notV ?_ | with_reducible refine w_ifE ?_ | with_reducible refine w_chain ?_ | with_reducible refine w_i0 ?_
  | with_reducible refine w_call ?_ | with_reducible refine w_callS ?_ | with_reducible refine w_cB ?_ | with_reducible refine w_tup ?_ | with_reducible refine w_lst ?_ | with_reducible refine w_fldV ?_
  | with_reducible refine w_neF ?_ | with_reducible refine w_neT ?_ | with_reducible refine w_notN ?_ | with_reducible refine w_isN ?_ | with_reducible refine w_gname ?_ | with_reducible refine w_gsub ?_ | with_reducible refine w_asg ?_ | with_reducible refine w_sl ?_ | with_reducible refine w_noP ?_ | with_reducible refine w_int1 ?_ | with_reducible refine w_part ?_ | with_reducible refine w_meth ?_ | with_reducible refine w_din ?_ | with_reducible refine w_dnotin ?_ | with_reducible refine w_dgt ?_ | with_reducible refine w_dget1 ?_ | with_reducible refine w_dget2 ?_ | with_reducible refine w_dput ?_ | with_reducible refine w_yes ?_ | with_reducible refine w_nT ?_ | with_reducible refine w_nF ?_ | with_reducible refine w_iteT ?_ | with_reducible refine w_iteF ?_))
namespace K3
mutual
def Rw.qs : Rw → List Rw
  | .one n os w => [.one n os w]
  | .some n os w => [.some n os w]
  | .number n lo hi w => [.number n lo hi w]
  | .check _ _ _ => []
  | .sect rs _ => Rws.qs rs
  | .rounds _ rs _ => Rws.qs rs
def Rws.qs : List Rw → List Rw
  | [] => []
  | r :: rs => Rw.qs r ++ Rws.qs rs
end
theorem qs_app : ∀ rs us : List Rw, Rws.qs (rs ++ us) = Rws.qs rs ++ Rws.qs us
  | [], us => by rw [List.nil_append, Rws.qs.eq_1, List.nil_append]
  | r :: rs, us => by rw [List.cons_append, Rws.qs, Rws.qs, qs_app rs us, List.append_assoc]
theorem qs_one (r : Rw) : Rws.qs [r] = Rw.qs r := by rw [Rws.qs, Rws.qs, List.append_nil]
mutual
theorem Rw.qs_flat : ∀ (r : Rw) (ar : Option Nat) (k : Nat), qsOf (r.flat ar k) = Rw.qs r
  | .one n os w, ar, k => by rw [Rw.flat, Rw.qs]; rfl
  | .some n os w, ar, k => by rw [Rw.flat, Rw.qs]; rfl
  | .number n lo hi w, ar, k => by rw [Rw.flat, Rw.qs]; rfl
  | .check n m w, ar, k => by rw [Rw.flat, Rw.qs]; rfl
  | .sect rs w, ar, k => by rw [Rw.flat, Rw.qs]; exact Rws.qs_flat rs ar (k + 1)
  | .rounds c rs w, ar, k => by rw [Rw.flat, Rw.qs]; exact Rws.qs_flat rs (some k) (k + 1)
theorem Rws.qs_flat : ∀ (rs : List Rw) (ar : Option Nat) (k : Nat), qsOf (Rws.flat rs ar k) = Rws.qs rs
  | [], ar, k => by rw [Rws.flat, Rws.qs]; rfl
  | r :: rs, ar, k => by
    rw [Rws.flat, Rws.qs, show qsOf (r.flat ar k ++ Rws.flat rs ar (k + r.cnt)) = qsOf (r.flat ar k) ++ qsOf (Rws.flat rs ar (k + r.cnt)) from List.filterMap_append, Rw.qs_flat r, Rws.qs_flat rs]
end
mutual
theorem Rw.qs_len : ∀ r : Rw, (Rw.qs r).length ≤ r.cnt
  | .one _ _ _ => by rw [Rw.qs]; unfold Rw.cnt; exact Nat.le_refl 1
  | .some _ _ _ => by rw [Rw.qs]; unfold Rw.cnt; exact Nat.le_refl 1
  | .number _ _ _ _ => by rw [Rw.qs]; unfold Rw.cnt; exact Nat.le_refl 1
  | .check _ _ _ => by rw [Rw.qs]; exact Nat.zero_le _
  | .sect rs _ => by rw [Rw.qs, Rw.cnt]; have := Rws.qs_len rs; omega
  | .rounds _ rs _ => by rw [Rw.qs, Rw.cnt]; have := Rws.qs_len rs; omega
theorem Rws.qs_len : ∀ rs : List Rw, (Rws.qs rs).length ≤ Rws.cnt rs
  | [] => by rw [Rws.qs]; exact Nat.zero_le _
  | r :: rs => by rw [Rws.qs, Rws.cnt, List.length_append]; have := Rw.qs_len r; have := Rws.qs_len rs; omega
end
theorem cnt_takeA (rs : List Rw) (i : Nat) : Rws.cnt (rs.take i) ≤ Rws.cnt rs := by
  have h := cntA_app (rs.take i) (rs.drop i)
  rw [List.take_append_drop] at h
  omega
theorem dep_memA {r : Rw} : ∀ {rs : List Rw}, r ∈ rs → r.dep ≤ Rws.dep rs
  | q :: rs, h => by
    rw [Rws.dep]
    rcases List.mem_cons.mp h with z | z
    · rw [z]; omega
    · have := dep_memA z
      omega
theorem cnt_memA {r : Rw} : ∀ {rs : List Rw}, r ∈ rs → r.cnt ≤ Rws.cnt rs
  | q :: rs, h => by
    rw [Rws.cnt]
    rcases List.mem_cons.mp h with z | z
    · rw [z]; omega
    · have := cnt_memA z
      omega
theorem Same.freeA {H H' : Hp} (e : Same H H') {p : Addr} (h : H' p = none) : H p = none := by
  cases k : H p with
  | none => rfl
  | some o => rw [e _ _ k] at h; cases h
def spQuestions (K : PySem.W.Frag) (n : Nat) : Sp := fun vs H Q _ => ∃ (l : Addr) (xs : List V) (rs : List Rw) (B : Hp), vs = [.ref l] ∧ Same B H ∧ B l = some (.lst xs) ∧ DRs B xs rs ∧ Rws.dep rs < n ∧ Rws.cnt rs ≤ 1000 ∧ ∀ D H' ys, H D = none → Same H H' → H' D = some (.lst ys) → DRs B ys (Rws.qs rs) → Q (.ref D) H'
section
variable {P : Program} {w : World} {K : PySem.W.Frag} {mg : Str → Option Value} {base : Heap}
theorem sc_questions : FnScope ["_law_rows", "_law_found", "_law_row"] ["_law_rows"] (defScope s__law_questions) := ⟨rfl, rfl, rfl, by decide +kernel, rfl, by decide +kernel, by decide +kernel⟩
theorem ok_questions (T : Tx K mg) (n : Nat) : Ok P w K mg base (n + 1) (He.ga K "_law_questions") ["_law_rows"] (spQuestions K n) := by
  induction n with
  | zero =>
    obtain ⟨fd, F⟩ := T.f__law_questions
    exact ⟨fd, ok_noneS fun vs H Q E ⟨_, _, _, _, _, _, _, _, h, _⟩ => absurd h (Nat.not_lt_zero _), F.bindsN fun _ _ _ _ _ _ us hl => match us, hl with | [_], _ => rfl, F.kp⟩
  | succ n O_law_questions =>
    obtain ⟨fd, F⟩ := T.f__law_questions
    refine ⟨fd, F.ok (k := n + 1) sc_questions (fun vs H Q E h => ?_) (fun cdv A outer s_ H vs Q E hr h => ?_), F.bindsN fun _ _ _ _ _ _ us hl => match us, hl with | [_], _ => rfl, F.kp⟩
    · obtain ⟨l, xs, rs, B, rfl, _⟩ := h
      rfl
    obtain ⟨l, xs, rs, B, rfl, eB, hl, hd, hn, hc, q⟩ := h
    have r_law_questions := hr
    refine ⟨_, pss_cons (ps_set (i := 1) sc_questions.nd rfl (Or.inl rfl) (pe_lst pa_nil))
      (pss_cons (ps_for (passes_of rfl) (by rfl) (pi_list (pv 0)) (pg_name (i := 2) sc_questions.nd rfl (Or.inl rfl)) (pss_one (ps_if (pt_cmpR op_in_seq (pe_ix ix_tup (pv 2) pe_int (fun _ _ => rfl)) (pe_tup (pa_cons pe_str (pa_cons pe_str pa_nil))) (by rfl)) (pss_one (ps_set (i := 1) sc_questions.nd rfl (Or.inl rfl) (pe_op op_cat (pv 1) (pe_f O_law_questions r_law_questions T.g__law_questions (pa_cons (pe_ix ix_tup (pv 2) (pe_un un_neg pe_int) (fun _ _ => rfl)) pa_nil))))) (pss_one (ps_if (pt_cmpR op_ne (pe_ix ix_tup (pv 2) pe_int (fun _ _ => rfl)) pe_str (nomark _)) (pss_one (ps_expr (pe_bm PySem.F.plainAttrs_list PySem.F.slot_list_append PySem.F.type_list_append mt_append (pv 1) (pa_cons (pv 2) pa_nil)))) pss_nil)))))
      (pss_one (ps_ret (pv 1)))), ?_⟩
    walk_at "go"
    refine ⟨Nat.zero_le _, fun D hD => ?_⟩
    have e0 := Same.new hD (.lst [])
    have g0 : (upd H D (.lst [])) D = some (.lst []) := upd_same
    generalize upd H D (.lst []) = H0 at e0 g0 ⊢
    walk_at "go"
    refine list_open ?_
    walk_at "go"
    refine ⟨l, rfl, ⟨_, SqL.of (e0 _ _ (eB _ _ hl))⟩, ?_⟩
    refine for_list (K := K) (a := l) (xs := xs) (fun (i : Nat) σ H' => ∃ (D : Addr) (ys : List V) (o2 : Option V), σ = [some (.ref l), some (.ref D), o2] ∧ Same H H' ∧ H D = none ∧ H' D = some (.lst ys) ∧ DRs B ys (Rws.qs (rs.take i)))
      ⟨D, [], none, rfl, e0, hD, g0, by rw [List.take_zero, Rws.qs]; exact .nil⟩ (fun i σ H' _ ⟨_, _, _, _, e, _⟩ => SqL.of (e _ _ (eB _ _ hl))) ?_ ?_
    · rintro i x σ H1 hx ⟨D, ys, o2, rfl, e1, hD, g1, dq⟩
      obtain ⟨r, hr1, hdr⟩ := hd.getA hx
      have rm := List.mem_of_getElem? hr1
      have tk : Rws.qs (rs.take (i + 1)) = Rws.qs (rs.take i) ++ Rw.qs r := by
        rw [List.take_add_one, hr1, qs_app]
        show _ ++ Rws.qs [r] = _
        rw [qs_one]
      have lys : ys.length ≤ 1000 := by
        rw [dq.len]
        exact Nat.le_trans (Rws.qs_len _) (Nat.le_trans (cnt_takeA _ _) hc)
      rw [tk]
      walk_at "go"
      have hdr0 := hdr
      cases hdr with
      | @one t l2 n os w' wv h hl2 hw =>
        refine w_ixT (SqT.of (e1 _ _ (eB _ _ h))) rfl ?_
        walk_at "go"
        refine ⟨(by show 2 ≤ sizeLine; decide), fun pt hpt => ?_⟩
        have e2 := Same.new hpt (.tup [V.str "section", .str "rounds"])
        refine ⟨pt, _, rfl, .inr (SqT.of upd_same), rfl, rfl, ?_⟩
        refine ⟨false, (by decide +kernel), ?_⟩
        generalize upd H1 pt (.tup [V.str "section", .str "rounds"]) = H2 at e2 ⊢
        rw [if_neg Bool.false_ne_true]
        walk_at "go"
        refine w_ixT (SqT.of (e2 _ _ (e1 _ _ (eB _ _ h)))) rfl ?_
        walk_at "go"
        refine ⟨rfl, true, (by decide +kernel), ?_⟩
        rw [if_pos rfl]
        walk_at "go"
        refine ⟨_, rfl, .inl ⟨rfl, _, SqL.of (e2 _ _ g1)⟩, ?_⟩
        walk_at "go"
        refine ⟨D, ys, _, rfl, rfl, e2 _ _ g1, Nat.lt_of_le_of_lt lys (by decide), ?_⟩
        refine ⟨D, ys ++ [.ref t], _, rfl, (e1.trans e2).mut hD, hD, upd_same, dq.app ?_⟩
        rw [Rw.qs]
        exact .cons hdr0 .nil
      | @some t l2 n os w' wv h hl2 hw =>
        refine w_ixT (SqT.of (e1 _ _ (eB _ _ h))) rfl ?_
        walk_at "go"
        refine ⟨(by show 2 ≤ sizeLine; decide), fun pt hpt => ?_⟩
        have e2 := Same.new hpt (.tup [V.str "section", .str "rounds"])
        refine ⟨pt, _, rfl, .inr (SqT.of upd_same), rfl, rfl, ?_⟩
        refine ⟨false, (by decide +kernel), ?_⟩
        generalize upd H1 pt (.tup [V.str "section", .str "rounds"]) = H2 at e2 ⊢
        rw [if_neg Bool.false_ne_true]
        walk_at "go"
        refine w_ixT (SqT.of (e2 _ _ (e1 _ _ (eB _ _ h)))) rfl ?_
        walk_at "go"
        refine ⟨rfl, true, (by decide +kernel), ?_⟩
        rw [if_pos rfl]
        walk_at "go"
        refine ⟨_, rfl, .inl ⟨rfl, _, SqL.of (e2 _ _ g1)⟩, ?_⟩
        walk_at "go"
        refine ⟨D, ys, _, rfl, rfl, e2 _ _ g1, Nat.lt_of_le_of_lt lys (by decide), ?_⟩
        refine ⟨D, ys ++ [.ref t], _, rfl, (e1.trans e2).mut hD, hD, upd_same, dq.app ?_⟩
        rw [Rw.qs]
        exact .cons hdr0 .nil
      | @number t n lo hi w' wv h hw =>
        refine w_ixT (SqT.of (e1 _ _ (eB _ _ h))) rfl ?_
        walk_at "go"
        refine ⟨(by show 2 ≤ sizeLine; decide), fun pt hpt => ?_⟩
        have e2 := Same.new hpt (.tup [V.str "section", .str "rounds"])
        refine ⟨pt, _, rfl, .inr (SqT.of upd_same), rfl, rfl, ?_⟩
        refine ⟨false, (by decide +kernel), ?_⟩
        generalize upd H1 pt (.tup [V.str "section", .str "rounds"]) = H2 at e2 ⊢
        rw [if_neg Bool.false_ne_true]
        walk_at "go"
        refine w_ixT (SqT.of (e2 _ _ (e1 _ _ (eB _ _ h)))) rfl ?_
        walk_at "go"
        refine ⟨rfl, true, (by decide +kernel), ?_⟩
        rw [if_pos rfl]
        walk_at "go"
        refine ⟨_, rfl, .inl ⟨rfl, _, SqL.of (e2 _ _ g1)⟩, ?_⟩
        walk_at "go"
        refine ⟨D, ys, _, rfl, rfl, e2 _ _ g1, Nat.lt_of_le_of_lt lys (by decide), ?_⟩
        refine ⟨D, ys ++ [.ref t], _, rfl, (e1.trans e2).mut hD, hD, upd_same, dq.app ?_⟩
        rw [Rw.qs]
        exact .cons hdr0 .nil
      | @check t n mv m w' wv h hm hw =>
        refine w_ixT (SqT.of (e1 _ _ (eB _ _ h))) rfl ?_
        walk_at "go"
        refine ⟨(by show 2 ≤ sizeLine; decide), fun pt hpt => ?_⟩
        have e2 := Same.new hpt (.tup [V.str "section", .str "rounds"])
        refine ⟨pt, _, rfl, .inr (SqT.of upd_same), rfl, rfl, ?_⟩
        refine ⟨false, (by decide +kernel), ?_⟩
        generalize upd H1 pt (.tup [V.str "section", .str "rounds"]) = H2 at e2 ⊢
        rw [if_neg Bool.false_ne_true]
        walk_at "go"
        refine w_ixT (SqT.of (e2 _ _ (e1 _ _ (eB _ _ h)))) rfl ?_
        walk_at "go"
        refine ⟨rfl, false, (by decide +kernel), ?_⟩
        rw [if_neg Bool.false_ne_true]
        walk_at "go"
        refine ⟨D, ys, _, rfl, e1.trans e2, hD, e2 _ _ g1, ?_⟩
        rw [Rw.qs, List.append_nil]
        exact dq
      | @sect t l2 us ws w' wv h hl2 hrs hw =>
        refine w_ixT (SqT.of (e1 _ _ (eB _ _ h))) rfl ?_
        walk_at "go"
        refine ⟨(by show 2 ≤ sizeLine; decide), fun pt hpt => ?_⟩
        have e2 := Same.new hpt (.tup [V.str "section", .str "rounds"])
        refine ⟨pt, _, rfl, .inr (SqT.of upd_same), rfl, rfl, ?_⟩
        refine ⟨true, (by decide +kernel), ?_⟩
        generalize upd H1 pt (.tup [V.str "section", .str "rounds"]) = H2 at e2 ⊢
        rw [if_pos rfl]
        walk_at "go"
        refine ⟨2, rfl, ?_⟩
        refine w_ixT (SqT.of (e2 _ _ (e1 _ _ (eB _ _ h)))) rfl ?_
        have hdp := dep_memA rm
        have hcm := cnt_memA rm
        rw [Rw.dep] at hdp
        rw [Rw.cnt] at hcm
        refine ⟨l2, us, ws, B, rfl, eB.trans (e1.trans e2), hl2, hrs, by omega, by omega, fun D3 H3 zs hD3 e3 g3 d3 => ?_⟩
        have lz : zs.length ≤ 1000 := by
          rw [d3.len]
          have := Rws.qs_len ws
          omega
        refine ⟨D, D3, _, _, rfl, rfl, e3 _ _ (e2 _ _ g1), g3, Nat.le_trans (show ys.length + zs.length ≤ 2000 by omega) (by decide), fun D4 hD4 => ?_⟩
        have e4 := Same.new hD4 (.lst (ys ++ zs))
        have e13 := e1.trans (e2.trans e3)
        refine ⟨D4, ys ++ zs, _, rfl, e13.trans e4, Same.freeA e13 hD4, upd_same, dq.app ?_⟩
        rw [Rw.qs]
        exact d3
      | @rounds t l2 n us ws w' wv h hl2 hrs hw =>
        refine w_ixT (SqT.of (e1 _ _ (eB _ _ h))) rfl ?_
        walk_at "go"
        refine ⟨(by show 2 ≤ sizeLine; decide), fun pt hpt => ?_⟩
        have e2 := Same.new hpt (.tup [V.str "section", .str "rounds"])
        refine ⟨pt, _, rfl, .inr (SqT.of upd_same), rfl, rfl, ?_⟩
        refine ⟨true, (by decide +kernel), ?_⟩
        generalize upd H1 pt (.tup [V.str "section", .str "rounds"]) = H2 at e2 ⊢
        rw [if_pos rfl]
        walk_at "go"
        refine ⟨2, rfl, ?_⟩
        refine w_ixT (SqT.of (e2 _ _ (e1 _ _ (eB _ _ h)))) rfl ?_
        have hdp := dep_memA rm
        have hcm := cnt_memA rm
        rw [Rw.dep] at hdp
        rw [Rw.cnt] at hcm
        refine ⟨l2, us, ws, B, rfl, eB.trans (e1.trans e2), hl2, hrs, by omega, by omega, fun D3 H3 zs hD3 e3 g3 d3 => ?_⟩
        have lz : zs.length ≤ 1000 := by
          rw [d3.len]
          have := Rws.qs_len ws
          omega
        refine ⟨D, D3, _, _, rfl, rfl, e3 _ _ (e2 _ _ g1), g3, Nat.le_trans (show ys.length + zs.length ≤ 2000 by omega) (by decide), fun D4 hD4 => ?_⟩
        have e4 := Same.new hD4 (.lst (ys ++ zs))
        have e13 := e1.trans (e2.trans e3)
        refine ⟨D4, ys ++ zs, _, rfl, e13.trans e4, Same.freeA e13 hD4, upd_same, dq.app ?_⟩
        rw [Rw.qs]
        exact d3
    · rintro σ H1 ⟨D, ys, o2, rfl, e1, hD, g1, dq⟩
      rw [hd.len, List.take_length] at dq
      walk_at "go"
      exact q D H1 ys hD e1 g1 dq
end
end K3
end A12_part
section U1_part
set_option Elab.async false
set_option linter.all false
set_option maxRecDepth 100000
set_option maxHeartbeats 1000000
set_option pp.deepTerms true
open PySem PySem.Spec PyProof.Rows L2
/-- go on as far as nothing is open -/
local macro_rules | `(tactic| walk_at "go") => `(tactic| repeat (first
  | with_reducible refine w_seq ?_ | with_reducible refine w_next ?_ | with_reducible refine w_set ?_ | with_reducible refine w_drop ?_ | with_reducible refine w_ret ?_ | with_reducible refine w_retN ?_
  | with_reducible refine w_if ?_ | ((with_reducible refine' w_var ?hv ?_); (case hv => exact rfl)) | with_reducible refine w_c ?_ | with_reducible refine w_nil ?_ | with_reducible refine w_cons ?_ | with_reducible refine w_op ?_ | with_reducible refine w_un ?_
  | with_reducible refine w_test ?_ | with_reducible refine w_tB ?_ | with_reducible refine w_not ?_ | with_reducible refine w_and ?_ | with_reducible refine w_or ?_ | with_reducible refine w_bl ?_
  | with_reducible refine w_andV ?_ | with_reducible refine w_orV ?_ | with_reducible refine w_notV ?_ | with_reducible refine w_ifE ?_ | with_reducible refine w_chain ?_ | with_reducible refine w_i0 ?_
  | with_reducible refine w_call ?_ | with_reducible refine w_callS ?_ | with_reducible refine w_cB ?_ | with_reducible refine w_tup ?_ | with_reducible refine w_lst ?_ | with_reducible refine w_fldV ?_
  | with_reducible refine w_neF ?_ | with_reducible refine w_neT ?_ | with_reducible refine w_notN ?_ | with_reducible refine w_isN ?_ | with_reducible refine w_gname ?_ | with_reducible refine w_gsub ?_ | with_reducible refine w_asg ?_ | with_reducible refine w_sl ?_ | with_reducible refine w_noP ?_ | with_reducible refine w_int1 ?_ | with_reducible refine w_part ?_ | with_reducible refine w_meth ?_ | with_reducible refine w_din ?_ | with_reducible refine w_dnotin ?_ | with_reducible refine w_dgt ?_ | with_reducible refine w_dget1 ?_ | with_reducible refine w_dget2 ?_ | with_reducible refine w_dput ?_ | with_reducible refine w_yes ?_ | with_reducible refine w_nT ?_ | with_reducible refine w_nF ?_ | with_reducible refine w_iteT ?_ | with_reducible refine w_iteF ?_))
namespace K3
/-! ### walks: what a condition says of the answers that count -/
def spk (rs : List Rw) (cl : Ans) (n : Str) (k : Int) : Option An := lookA cl (n, if inRd rs n = true then k else 0)
def hol : Cd → Option An → Bool
  | .is _ o, some (.str z) => decide (z = o)
  | .has _ o, some (.tup zs) => decide (o ∈ zs)
  | .over _ i, some (.int j) => decide (i < j)
  | .under _ i, some (.int j) => decide (j < i)
  | _, _ => false
/-- an answer that a simple condition may be asked of -/
def fitS : Cd → An → Prop
  | .is _ _, x => ∃ z, x = .str z
  | .has _ _, x => ∃ zs, x = .tup zs
  | .over _ _, x => ∃ i, x = .int i
  | .under _ _, x => ∃ i, x = .int i
  | _, _ => False
def evC (rs : List Rw) (cl : Ans) (k : Int) : Cd → Bool
  | .no c => !evC rs cl k c
  | .both c d => evC rs cl k c && evC rs cl k d
  | .either c d => evC rs cl k c || evC rs cl k d
  | .is n o => hol (.is n o) (spk rs cl n k)
  | .has n o => hol (.has n o) (spk rs cl n k)
  | .over n i => hol (.over n i) (spk rs cl n k)
  | .under n i => hol (.under n i) (spk rs cl n k)
/-- the answers that count fit what the condition asks of them -/
def CdFit (rs : List Rw) (cl : Ans) (k : Int) : Cd → Prop
  | .no c => CdFit rs cl k c
  | .both c d => CdFit rs cl k c ∧ CdFit rs cl k d
  | .either c d => CdFit rs cl k c ∧ CdFit rs cl k d
  | .is n o => ∀ x, spk rs cl n k = some x → fitS (.is n o) x
  | .has n o => ∀ x, spk rs cl n k = some x → fitS (.has n o) x
  | .over n i => ∀ x, spk rs cl n k = some x → fitS (.over n i) x
  | .under n i => ∀ x, spk rs cl n k = some x → fitS (.under n i) x
/-- a walk while it is gone -/
structure RoadO (K : PySem.W.Frag) (H : Hp) (R f ad l cd : Addr) (rs : List Rw) (al cl : Ans) (sp : List Spot) : Prop where
  ins : ∃ dx, H R = some (.ins (He.ga K "Road") dx [("form", .ref f), ("answers", .ref ad), ("asked", .ref l), ("counted", .ref cd)])
  form : FormO K H f rs
  ans : ∃ kvs, H ad = some (.dT kvs) ∧ AD H ad kvs al
  asked : ∃ ps : List Addr, H l = some (.lst (ps.map V.ref)) ∧ Paired (fun p (s : Spot) => H p = some (.tup [.str s.1, .int s.2])) ps sp
  cnt : ∃ kvs, H cd = some (.dT kvs) ∧ AD H cd kvs cl
theorem RoadO.same {K : PySem.W.Frag} {H H' : Hp} (e : Same H H') {R f ad l cd : Addr} {rs : List Rw} {al cl : Ans} {sp : List Spot} (h : RoadO K H R f ad l cd rs al cl sp) : RoadO K H' R f ad l cd rs al cl sp := by
  obtain ⟨⟨dx, h1⟩, h2, ⟨kvs, h3, h4⟩, ⟨ps, h5, h6⟩, ⟨kv2, h7, h8⟩⟩ := h
  exact ⟨⟨dx, e _ _ h1⟩, h2.same e, ⟨kvs, e _ _ h3, h4.nt (Same.nt e)⟩, ⟨ps, e _ _ h5, L2.Paired.mapP h6 fun _ _ z => e _ _ z⟩, ⟨kv2, e _ _ h7, h8.nt (Same.nt e)⟩⟩
def AnOpt (H : Hp) (v : V) : Option An → Prop
  | none => v = .non
  | some x => AnO H v x ∧ x.ok
def spHoldsOf (K : PySem.W.Frag) : Sp := fun vs H Q _ => ∃ (cv v : V) (c : Cd) (x : Option An), vs = [cv, v] ∧ CO K H cv c ∧ AnOpt H v x ∧ (∀ y, x = some y → fitS c y) ∧ Q (.bl (hol c x)) H
def spSpoken (K : PySem.W.Frag) : Sp := fun vs H Q _ => ∃ (R f ad l cd : Addr) (n : Str) (k : Int) (rs : List Rw) (al cl : Ans) (sp : List Spot), vs = [.ref R, .str n, .int k] ∧ RoadO K H R f ad l cd rs al cl sp ∧ ∀ v H', Same H H' → AnOpt H' v (spk rs cl n k) → Q v H'
def spHolds (K : PySem.W.Frag) (N : Nat) : Sp := fun vs H Q _ => ∃ (cv : V) (R f ad l cd : Addr) (k : Int) (c : Cd) (rs : List Rw) (al cl : Ans) (sp : List Spot), vs = [cv, .ref R, .int k] ∧ c.dep < N ∧ CO K H cv c ∧ CdFit rs cl k c ∧ RoadO K H R f ad l cd rs al cl sp ∧ ∀ H', Same H H' → Q (.bl (evC rs cl k c)) H'
section
variable {P : Program} {w : World} {K : PySem.W.Frag} {mg : Str → Option Value} {base : Heap}
theorem look_opt {H : Hp} {d : Addr} {kvs : List (List Key × V)} {al : Ans} {s : Spot} (h : AD H d kvs al) : ∃ o, valV kvs (keyOf s) = o ∧ AnOpt H (o.getD .non) (lookA al s) := by
  have e := en_val (s := s) h.ents
  cases hl : lookA al s with
  | none => rw [hl] at e; exact ⟨none, e, rfl⟩
  | some x => rw [hl] at e; obtain ⟨v, h1, h2, h3⟩ := e; exact ⟨some v, h1, h2, h3⟩
theorem sc_holds_of : FnScope ["condition", "answer"] ["condition", "answer"] (defScope s_holds_of) := ⟨rfl, rfl, rfl, by decide +kernel, rfl, by decide +kernel, by decide +kernel⟩
theorem ok_holds_of (T : Tx K mg) : Ok P w K mg base 1 (He.ga K "holds_of") ["condition", "answer"] (spHoldsOf K) := by
  obtain ⟨fd, F⟩ := T.f_holds_of
  refine ⟨fd, F.ok (k := 0) sc_holds_of (fun vs H Q E h => ?_) (fun cdv A outer s_ H vs Q E hr h => ?_), F.bindsN fun _ _ _ _ _ _ us hl => match us, hl with | [_, _], _ => rfl, F.kp⟩
  · obtain ⟨cv, v, c, x, rfl, hc, hx, fit, q⟩ := h
    rfl
  obtain ⟨cv, v, c, x, rfl, hc, hx, fit, q⟩ := h
  have hu65 := K3.Room.units65 hr
  have hu70 := K3.Room.units70 hr
  have hu4 := K3.Room.units4 hr
  have hu64 := Nat.lt_of_succ_lt hu65
  have hu0 := Nat.lt_of_le_of_lt (Nat.le_add_right _ 65) hu65
  have hu1 := Nat.lt_of_le_of_lt (Nat.add_le_add_left (show 1 ≤ 65 by decide) _) hu65
  refine ⟨_, pss_cons (ps_if (pt_cmp (pc_isN (pv 1))) (pss_one (ps_ret pe_bl)) pss_nil)
      (pss_cons (ps_if (pt_val (pe_callB call_isi (by rfl) T.z_isinstance (by decide +kernel) (pa_cons (pv 0) (pa_cons (pe_gref T.g_Is) pa_nil)))) (pss_one (ps_ret (pe_cmpR op_eq (pv 1) (pe_fld (pv 0) rfl) rfl))) pss_nil)
      (pss_cons (ps_if (pt_val (pe_callB call_isi (by rfl) T.z_isinstance (by decide +kernel) (pa_cons (pv 0) (pa_cons (pe_gref T.g_Has) pa_nil)))) (pss_one (ps_ret (pe_cmpR op_in_seq (pe_fld (pv 0) rfl) (pv 1) rfl))) pss_nil)
      (pss_cons (ps_if (pt_val (pe_callB call_isi (by rfl) T.z_isinstance (by decide +kernel) (pa_cons (pv 0) (pa_cons (pe_gref T.g_Above) pa_nil)))) (pss_one (ps_ret (pe_cmpR op_gt (pv 1) (pe_fld (pv 0) rfl) rfl))) pss_nil)
      (pss_one (ps_ret (pe_cmpR op_lt (pv 1) (pe_fld (pv 0) rfl) rfl)))))), ?_⟩
  walk_at "go"
  cases x with
  | none =>
    cases hx
    show if decide (V.non = V.non) = true then _ else _
    rw [decide_eq_true rfl]
    walk_at "go"
    have e : hol c none = false := by cases c <;> rfl
    rw [e] at q
    exact q
  | some x =>
    obtain ⟨hx, okx⟩ := hx
    have fit := fit x rfl
    have nn : decide (v = V.non) = false := by
      cases hx with
      | non => cases c <;> (first | (obtain ⟨_, z⟩ := fit; cases z) | exact fit.elim)
      | _ => rfl
    rw [nn]
    walk_at "go"
    refine isiC T hc (y := "Is") (by decide) ?_
    refine ⟨_, rfl, ?_⟩
    cases hc with
    | no _ _ => exact fit.elim
    | both _ _ _ => exact fit.elim
    | either _ _ _ => exact fit.elim
    | @is a n0 o hi =>
      obtain ⟨dx, hi⟩ := hi
      obtain ⟨z, rfl⟩ := fit
      cases hx
      show if true = true then _ else _
      walk_at "go"
      refine ⟨_, _, dx, _, _, rfl, hi, T.cl_Is, T.n_Is_option, rfl, ?_⟩
      refine ⟨rfl, ?_⟩
      rw [show decide (V.str z = V.str o) = decide (z = o) by simp]
      exact q
    | @has a n0 o hi =>
      show if false = true then _ else _
      walk_at "go"
      refine isiC T (.has hi) (y := "Has") (by decide) ?_
      refine ⟨_, rfl, ?_⟩
      obtain ⟨dx, hi⟩ := hi
      obtain ⟨zs, rfl⟩ := fit
      cases hx with
      | tup hp =>
        show if true = true then _ else _
        walk_at "go"
        refine ⟨_, _, dx, _, _, rfl, hi, T.cl_Has, T.n_Has_option, rfl, ?_⟩
        walk_at "go"
        refine ⟨_, _, rfl, .inr (SqT.of hp), rfl, flat_strs zs, ?_⟩
        rw [inV_strs]
        exact q
    | @over a n0 i hi =>
      show if false = true then _ else _
      walk_at "go"
      refine isiC T (.over hi) (y := "Has") (by decide) ?_
      refine ⟨_, rfl, ?_⟩
      show if false = true then _ else _
      walk_at "go"
      refine isiC T (.over hi) (y := "Above") (by decide) ?_
      refine ⟨_, rfl, ?_⟩
      obtain ⟨dx, hi⟩ := hi
      obtain ⟨j, rfl⟩ := fit
      cases hx
      show if true = true then _ else _
      walk_at "go"
      refine ⟨_, _, dx, _, _, rfl, hi, T.cl_Above, T.n_Above_number, rfl, ?_⟩
      walk_at "go"
      exact q
    | @under a n0 i hi =>
      show if false = true then _ else _
      walk_at "go"
      refine isiC T (.under hi) (y := "Has") (by decide) ?_
      refine ⟨_, rfl, ?_⟩
      show if false = true then _ else _
      walk_at "go"
      refine isiC T (.under hi) (y := "Above") (by decide) ?_
      refine ⟨_, rfl, ?_⟩
      obtain ⟨dx, hi⟩ := hi
      obtain ⟨j, rfl⟩ := fit
      cases hx
      show if false = true then _ else _
      walk_at "go"
      refine ⟨_, _, dx, _, _, rfl, hi, T.cl_Below, T.n_Below_number, rfl, ?_⟩
      walk_at "go"
      exact q
theorem sc_spoken_answer : FnScope ["road", "name", "k"] ["road", "name", "k"] (defScope s_spoken_answer) := ⟨rfl, rfl, rfl, by decide +kernel, rfl, by decide +kernel, by decide +kernel⟩
theorem ok_spoken_answer (T : Tx K mg) : Ok P w K mg base 2 (He.ga K "spoken_answer") ["road", "name", "k"] (spSpoken K) := by
  obtain ⟨fd, F⟩ := T.f_spoken_answer
  have OMin_rounds := ok_Form_in_rounds (P := P) (w := w) (base := base) T
  refine ⟨fd, F.ok (k := 1) sc_spoken_answer (fun vs H Q E h => ?_) (fun cdv A outer s_ H vs Q E hr h => ?_), F.bindsN fun _ _ _ _ _ _ us hl => match us, hl with | [_, _, _], _ => rfl, F.kp⟩
  · obtain ⟨R, f, ad, l, cd, n, k, rs, al, cl, sp, rfl, hR, q⟩ := h
    rfl
  obtain ⟨R, f, ad, l, cd, n, k, rs, al, cl, sp, rfl, hR, q⟩ := h
  have hu65 := K3.Room.units65 hr
  have hu70 := K3.Room.units70 hr
  have hu4 := K3.Room.units4 hr
  have hu64 := Nat.lt_of_succ_lt hu65
  have hu0 := Nat.lt_of_le_of_lt (Nat.le_add_right _ 65) hu65
  have hu1 := Nat.lt_of_le_of_lt (Nat.add_le_add_left (show 1 ≤ 65 by decide) _) hu65
  have rMin_rounds : Room 1 _ := hr.mono (by decide)
  refine ⟨_, pss_cons (ps_if (pt_val (pe_mO OMin_rounds rMin_rounds T.cl_Form T.m_Form_in_rounds (pe_fld (pv 0) rfl) (pa_cons (pv 1) pa_nil))) (pss_one (ps_ret (pe_dget1 hu1 (pe_fld (pv 0) rfl) (pe_tup (pa_cons (pv 1) (pa_cons (pv 2) pa_nil))) ⟨rfl, rfl, rfl, rfl⟩))) pss_nil)
      (pss_one (ps_ret (pe_dget1 hu1 (pe_fld (pv 0) rfl) (pe_tup (pa_cons (pv 1) (pa_cons pe_int pa_nil))) ⟨rfl, rfl, rfl, rfl⟩))), ?_⟩
  obtain ⟨⟨dx, hRi⟩, hf, _, _, ⟨kvs, hcd, had⟩⟩ := id hR
  walk_at "go"
  refine ⟨R, _, dx, _, _, rfl, hRi, T.cl_Road, T.n_Road_form, rfl, ?_⟩
  obtain ⟨_, dxf, t, d, d2, xs, kvs0, kv2, hfi, _⟩ := id hf
  refine ⟨f, dxf, _, rfl, hfi, rfl, ?_⟩
  walk_at "go"
  refine ⟨f, n, rs, rfl, hf, fun H1 e1 => ?_⟩
  have hR1 := hR.same e1
  obtain ⟨⟨dx1, hR1i⟩, _, _, _, ⟨kvs1, hcd1, had1⟩⟩ := id hR1
  have fin : ∀ (j : Int), (if inRd rs n = true then k else 0) = j → ∀ p, H1 p = none → ∃ o, DGet (upd H1 p (.tup [V.str n, V.int j])) cd (.ref p) o ∧ Q (o.getD .non) (upd H1 p (.tup [V.str n, V.int j])) := by
    intro j hj p hp
    have e2 := Same.new hp (.tup [V.str n, V.int j])
    obtain ⟨o, ho, han⟩ := look_opt (s := (n, j)) (had1.nt (Same.nt e2))
    refine ⟨o, ho ▸ DGet.t (k := keyOf (n, j)) (e2 _ _ hcd1) upd_same, q _ _ (e1.trans e2) ?_⟩
    unfold spk
    rw [hj]
    exact han
  cases hb : inRd rs n with
  | true =>
    rw [hb, if_pos rfl] at fin
    refine ⟨_, rfl, ?_⟩
    show if true = true then _ else _
    walk_at "go"
    refine ⟨R, _, dx1, _, _, rfl, hR1i, T.cl_Road, T.n_Road_counted, rfl, ?_⟩
    refine ⟨cd, rfl, .inr ⟨_, .inl hcd1⟩, ?_⟩
    walk_at "go"
    exact ⟨(by show 2 ≤ sizeLine; decide), fun p hp => fin _ rfl p hp⟩
  | false =>
    rw [hb, if_neg Bool.false_ne_true] at fin
    refine ⟨_, rfl, ?_⟩
    show if false = true then _ else _
    walk_at "go"
    refine ⟨R, _, dx1, _, _, rfl, hR1i, T.cl_Road, T.n_Road_counted, rfl, ?_⟩
    refine ⟨cd, rfl, .inr ⟨_, .inl hcd1⟩, ?_⟩
    walk_at "go"
    exact ⟨(by show 2 ≤ sizeLine; decide), fun p hp => fin _ rfl p hp⟩
theorem sc_holds : FnScope ["condition", "road", "k"] ["condition", "road", "k"] (defScope s_holds) := ⟨rfl, rfl, rfl, by decide +kernel, rfl, by decide +kernel, by decide +kernel⟩
theorem ok_holds (T : Tx K mg) : ∀ N, Ok P w K mg base (N + 3) (He.ga K "holds") ["condition", "road", "k"] (spHolds K N) := by
  obtain ⟨fd, F⟩ := T.f_holds
  have Oholds_of := ok_holds_of (P := P) (w := w) (base := base) T
  have Ospoken_answer := ok_spoken_answer (P := P) (w := w) (base := base) T
  have b : Binds K fd ["condition", "road", "k"] [] := F.bindsN fun _ _ _ _ _ _ us hl => match us, hl with | [_, _, _], _ => rfl
  intro N
  induction N with
  | zero =>
    refine ⟨fd, F.ok (k := 2) sc_holds (fun vs H Q E h => ?_) (fun cdv A outer s H vs Q E hr h => ?_), b, F.kp⟩
    · obtain ⟨_, _, _, _, _, _, _, c, _, _, _, _, _, h, _⟩ := h
      omega
    · obtain ⟨_, _, _, _, _, _, _, c, _, _, _, _, _, h, _⟩ := h
      omega
  | succ N ih =>
    refine ⟨fd, F.ok (k := N + 3) sc_holds (fun vs H Q E h => ?_) (fun cdv A outer s H vs Q E hr h => ?_), b, F.kp⟩
    · obtain ⟨_, _, _, _, _, _, _, c, _, _, _, _, rfl, _⟩ := h
      rfl
    obtain ⟨cv, R, f, ad, l, cd, k, c, rs, al, cl, sp, rfl, hd, hc, fit, hR, q⟩ := h
    refine ⟨_, pss_cons (ps_if (pt_val (pe_callB call_isi (by rfl) T.z_isinstance (by decide +kernel) (pa_cons (pv 0) (pa_cons (pe_gref T.g_Not) pa_nil)))) (pss_one (ps_ret (pe_not (pe_f ih hr T.g_holds (pa_cons (pe_fld (pv 0) rfl) (pa_cons (pv 1) (pa_cons (pv 2) pa_nil))))))) pss_nil)
      (pss_cons (ps_if (pt_val (pe_callB call_isi (by rfl) T.z_isinstance (by decide +kernel) (pa_cons (pv 0) (pa_cons (pe_gref T.g_Both) pa_nil)))) (pss_one (ps_ret (pe_and (pe_f ih hr T.g_holds (pa_cons (pe_fld (pv 0) rfl) (pa_cons (pv 1) (pa_cons (pv 2) pa_nil)))) (pe_one (pe_f ih hr T.g_holds (pa_cons (pe_fld (pv 0) rfl) (pa_cons (pv 1) (pa_cons (pv 2) pa_nil)))))))) pss_nil)
      (pss_cons (ps_if (pt_val (pe_callB call_isi (by rfl) T.z_isinstance (by decide +kernel) (pa_cons (pv 0) (pa_cons (pe_gref T.g_Either) pa_nil)))) (pss_one (ps_ret (pe_or (pe_f ih hr T.g_holds (pa_cons (pe_fld (pv 0) rfl) (pa_cons (pv 1) (pa_cons (pv 2) pa_nil)))) (pe_one (pe_f ih hr T.g_holds (pa_cons (pe_fld (pv 0) rfl) (pa_cons (pv 1) (pa_cons (pv 2) pa_nil)))))))) pss_nil)
      (pss_one (ps_ret (pe_f Oholds_of (hr.mono (by omega)) T.g_holds_of (pa_cons (pv 0) (pa_cons (pe_f Ospoken_answer (hr.mono (by omega)) T.g_spoken_answer (pa_cons (pv 1) (pa_cons (pe_fld (pv 0) rfl) (pa_cons (pv 2) pa_nil)))) pa_nil))))))), ?_⟩
    walk_at "go"
    refine isiC T hc (y := "Not") (by decide) ?_
    refine ⟨_, rfl, ?_⟩
    have simple : (∀ d, c ≠ .no d) → (∀ d e, c ≠ .both d e) → (∀ d e, c ≠ .either d e) → evC rs cl k c = hol c (spk rs cl c.name k) ∧ ∀ x, spk rs cl c.name k = some x → fitS c x := by
      intro n1 n2 n3
      cases c with
      | no d => exact absurd rfl (n1 d)
      | both d e => exact absurd rfl (n2 d e)
      | either d e => exact absurd rfl (n3 d e)
      | is n o => exact ⟨rfl, fit⟩
      | has n o => exact ⟨rfl, fit⟩
      | over n i => exact ⟨rfl, fit⟩
      | under n i => exact ⟨rfl, fit⟩
    cases hc with
    | @no a v c' h1 h2 =>
      show if true = true then _ else _
      obtain ⟨dx, h1⟩ := h1
      walk_at "go"
      refine ⟨_, _, dx, _, _, rfl, h1, T.cl_Not, T.n_Not_inner, rfl, ?_⟩
      walk_at "go"
      refine ⟨v, R, f, ad, l, cd, k, c', rs, al, cl, sp, rfl, (by have : c'.dep + 1 < N + 1 := hd; omega), h2, fit, hR, fun H1 e1 => ?_⟩
      exact ⟨_, rfl, q H1 e1⟩
    | @both a lv rv c1 c2 h1 h2 h3 =>
      show if false = true then _ else _
      walk_at "go"
      refine isiC T (.both h1 h2 h3) (y := "Both") (by decide) ?_
      refine ⟨_, rfl, ?_⟩
      show if true = true then _ else _
      obtain ⟨dx, h1⟩ := h1
      have d1 : c1.dep < N ∧ c2.dep < N := by have : max c1.dep c2.dep + 1 < N + 1 := hd; omega
      have q' : ∀ b H', evC rs cl k (.both c1 c2) = b → Same H H' → Q (.bl b) H' := fun b H' hb e => hb ▸ q H' e
      walk_at "go"
      refine ⟨_, _, dx, _, _, rfl, h1, T.cl_Both, T.n_Both_left, rfl, ?_⟩
      walk_at "go"
      refine ⟨lv, R, f, ad, l, cd, k, c1, rs, al, cl, sp, rfl, d1.1, h2, fit.1, hR, fun H1 e1 => ?_⟩
      refine ⟨_, rfl, ?_⟩
      cases hb : evC rs cl k c1 with
      | false =>
        exact q' false H1 (by show (evC rs cl k c1 && evC rs cl k c2) = _; rw [hb]; rfl) e1
      | true =>
        walk_at "go"
        refine ⟨_, _, dx, _, _, rfl, e1 _ _ h1, T.cl_Both, T.n_Both_right, rfl, ?_⟩
        walk_at "go"
        refine ⟨rv, R, f, ad, l, cd, k, c2, rs, al, cl, sp, rfl, d1.2, h3.same e1, fit.2, hR.same e1, fun H2 e2 => ?_⟩
        exact q' _ H2 (by show (evC rs cl k c1 && evC rs cl k c2) = _; rw [hb]; rfl) (e1.trans e2)
    | @either a lv rv c1 c2 h1 h2 h3 =>
      show if false = true then _ else _
      walk_at "go"
      refine isiC T (.either h1 h2 h3) (y := "Both") (by decide) ?_
      refine ⟨_, rfl, ?_⟩
      show if false = true then _ else _
      walk_at "go"
      refine isiC T (.either h1 h2 h3) (y := "Either") (by decide) ?_
      refine ⟨_, rfl, ?_⟩
      show if true = true then _ else _
      obtain ⟨dx, h1⟩ := h1
      have d1 : c1.dep < N ∧ c2.dep < N := by have : max c1.dep c2.dep + 1 < N + 1 := hd; omega
      have q' : ∀ b H', evC rs cl k (.either c1 c2) = b → Same H H' → Q (.bl b) H' := fun b H' hb e => hb ▸ q H' e
      walk_at "go"
      refine ⟨_, _, dx, _, _, rfl, h1, T.cl_Either, T.n_Either_left, rfl, ?_⟩
      walk_at "go"
      refine ⟨lv, R, f, ad, l, cd, k, c1, rs, al, cl, sp, rfl, d1.1, h2, fit.1, hR, fun H1 e1 => ?_⟩
      refine ⟨_, rfl, ?_⟩
      cases hb : evC rs cl k c1 with
      | true =>
        exact q' true H1 (by show (evC rs cl k c1 || evC rs cl k c2) = _; rw [hb]; rfl) e1
      | false =>
        walk_at "go"
        refine ⟨_, _, dx, _, _, rfl, e1 _ _ h1, T.cl_Either, T.n_Either_right, rfl, ?_⟩
        walk_at "go"
        refine ⟨rv, R, f, ad, l, cd, k, c2, rs, al, cl, sp, rfl, d1.2, h3.same e1, fit.2, hR.same e1, fun H2 e2 => ?_⟩
        exact q' _ H2 (by show (evC rs cl k c1 || evC rs cl k c2) = _; rw [hb]; rfl) (e1.trans e2)
    | @is a n0 o0 hi =>
      obtain ⟨ev, fs⟩ := simple (fun _ z => (nomatch z)) (fun _ _ z => (nomatch z)) (fun _ _ z => nomatch z)
      rw [ev] at q
      show if false = true then _ else _
      walk_at "go"
      refine isiC T (.is hi) (y := "Both") (by decide) ?_
      refine ⟨_, rfl, ?_⟩
      show if false = true then _ else _
      walk_at "go"
      refine isiC T (.is hi) (y := "Either") (by decide) ?_
      refine ⟨_, rfl, ?_⟩
      show if false = true then _ else _
      walk_at "go"
      obtain ⟨dx, hi'⟩ := id hi
      refine ⟨_, _, dx, _, _, rfl, hi', T.cl_Is, T.n_Is_name, rfl, ?_⟩
      walk_at "go"
      refine ⟨R, f, ad, l, cd, n0, k, rs, al, cl, sp, rfl, hR, fun v H1 e1 hv => ?_⟩
      walk_at "go"
      exact ⟨_, v, _, _, rfl, CO.same e1 (.is hi), hv, fs, q H1 e1⟩
    | @has a n0 o0 hi =>
      obtain ⟨ev, fs⟩ := simple (fun _ z => (nomatch z)) (fun _ _ z => (nomatch z)) (fun _ _ z => nomatch z)
      rw [ev] at q
      show if false = true then _ else _
      walk_at "go"
      refine isiC T (.has hi) (y := "Both") (by decide) ?_
      refine ⟨_, rfl, ?_⟩
      show if false = true then _ else _
      walk_at "go"
      refine isiC T (.has hi) (y := "Either") (by decide) ?_
      refine ⟨_, rfl, ?_⟩
      show if false = true then _ else _
      walk_at "go"
      obtain ⟨dx, hi'⟩ := id hi
      refine ⟨_, _, dx, _, _, rfl, hi', T.cl_Has, T.n_Has_name, rfl, ?_⟩
      walk_at "go"
      refine ⟨R, f, ad, l, cd, n0, k, rs, al, cl, sp, rfl, hR, fun v H1 e1 hv => ?_⟩
      walk_at "go"
      exact ⟨_, v, _, _, rfl, CO.same e1 (.has hi), hv, fs, q H1 e1⟩
    | @over a n0 o0 hi =>
      obtain ⟨ev, fs⟩ := simple (fun _ z => (nomatch z)) (fun _ _ z => (nomatch z)) (fun _ _ z => nomatch z)
      rw [ev] at q
      show if false = true then _ else _
      walk_at "go"
      refine isiC T (.over hi) (y := "Both") (by decide) ?_
      refine ⟨_, rfl, ?_⟩
      show if false = true then _ else _
      walk_at "go"
      refine isiC T (.over hi) (y := "Either") (by decide) ?_
      refine ⟨_, rfl, ?_⟩
      show if false = true then _ else _
      walk_at "go"
      obtain ⟨dx, hi'⟩ := id hi
      refine ⟨_, _, dx, _, _, rfl, hi', T.cl_Above, T.n_Above_name, rfl, ?_⟩
      walk_at "go"
      refine ⟨R, f, ad, l, cd, n0, k, rs, al, cl, sp, rfl, hR, fun v H1 e1 hv => ?_⟩
      walk_at "go"
      exact ⟨_, v, _, _, rfl, CO.same e1 (.over hi), hv, fs, q H1 e1⟩
    | @under a n0 o0 hi =>
      obtain ⟨ev, fs⟩ := simple (fun _ z => (nomatch z)) (fun _ _ z => (nomatch z)) (fun _ _ z => nomatch z)
      rw [ev] at q
      show if false = true then _ else _
      walk_at "go"
      refine isiC T (.under hi) (y := "Both") (by decide) ?_
      refine ⟨_, rfl, ?_⟩
      show if false = true then _ else _
      walk_at "go"
      refine isiC T (.under hi) (y := "Either") (by decide) ?_
      refine ⟨_, rfl, ?_⟩
      show if false = true then _ else _
      walk_at "go"
      obtain ⟨dx, hi'⟩ := id hi
      refine ⟨_, _, dx, _, _, rfl, hi', T.cl_Below, T.n_Below_name, rfl, ?_⟩
      walk_at "go"
      refine ⟨R, f, ad, l, cd, n0, k, rs, al, cl, sp, rfl, hR, fun v H1 e1 hv => ?_⟩
      walk_at "go"
      exact ⟨_, v, _, _, rfl, CO.same e1 (.under hi), hv, fs, q H1 e1⟩
end
end K3
end U1_part
section U2_part
set_option Elab.async false
set_option linter.all false
set_option maxRecDepth 100000
set_option maxHeartbeats 1000000
set_option pp.deepTerms true
open PySem PySem.Spec PyProof.Rows L2
/-- go on as far as nothing is open -/
local macro_rules | `(tactic| walk_at "go") => `(tactic| repeat (first
  | with_reducible refine w_seq ?_ | with_reducible refine w_next ?_ | with_reducible refine w_set ?_ | with_reducible refine w_drop ?_ | with_reducible refine w_ret ?_ | with_reducible refine w_retN ?_
  | with_reducible refine w_if ?_ | ((with_reducible refine' w_var ?hv ?_); (case hv => exact rfl)) | with_reducible refine w_c ?_ | with_reducible refine w_nil ?_ | with_reducible refine w_cons ?_ | with_reducible refine w_op ?_ | with_reducible refine w_un ?_
  | with_reducible refine w_test ?_ | with_reducible refine w_tB ?_ | with_reducible refine w_not ?_ | with_reducible refine w_and ?_ | with_reducible refine w_or ?_ | with_reducible refine w_bl ?_
  | with_reducible refine w_andV ?_ | with_reducible refine w_orV ?_ | with_reducible refine w_notV ?_ | with_reducible refine w_ifE ?_ | with_reducible refine w_chain ?_ | with_reducible refine w_i0 ?_
  | with_reducible refine w_call ?_ | with_reducible refine w_callS ?_ | with_reducible refine w_cB ?_ | with_reducible refine w_tup ?_ | with_reducible refine w_lst ?_ | with_reducible refine w_fldV ?_
  | with_reducible refine w_neF ?_ | with_reducible refine w_neT ?_ | with_reducible refine w_notN ?_ | with_reducible refine w_isN ?_ | with_reducible refine w_gname ?_ | with_reducible refine w_gsub ?_ | with_reducible refine w_asg ?_ | with_reducible refine w_sl ?_ | with_reducible refine w_noP ?_ | with_reducible refine w_int1 ?_ | with_reducible refine w_part ?_ | with_reducible refine w_meth ?_ | with_reducible refine w_din ?_ | with_reducible refine w_dnotin ?_ | with_reducible refine w_dgt ?_ | with_reducible refine w_dget1 ?_ | with_reducible refine w_dget2 ?_ | with_reducible refine w_dput ?_ | with_reducible refine w_yes ?_ | with_reducible refine w_nT ?_ | with_reducible refine w_nF ?_ | with_reducible refine w_iteT ?_ | with_reducible refine w_iteF ?_))
namespace K3
/-! ### walks: what the rows lead to -/
abbrev Rs := Option (Str × Spot) × List Spot × Ans
def wQ (al : Ans) (r : Rw) (k : Int) (sp : List Spot) (cl : Ans) : Rs :=
  if r.ans ((lookA al (r.name, k)).getD .non) = true then (none, sp ++ [(r.name, k)], putA cl (r.name, k) ((lookA al (r.name, k)).getD .non)) else (some ("open", (r.name, k)), sp ++ [(r.name, k)], cl)
def whF (rs : List Rw) (cl : Ans) (k : Int) : Option Cd → Bool
  | none => true
  | some c => evC rs cl k c
def timesF (cl : Ans) (n : Str) : Nat := match lookA cl (n, 0) with
  | some (.int i) => i.toNat
  | _ => 0
def iterW (f : Int → List Spot → Ans → Rs) : Nat → Int → List Spot → Ans → Rs
  | 0, _, sp, cl => (none, sp, cl)
  | n + 1, k, sp, cl => match f k sp cl with
    | (some e, x) => (some e, x)
    | (none, sp', cl') => iterW f n (k + 1) sp' cl'
mutual
def wRow (rs : List Rw) (al : Ans) : Rw → Int → List Spot → Ans → Rs
  | .one n os w, k, sp, cl => wQ al (.one n os w) k sp cl
  | .some n os w, k, sp, cl => wQ al (.some n os w) k sp cl
  | .number n lo hi w, k, sp, cl => wQ al (.number n lo hi w) k sp cl
  | .check n m _, k, sp, cl => (if evC rs cl k m = true then none else some ("barred", (n, k)), sp, cl)
  | .sect us _, k, sp, cl => wRows rs al us k sp cl
  | .rounds n us _, _, sp, cl => iterW (fun k sp cl => wRows rs al us k sp cl) (timesF cl n) 1 sp cl
def wRows (rs : List Rw) (al : Ans) : List Rw → Int → List Spot → Ans → Rs
  | [], _, sp, cl => (none, sp, cl)
  | r :: us, k, sp, cl => if whF rs cl k r.wh = true then (match wRow rs al r k sp cl with
    | (some e, x) => (some e, x)
    | (none, sp', cl') => wRows rs al us k sp' cl') else wRows rs al us k sp cl
end
/-! ### all but lists and the tuples' dicts stands -/
def NM (H H' : Hp) : Prop := ∀ b o, (∀ xs, o ≠ HO.lst xs) → (∀ kvs, o ≠ HO.dT kvs) → H b = some o → H' b = some o
theorem NM.refl (H : Hp) : NM H H := fun _ _ _ _ h => h
theorem NM.trans {H H1 H2 : Hp} (a : NM H H1) (b : NM H1 H2) : NM H H2 := fun c o n m h => b c o n m (a c o n m h)
theorem Same.nm {H H' : Hp} (e : Same H H') : NM H H' := fun b o _ _ h => e b o h
theorem NM.si {H H' : Hp} (e : NM H H') : SI H H' := fun b o k h => e b o (fun xs z => by rw [z] at k; cases k) (fun xs z => by rw [z] at k; cases k) h
theorem BM.nm {H H' : Hp} {l cd : Addr} {xs : List V} {kvs : List (List Key × V)} (hl : H l = some (.lst xs)) (hc : H cd = some (.dT kvs)) (e : BM [l, cd] H H') : NM H H' := fun b o n m h => e.at h fun z => by
  rcases List.mem_cons.mp z with rfl | z
  · rw [hl] at h; exact n _ (Option.some.inj h).symm
  · rw [List.mem_singleton.mp z, hc] at h; exact m _ (Option.some.inj h).symm
theorem NM.ins {H H' : Hp} (e : NM H H') {a C dx : Addr} {fs : List (Str × V)} (h : H a = some (.ins C dx fs)) : H' a = some (.ins C dx fs) := e _ _ (fun _ z => nomatch z) (fun _ z => nomatch z) h
theorem NM.tup {H H' : Hp} (e : NM H H') {a : Addr} {xs : List V} (h : H a = some (.tup xs)) : H' a = some (.tup xs) := e _ _ (fun _ z => nomatch z) (fun _ z => nomatch z) h
theorem NM.updL {H : Hp} {d : Addr} {xs : List V} (h : H d = some (.lst xs)) (o : HO) : NM H (L2.upd H d o) := fun b u n _ q => by
  rw [upd_ne (fun z => by rw [z, h] at q; exact n xs (Option.some.inj q).symm)]
  exact q
theorem NM.updT {H : Hp} {d : Addr} {kvs : List (List Key × V)} (h : H d = some (.dT kvs)) (o : HO) : NM H (L2.upd H d o) := fun b u _ n q => by
  rw [upd_ne (fun z => by rw [z, h] at q; exact n kvs (Option.some.inj q).symm)]
  exact q
theorem FormO.nm {K : PySem.W.Frag} {H H' : Hp} (e : NM H H') {a : Addr} {rs : List Rw} (h : FormO K H a rs) : FormO K H' a rs := by
  obtain ⟨o, dx, t, d, d2, xs, kvs, kv2, h1, h2, h3, h4, h5, h6, h7⟩ := h
  exact ⟨o, dx, t, d, d2, xs, kvs, kv2, e _ _ (fun _ z => nomatch z) (fun _ z => nomatch z) h1, e.si.sqt h2, ROs.si e.si h3, e _ _ (fun _ z => nomatch z) (fun _ z => nomatch z) h4, L2.Paired.mapP h5 fun _ _ z => ⟨z.1, RO.si e.si z.2⟩, e _ _ (fun _ z => nomatch z) (fun _ z => nomatch z) h6, h7⟩
theorem AD.nm {H H' : Hp} (e : NM H H') {d : Addr} {kvs : List (List Key × V)} {al : Ans} (h : AD H d kvs al) : AD H' d kvs al := ⟨L2.Paired.mapP h.ents fun _ _ z => z.keep fun _ _ q => e _ _ (fun _ z => nomatch z) (fun _ z => nomatch z) q, h.nd⟩
def EndO (H : Hp) (v : V) : Option (Str × Spot) → Prop
  | none => v = .non
  | some (w, s) => ∃ t p, v = .ref t ∧ H t = some (.tup [.str w, .ref p]) ∧ H p = some (.tup [.str s.1, .int s.2])
/-! ### what is asked of a form that is walked -/
def WTc (rs : List Rw) : Cd → Prop
  | .is n _ => ∀ r, formQ rs n = some r → ∃ m os w, r = .one m os w
  | .has n _ => ∀ r, formQ rs n = some r → ∃ m os w, r = .some m os w
  | .over n _ => ∀ r, formQ rs n = some r → ∃ m lo hi w, r = .number m lo hi w
  | .under n _ => ∀ r, formQ rs n = some r → ∃ m lo hi w, r = .number m lo hi w
  | .no c => WTc rs c
  | .both c d => WTc rs c ∧ WTc rs d
  | .either c d => WTc rs c ∧ WTc rs d
def WTw (rs : List Rw) (w : Option Cd) : Prop := ∀ c, w = some c → WTc rs c
mutual
def WTr (rs : List Rw) : Rw → Prop
  | .one n os w => WTw rs w ∧ formQ rs n = some (.one n os w)
  | .some n os w => WTw rs w ∧ formQ rs n = some (.some n os w)
  | .number n lo hi w => WTw rs w ∧ formQ rs n = some (.number n lo hi w)
  | .check _ m w => WTw rs w ∧ WTc rs m
  | .sect us w => WTw rs w ∧ WTs rs us
  | .rounds n us w => WTw rs w ∧ WTs rs us ∧ ∀ r, formQ rs n = some r → ∃ m lo hi w', r = .number m lo hi w' ∧ 0 ≤ lo ∧ hi ≤ 4
def WTs (rs : List Rw) : List Rw → Prop
  | [] => True
  | r :: us => WTr rs r ∧ WTs rs us
end
/-- what counts are answers of the form's questions -/
def GoodCl (rs : List Rw) (cl : Ans) : Prop := ∀ s x, lookA cl s = some x → ∃ r, formQ rs s.1 = some r ∧ r.ans x = true
theorem fit_of {rs : List Rw} {cl : Ans} {k : Int} (g : GoodCl rs cl) : ∀ {c : Cd}, WTc rs c → CdFit rs cl k c
  | .no c, h => fit_of (c := c) g h
  | .both c d, h => ⟨fit_of (c := c) g h.1, fit_of (c := d) g h.2⟩
  | .either c d, h => ⟨fit_of (c := c) g h.1, fit_of (c := d) g h.2⟩
  | .is n o, h => fun x hx => by
    obtain ⟨r, h1, h2⟩ := g _ x hx
    obtain ⟨m, os, w, rfl⟩ := h r h1
    cases x <;> first | exact ⟨_, rfl⟩ | cases h2
  | .has n o, h => fun x hx => by
    obtain ⟨r, h1, h2⟩ := g _ x hx
    obtain ⟨m, os, w, rfl⟩ := h r h1
    cases x <;> first | exact ⟨_, rfl⟩ | cases h2
  | .over n o, h => fun x hx => by
    obtain ⟨r, h1, h2⟩ := g _ x hx
    obtain ⟨m, lo, hi, w, rfl⟩ := h r h1
    cases x <;> first | exact ⟨_, rfl⟩ | cases h2
  | .under n o, h => fun x hx => by
    obtain ⟨r, h1, h2⟩ := g _ x hx
    obtain ⟨m, lo, hi, w, rfl⟩ := h r h1
    cases x <;> first | exact ⟨_, rfl⟩ | cases h2
theorem look_put {al : Ans} {s t : Spot} {x : An} : lookA (putA al s x) t = if t = s then some x else lookA al t := by
  unfold putA
  cases hs : (lookA al s).isSome with
  | false =>
    rw [if_neg Bool.false_ne_true]
    unfold lookA at hs ⊢
    rw [List.find?_append]
    by_cases e : t = s
    · subst e
      rw [if_pos rfl]
      cases h : al.find? fun y => decide (y.1 = t) with
      | some y => rw [h] at hs; cases hs
      | none => simp
    · rw [if_neg e]
      have : ([(s, x)] : Ans).find? (fun y => decide (y.1 = t)) = none := by simp [Ne.symm e]
      rw [this, Option.or_none]
  | true =>
    rw [if_pos rfl]
    unfold lookA at hs ⊢
    induction al with
    | nil => cases hs
    | cons y r ih =>
      rw [List.find?_cons] at hs
      rw [List.map_cons, List.find?_cons, List.find?_cons]
      by_cases e1 : y.1 = s
      · rw [if_pos e1]
        by_cases e : t = s
        · subst e
          rw [if_pos rfl, e1]
          simp
        · rw [if_neg e]
          have n1 : decide (y.1 = t) = false := decide_eq_false fun z => e (z.symm.trans e1)
          rw [n1]
          clear ih hs
          induction r with
          | nil => rfl
          | cons z r ih =>
            rw [List.map_cons, List.find?_cons, List.find?_cons]
            by_cases e2 : z.1 = s
            · rw [if_pos e2]
              have n2 : decide (z.1 = t) = false := decide_eq_false fun q => e (q.symm.trans e2)
              rw [n2]
              exact ih
            · rw [if_neg e2]
              cases decide (z.1 = t) with
              | true => rfl
              | false => exact ih
      · rw [if_neg e1]
        rw [decide_eq_false e1] at hs
        by_cases e2 : y.1 = t
        · rw [decide_eq_true e2]
          have : t ≠ s := fun z => e1 (e2.trans z)
          rw [if_neg this]
        · rw [decide_eq_false e2]
          exact ih hs
theorem good_put {rs : List Rw} {cl : Ans} {r : Rw} {k : Int} {x : An} (g : GoodCl rs cl) (hq : formQ rs r.name = some r) (hx : r.ans x = true) : GoodCl rs (putA cl (r.name, k) x) := fun s y hy => by
  rw [look_put] at hy
  by_cases e : s = (r.name, k)
  · rw [if_pos e] at hy
    cases hy
    rw [e]
    exact ⟨r, hq, hx⟩
  · rw [if_neg e] at hy
    exact g s y hy
def spAtQ (K : PySem.W.Frag) : Sp := fun vs H Q _ => ∃ (qv : V) (R f ad l cd : Addr) (k : Int) (r : Rw) (rs : List Rw) (al cl : Ans) (sp : List Spot), vs = [.ref R, qv, .int k] ∧ RO K H qv r ∧ r.isQ = true ∧ formQ rs r.name = some r ∧ RoadO K H R f ad l cd rs al cl sp ∧ ad ≠ cd ∧ sp.length ≤ 9000 ∧ cl.length ≤ sp.length ∧
  ∀ v H', BM [l, cd] H H' → EndO H' v (wQ al r k sp cl).1 → RoadO K H' R f ad l cd rs al (wQ al r k sp cl).2.2 (wQ al r k sp cl).2.1 → Q v H'
section
variable {P : Program} {w : World} {K : PySem.W.Frag} {mg : Str → Option Value} {base : Heap}
theorem sc_end_at_question : FnScope ["road", "question", "k", "spot", "answer"] ["road", "question", "k"] (defScope s_end_at_question) := ⟨rfl, rfl, rfl, by decide +kernel, rfl, by decide +kernel, by decide +kernel⟩
theorem ok_end_at_question (T : Tx K mg) : Ok P w K mg base 3 (He.ga K "end_at_question") ["road", "question", "k"] (spAtQ K) := by
  obtain ⟨fd, F⟩ := T.f_end_at_question
  have Ois_answer := ok_is_answer (P := P) (w := w) (base := base) T
  refine ⟨fd, F.ok (k := 2) sc_end_at_question (fun vs H Q E h => ?_) (fun cdv A outer s_ H vs Q E hr h => ?_), F.bindsN fun _ _ _ _ _ _ us hl => match us, hl with | [_, _, _], _ => rfl, F.kp⟩
  · obtain ⟨qv, R, f, ad, l, cd, k, r, rs, al, cl, sp, rfl, hr0, hq, hfq, hR, nac, lsp, lcl, q⟩ := h
    rfl
  obtain ⟨qv, R, f, ad, l, cd, k, r, rs, al, cl, sp, rfl, hr0, hq, hfq, hR, nac, lsp, lcl, q⟩ := h
  have hu65 := K3.Room.units65 hr
  have hu70 := K3.Room.units70 hr
  have hu4 := K3.Room.units4 hr
  have hu64 := Nat.lt_of_succ_lt hu65
  have hu0 := Nat.lt_of_le_of_lt (Nat.le_add_right _ 65) hu65
  have hu1 := Nat.lt_of_le_of_lt (Nat.add_le_add_left (show 1 ≤ 65 by decide) _) hu65
  have ris_answer : Room 2 _ := hr.mono (by decide)
  refine ⟨_, pss_cons (ps_set (i := 3) sc_end_at_question.nd rfl (Or.inl rfl) (pe_tup (pa_cons (pe_fld (pv 1) rfl) (pa_cons (pv 2) pa_nil))))
      (pss_cons (ps_expr (pe_bm PySem.F.plainAttrs_list PySem.F.slot_list_append PySem.F.type_list_append mt_append (pe_fld (pv 0) rfl) (pa_cons (pv 3) pa_nil)))
      (pss_cons (ps_set (i := 4) sc_end_at_question.nd rfl (Or.inl rfl) (pe_dget1 hu1 (pe_fld (pv 0) rfl) (pv 3) ⟨rfl, rfl, rfl, rfl⟩))
      (pss_cons (ps_if (pt_not (pt_val (pe_f Ois_answer ris_answer T.g_is_answer (pa_cons (pv 1) (pa_cons (pv 4) pa_nil))))) (pss_one (ps_ret (pe_tup (pa_cons pe_str (pa_cons (pv 3) pa_nil))))) pss_nil)
      (pss_cons (ps_dput hu1 (pe_fld (pv 0) rfl) (pv 3) (pv 4) rfl)
      (pss_one (ps_ret pe_non)))))), ?_⟩
  obtain ⟨⟨dx, hRi⟩, hf, ⟨kva, had, hA⟩, ⟨ps, hl, hps⟩, ⟨kvc, hcd, hC⟩⟩ := id hR
  walk_at "go"
  have hN : r.isN = true := by cases r <;> first | rfl | cases hq
  obtain ⟨qa, qdx, qfs, rfl, hqi, hqc, hqn, hqf⟩ := ro_name T hr0 hN
  refine ⟨qa, _, qdx, qfs, _, rfl, hqi, hqc, hqn, hqf, ?_⟩
  walk_at "go"
  refine ⟨(by show 2 ≤ sizeLine; decide), fun p hp => ?_⟩
  have e1 := Same.new hp (.tup [V.str r.name, V.int k])
  have g1 : (upd H p (.tup [V.str r.name, V.int k])) p = some (.tup [V.str r.name, V.int k]) := upd_same
  generalize upd H p (.tup [V.str r.name, V.int k]) = H1 at e1 g1 ⊢
  walk_at "go"
  refine ⟨_, rfl, R, _, dx, _, _, rfl, e1 _ _ hRi, T.cl_Road, T.n_Road_asked, rfl, ?_⟩
  refine ⟨.inl ⟨rfl, _, SqL.of (e1 _ _ hl)⟩, ?_⟩
  walk_at "go"
  refine ⟨l, _, .ref p, rfl, rfl, e1 _ _ hl, ?_, ?_⟩
  · rw [List.length_map, hps.length]
    exact Nat.lt_of_le_of_lt lsp (by decide)
  have nl2 := NM.updL (e1 _ _ hl) (.lst (ps.map V.ref ++ [V.ref p]))
  have b2 : BM [l, cd] H (upd H1 l (.lst (ps.map V.ref ++ [V.ref p]))) := fun b o h => by
    by_cases c : b = l
    · subst c
      exact ⟨_, upd_same, fun z => absurd (List.mem_cons_self ..) z⟩
    · exact ⟨o, by rw [upd_ne c]; exact e1 _ _ h, fun _ => rfl⟩
  have hl2 : (upd H1 l (.lst (ps.map V.ref ++ [V.ref p]))) l = some (.lst ((ps ++ [p]).map V.ref)) := by rw [upd_same, List.map_append]; rfl
  have nlH : NM H (upd H1 l (.lst (ps.map V.ref ++ [V.ref p]))) := (Same.nm e1).trans nl2
  have ncl : cd ≠ l := fun z => by rw [z, hl] at hcd; cases hcd
  have hcd2 : (upd H1 l (.lst (ps.map V.ref ++ [V.ref p]))) cd = some (.dT kvc) := by rw [upd_ne ncl]; exact e1 _ _ hcd
  have nal : ad ≠ l := fun z => by rw [z, hl] at had; cases had
  generalize upd H1 l (.lst (ps.map V.ref ++ [V.ref p])) = H2 at nl2 b2 hl2 nlH hcd2 ⊢
  have hR2 := nlH.ins hRi
  have had2 := b2.at had (by simp [nal, nac])
  have g2 := nl2.tup g1
  have hf2 := hf.nm nlH
  have hps2 : Paired (fun p (s : Spot) => H2 p = some (.tup [.str s.1, .int s.2])) (ps ++ [p]) (sp ++ [(r.name, k)]) := K3.Paired.app (L2.Paired.mapP hps fun _ _ z => nlH.tup z) (.cons g2 .nil)
  have hA2 := hA.nm nlH
  have hC2 := hC.nm nlH
  obtain ⟨o, ho, han⟩ := look_opt (s := (r.name, k)) hA2
  obtain ⟨olen, ook⟩ := form_q hf.ok hfq
  have hx : AnO H2 (o.getD .non) ((lookA al (r.name, k)).getD .non) ∧ ((lookA al (r.name, k)).getD .non).ok := by
    cases hk : lookA al (r.name, k) with
    | none => rw [hk] at han; have han : o.getD .non = .non := han; rw [han]; exact ⟨.non, trivial⟩
    | some x => rw [hk] at han; exact han
  walk_at "go"
  refine ⟨R, _, dx, _, _, rfl, hR2, T.cl_Road, T.n_Road_answers, rfl, ?_⟩
  refine ⟨ad, rfl, .inr ⟨_, .inl had2⟩, ?_⟩
  walk_at "go"
  refine ⟨o, ho ▸ DGet.t (k := keyOf (r.name, k)) had2 g2, ?_⟩
  unfold wQ at q
  generalize (lookA al (r.name, k)).getD .non = x at hx q
  generalize o.getD .non = v at hx ⊢
  walk_at "go"
  refine ⟨_, v, r, x, rfl, RO.si nlH.si hr0, hq, hx.1, hx.2, olen, ook, fun H3 e3 => ?_⟩
  refine ⟨_, rfl, ?_⟩
  cases hb : r.ans x with
  | false =>
    rw [hb, if_neg Bool.false_ne_true] at q
    walk_at "go"
    refine ⟨(by show 2 ≤ sizeLine; decide), fun t ht => ?_⟩
    have e4 := Same.new ht (.tup [V.str "open", V.ref p])
    have e24 := e3.trans e4
    exact q _ _ (b2.trans (BM.of e24)) ⟨t, p, rfl, upd_same, e24 _ _ g2⟩ (RoadO.same e24 ⟨⟨dx, hR2⟩, hf2, ⟨kva, had2, hA2⟩, ⟨ps ++ [p], hl2, hps2⟩, ⟨kvc, hcd2, hC2⟩⟩)
  | true =>
    rw [hb, if_pos rfl] at q
    walk_at "go"
    refine ⟨R, _, dx, _, _, rfl, e3 _ _ hR2, T.cl_Road, T.n_Road_counted, rfl, ?_⟩
    walk_at "go"
    have lms : kvc.length < sizeLine := by
      have := hC.ents.length
      exact Nat.lt_of_le_of_lt (show kvc.length ≤ 10000 by omega) (by decide)
    refine ⟨cd, _, rfl, DPut.t (k := keyOf (r.name, k)) (e3 _ _ hcd2) (e3 _ _ g2) lms, ?_⟩
    have n4 := NM.updT (e3 _ _ hcd2) (.dT (putK kvc (keyOf (r.name, k)) v))
    have nm := (Same.nm e3).trans n4
    have b4 : BM [l, cd] H3 (upd H3 cd (.dT (putK kvc (keyOf (r.name, k)) v))) := fun b o h => by
      by_cases c : b = cd
      · subst c
        exact ⟨_, upd_same, fun z => absurd (by simp) z⟩
      · exact ⟨o, by rw [upd_ne c]; exact h, fun _ => rfl⟩
    have hl4 : (upd H3 cd (.dT (putK kvc (keyOf (r.name, k)) v))) l = some (.lst ((ps ++ [p]).map V.ref)) := by rw [upd_ne ncl.symm]; exact e3 _ _ hl2
    have had4 : (upd H3 cd (.dT (putK kvc (keyOf (r.name, k)) v))) ad = some (.dT kva) := by rw [upd_ne nac]; exact e3 _ _ had2
    have hx3 := hx.1.same e3
    walk_at "go"
    refine q _ _ (b2.trans ((BM.of e3).trans b4)) rfl ⟨⟨dx, nm.ins hR2⟩, hf2.nm nm, ⟨kva, had4, hA2.nm nm⟩, ⟨ps ++ [p], hl4, L2.Paired.mapP hps2 fun _ _ z => nm.tup z⟩, ⟨_, upd_same, ?_⟩⟩
    exact AD.nm n4 ⟨en_put (hC2.nt (Same.nt e3)).ents hx3 hx.2, put_nd hC2.nd⟩
end
end K3
end U2_part
section U3_part
set_option Elab.async false
set_option linter.all false
set_option maxRecDepth 100000
set_option maxHeartbeats 1000000
set_option pp.deepTerms true
open PySem PySem.Spec PyProof.Rows L2
/-- go on as far as nothing is open -/
local macro_rules | `(tactic| walk_at "go") => `(tactic| repeat (first
  | with_reducible refine w_seq ?_ | with_reducible refine w_next ?_ | with_reducible refine w_set ?_ | with_reducible refine w_drop ?_ | with_reducible refine w_ret ?_ | with_reducible refine w_retN ?_
  | with_reducible refine w_if ?_ | ((with_reducible refine' w_var ?hv ?_); (case hv => exact rfl)) | with_reducible refine w_c ?_ | with_reducible refine w_nil ?_ | with_reducible refine w_cons ?_ | with_reducible refine w_op ?_ | with_reducible refine w_un ?_
  | with_reducible refine w_test ?_ | with_reducible refine w_tB ?_ | with_reducible refine w_not ?_ | with_reducible refine w_and ?_ | with_reducible refine w_or ?_ | with_reducible refine w_bl ?_
  | with_reducible refine w_andV ?_ | with_reducible refine w_orV ?_ | with_reducible refine w_notV ?_ | with_reducible refine w_ifE ?_ | with_reducible refine w_chain ?_ | with_reducible refine w_i0 ?_
  | with_reducible refine w_call ?_ | with_reducible refine w_callS ?_ | with_reducible refine w_cB ?_ | with_reducible refine w_tup ?_ | with_reducible refine w_lst ?_ | with_reducible refine w_fldV ?_
  | with_reducible refine w_neF ?_ | with_reducible refine w_neT ?_ | with_reducible refine w_notN ?_ | with_reducible refine w_isN ?_ | with_reducible refine w_gname ?_ | with_reducible refine w_gsub ?_ | with_reducible refine w_asg ?_ | with_reducible refine w_sl ?_ | with_reducible refine w_noP ?_ | with_reducible refine w_int1 ?_ | with_reducible refine w_part ?_ | with_reducible refine w_meth ?_ | with_reducible refine w_din ?_ | with_reducible refine w_dnotin ?_ | with_reducible refine w_dgt ?_ | with_reducible refine w_dget1 ?_ | with_reducible refine w_dget2 ?_ | with_reducible refine w_dput ?_ | with_reducible refine w_yes ?_ | with_reducible refine w_nT ?_ | with_reducible refine w_nF ?_ | with_reducible refine w_iteT ?_ | with_reducible refine w_iteF ?_))
namespace K3
/-! ### walks: rows, and rows within rows -/
/-- what the recursion stands on: the walk's own state ahead, and what is told behind -/
def Went (K : PySem.W.Frag) (H : Hp) (R f ad l cd : Addr) (rs : List Rw) (al : Ans) (x : Rs) (Q : VK) : Prop := ∀ v H', BM [l, cd] H H' → EndO H' v x.1 → RoadO K H' R f ad l cd rs al x.2.2 x.2.1 → Q v H'
structure Bnd (D : Nat) (rs : List Rw) (al cl : Ans) (sp : List Spot) (x : Rs) : Prop where
  good : GoodCl rs cl
  le : cl.length ≤ sp.length
  few : x.2.1.length ≤ 9000
mutual
def Rw.cds (D : Nat) : Rw → Prop
  | .check _ m w => m.dep < D ∧ ∀ c, w = some c → c.dep < D
  | .sect us w => Rws.cds D us ∧ ∀ c, w = some c → c.dep < D
  | .rounds _ us w => Rws.cds D us ∧ ∀ c, w = some c → c.dep < D
  | .one _ _ w => ∀ c, w = some c → c.dep < D
  | .some _ _ w => ∀ c, w = some c → c.dep < D
  | .number _ _ _ w => ∀ c, w = some c → c.dep < D
def Rws.cds (D : Nat) : List Rw → Prop
  | [] => True
  | r :: us => r.cds D ∧ Rws.cds D us
end
def spRows (K : PySem.W.Frag) (D N : Nat) : Sp := fun vs H Q _ => ∃ (R f ad l cd t : Addr) (k : Int) (xs : List V) (us rs : List Rw) (al cl : Ans) (sp : List Spot), vs = [.ref R, .ref t, .int k] ∧ SqT K H t xs ∧ ROs K H xs us ∧ Rws.dep us < N ∧ Rws.cds D us ∧ WTs rs us ∧
  RoadO K H R f ad l cd rs al cl sp ∧ ad ≠ cd ∧ Bnd D rs al cl sp (wRows rs al us k sp cl) ∧ Went K H R f ad l cd rs al (wRows rs al us k sp cl) Q
def spRow (K : PySem.W.Frag) (D N : Nat) : Sp := fun vs H Q _ => ∃ (v : V) (R f ad l cd : Addr) (k : Int) (r : Rw) (rs : List Rw) (al cl : Ans) (sp : List Spot), vs = [.ref R, v, .int k] ∧ RO K H v r ∧ r.dep < N ∧ r.cds D ∧ WTr rs r ∧
  RoadO K H R f ad l cd rs al cl sp ∧ ad ≠ cd ∧ Bnd D rs al cl sp (wRow rs al r k sp cl) ∧ Went K H R f ad l cd rs al (wRow rs al r k sp cl) Q
def spRounds (K : PySem.W.Frag) (D N : Nat) : Sp := fun vs H Q _ => ∃ (v : V) (R f ad l cd : Addr) (n : Str) (us : List Rw) (w : Option Cd) (rs : List Rw) (al cl : Ans) (sp : List Spot), vs = [.ref R, v] ∧ RO K H v (.rounds n us w) ∧ Rws.dep us < N ∧ Rws.cds D us ∧ WTs rs us ∧ (∀ r, formQ rs n = some r → ∃ m lo hi w', r = .number m lo hi w' ∧ 0 ≤ lo ∧ hi ≤ 4) ∧
  RoadO K H R f ad l cd rs al cl sp ∧ ad ≠ cd ∧ Bnd D rs al cl sp (iterW (fun k sp cl => wRows rs al us k sp cl) (timesF cl n) 1 sp cl) ∧ Went K H R f ad l cd rs al (iterW (fun k sp cl => wRows rs al us k sp cl) (timesF cl n) 1 sp cl) Q
/-! ### what is asked only grows; what counts stays an answer -/
structure Step (rs : List Rw) (sp : List Spot) (cl : Ans) (x : Rs) : Prop where
  up : sp.length ≤ x.2.1.length
  good : GoodCl rs cl → GoodCl rs x.2.2
  le : cl.length ≤ sp.length → x.2.2.length ≤ x.2.1.length
theorem Step.refl {rs : List Rw} {sp : List Spot} {cl : Ans} {e : Option (Str × Spot)} : Step rs sp cl (e, sp, cl) := ⟨Nat.le_refl _, id, id⟩
theorem Step.trans {rs : List Rw} {sp : List Spot} {cl : Ans} {x y : Rs} (a : Step rs sp cl x) (b : Step rs x.2.1 x.2.2 y) : Step rs sp cl y := ⟨Nat.le_trans a.up b.up, fun g => b.good (a.good g), fun g => b.le (a.le g)⟩
theorem step_q {rs : List Rw} {al cl : Ans} {r : Rw} {k : Int} {sp : List Spot} (h : formQ rs r.name = some r) : Step rs sp cl (wQ al r k sp cl) := by
  unfold wQ
  split
  · rename_i hx
    exact ⟨by simp, fun g => good_put g h hx, fun g => by have := put_len (al := cl) (s := (r.name, k)) (x := (lookA al (r.name, k)).getD .non); simp only [List.length_append, List.length_singleton]; omega⟩
  · exact ⟨by simp, id, fun g => by simp only [List.length_append, List.length_singleton]; omega⟩
theorem step_iter {rs : List Rw} {f : Int → List Spot → Ans → Rs} (h : ∀ k sp cl, Step rs sp cl (f k sp cl)) : ∀ (n : Nat) (k : Int) (sp : List Spot) (cl : Ans), Step rs sp cl (iterW f n k sp cl)
  | 0, k, sp, cl => Step.refl
  | n + 1, k, sp, cl => by
    have a := h k sp cl
    unfold iterW
    generalize f k sp cl = x at a
    obtain ⟨e, sp', cl'⟩ := x
    cases e with
    | some e => exact a
    | none => exact a.trans (step_iter h n (k + 1) sp' cl')
mutual
theorem step_row {rs : List Rw} {al : Ans} : ∀ {r : Rw}, WTr rs r → ∀ (k : Int) (sp : List Spot) (cl : Ans), Step rs sp cl (wRow rs al r k sp cl)
  | .one n os w, h, k, sp, cl => by unfold wRow; unfold WTr at h; exact step_q h.2
  | .some n os w, h, k, sp, cl => by unfold wRow; unfold WTr at h; exact step_q h.2
  | .number n lo hi w, h, k, sp, cl => by unfold wRow; unfold WTr at h; exact step_q h.2
  | .check n m w, h, k, sp, cl => by unfold wRow; exact Step.refl
  | .sect us w, h, k, sp, cl => by unfold wRow; unfold WTr at h; exact step_rows h.2 k sp cl
  | .rounds n us w, h, k, sp, cl => by unfold wRow; unfold WTr at h; exact step_iter (fun k sp cl => step_rows h.2.1 k sp cl) _ _ _ _
theorem step_rows {rs : List Rw} {al : Ans} : ∀ {us : List Rw}, WTs rs us → ∀ (k : Int) (sp : List Spot) (cl : Ans), Step rs sp cl (wRows rs al us k sp cl)
  | [], h, k, sp, cl => by unfold wRows; exact Step.refl
  | r :: us, h, k, sp, cl => by
    unfold WTs at h
    unfold wRows
    split
    · have a := step_row (al := al) h.1 k sp cl
      generalize wRow rs al r k sp cl = x at a
      obtain ⟨e, sp', cl'⟩ := x
      cases e with
      | some e => exact a
      | none => exact a.trans (step_rows h.2 k sp' cl')
    · exact step_rows h.2 k sp cl
end
section
variable {P : Program} {w : World} {K : PySem.W.Frag} {mg : Str → Option Value} {base : Heap}
theorem rng2_open {ta : TA} {σ : L2.St} {H : Hp} {R : It → Hp → Prop} (h : ta σ H fun vs H1 => ∃ i j : Int, vs = [.int i, .int j] ∧ (-(2 ^ 62) ≤ i ∧ i < 2 ^ 62 ∧ -(2 ^ 62) ≤ j ∧ j < 2 ^ 62) ∧ R (Itr i (j - i).toNat) H1) : iRng2 ta σ H R := h
theorem iter_few {rs : List Rw} {f : Int → List Spot → Ans → Rs} (h : ∀ k sp cl, Step rs sp cl (f k sp cl)) {n : Nat} {k : Int} {sp : List Spot} {cl : Ans} {B : Nat} (hb : (iterW f (n + 1) k sp cl).2.1.length ≤ B) : (f k sp cl).2.1.length ≤ B := by
  unfold iterW at hb
  generalize f k sp cl = x at hb
  obtain ⟨e, sp', cl'⟩ := x
  cases e with
  | some e => exact hb
  | none => exact Nat.le_trans (step_iter h n (k + 1) sp' cl').up hb
theorem iter_some {f : Int → List Spot → Ans → Rs} {n : Nat} {k : Int} {sp : List Spot} {cl : Ans} {e : Str × Spot} (h : (f k sp cl).1 = some e) : iterW f (n + 1) k sp cl = f k sp cl := by
  unfold iterW
  generalize f k sp cl = x at h
  obtain ⟨o, y⟩ := x
  have h : o = some e := h
  subst h
  rfl
theorem iter_none {f : Int → List Spot → Ans → Rs} {n : Nat} {k : Int} {sp : List Spot} {cl : Ans} (h : (f k sp cl).1 = none) : iterW f (n + 1) k sp cl = iterW f n (k + 1) (f k sp cl).2.1 (f k sp cl).2.2 := by
  conv => lhs; unfold iterW
  generalize f k sp cl = x at h
  obtain ⟨o, sp', cl'⟩ := x
  have h : o = none := h
  subst h
  rfl
theorem times_of {rs : List Rw} {cl : Ans} {n : Str} {H : Hp} {o : Option V} (g : GoodCl rs cl) (wn : ∀ r, formQ rs n = some r → ∃ m lo hi w', r = .number m lo hi w' ∧ 0 ≤ lo ∧ hi ≤ 4) (h : AnOpt H (o.getD .non) (lookA cl (n, 0))) (hn : lookA cl (n, 0) = none → o = none) : ∃ i : Int, o.getD (.int 0) = .int i ∧ timesF cl n = i.toNat ∧ 0 ≤ i ∧ i ≤ 4 := by
  unfold timesF
  cases hl : lookA cl (n, 0) with
  | none => rw [hn hl]; exact ⟨0, rfl, rfl, by decide, by decide⟩
  | some x =>
    obtain ⟨r, h1, h2⟩ := g _ x hl
    obtain ⟨m, lo, hi, w', rfl, h3, h4⟩ := wn r h1
    rw [hl] at h
    obtain ⟨h, _⟩ := h
    cases o with
    | none =>
      have h : AnO H .non x := h
      cases h
      cases h2
    | some v =>
      have h : AnO H v x := h
      cases h with
      | int i =>
        have h2 : (decide (lo ≤ i) && decide (i ≤ hi)) = true := h2
        rw [Bool.and_eq_true, decide_eq_true_eq, decide_eq_true_eq] at h2
        exact ⟨i, rfl, rfl, by omega, by omega⟩
      | _ => cases h2
theorem sc_end_in_rounds : FnScope ["road", "rounds", "times", "k", "end"] ["road", "rounds"] (defScope s_end_in_rounds) := ⟨rfl, rfl, rfl, by decide +kernel, rfl, by decide +kernel, by decide +kernel⟩
theorem ok_end_in_rounds (T : Tx K mg) {D N L : Nat} (hL : D + 5 ≤ L) (Oend_in_rows : Ok P w K mg base L (He.ga K "end_in_rows") ["road", "rows", "k"] (spRows K D N)) : Ok P w K mg base (L + 1) (He.ga K "end_in_rounds") ["road", "rounds"] (spRounds K D N) := by
  obtain ⟨fd, F⟩ := T.f_end_in_rounds
  refine ⟨fd, F.ok (k := L) sc_end_in_rounds (fun vs H Q E h => ?_) (fun cdv A outer s_ H vs Q E hr h => ?_), F.bindsN fun _ _ _ _ _ _ us hl => match us, hl with | [_, _], _ => rfl, F.kp⟩
  · obtain ⟨_, _, _, _, _, _, _, _, _, _, _, _, _, rfl, _⟩ := h
    rfl
  obtain ⟨v, R, f, ad, l, cd, n, us, wc, rs, al, cl, sp, rfl, hr0, dep, cds, wt, wn, hR, nac, bnd, q⟩ := h
  have hu65 := K3.Room.units65 hr
  have hu1 := Nat.lt_of_le_of_lt (Nat.add_le_add_left (show 1 ≤ 65 by decide) _) hu65
  have rend_in_rows : Room L _ := hr
  refine ⟨_, pss_cons (ps_set (i := 2) sc_end_in_rounds.nd rfl (Or.inl rfl) (pe_dget2 hu1 (pe_fld (pv 0) rfl) (pe_tup (pa_cons (pe_fld (pv 1) rfl) (pa_cons pe_int pa_nil))) pe_int ⟨rfl, rfl, rfl, rfl⟩))
      (pss_cons (ps_for (passes_of rfl) (by rfl) (pi_range2 rfl T.z_range (pa_cons pe_int (pa_cons (pe_op op_add (pv 2) pe_int) pa_nil))) (pg_name (i := 3) sc_end_in_rounds.nd rfl (Or.inl rfl)) (pss_cons (ps_set (i := 4) sc_end_in_rounds.nd rfl (Or.inl rfl) (pe_f Oend_in_rows rend_in_rows T.g_end_in_rows (pa_cons (pv 0) (pa_cons (pe_fld (pv 1) rfl) (pa_cons (pv 3) pa_nil)))))
      (pss_one (ps_if (pt_cmp (pc_notN (pv 4))) (pss_one (ps_ret (pv 4))) pss_nil))))
      (pss_one (ps_ret pe_non))), ?_⟩
  obtain ⟨⟨dx, hRi⟩, hf, ⟨kva, had, hA⟩, ⟨ps, hl, hps⟩, ⟨kvc, hcd, hC⟩⟩ := id hR
  cases hr0 with
  | @rounds a t n xs us wc wv hi ht hros hw =>
  obtain ⟨dxr, hi⟩ := hi
  walk_at "go"
  refine ⟨R, _, dx, _, _, rfl, hRi, T.cl_Road, T.n_Road_counted, rfl, ?_⟩
  refine ⟨cd, rfl, .inr ⟨_, .inl hcd⟩, ?_⟩
  walk_at "go"
  refine ⟨a, _, dxr, _, _, rfl, hi, T.cl_Rounds, T.n_Rounds_count, rfl, ?_⟩
  walk_at "go"
  refine ⟨(by show 2 ≤ sizeLine; decide), fun p hp => ?_⟩
  have e1 := Same.new hp (.tup [V.str n, V.int 0])
  have g1 : (upd H p (.tup [V.str n, V.int 0])) p = some (.tup [V.str n, V.int 0]) := upd_same
  generalize upd H p (.tup [V.str n, V.int 0]) = H1 at e1 g1 ⊢
  walk_at "go"
  obtain ⟨o, ho, han⟩ := look_opt (s := (n, 0)) (hC.nt (Same.nt e1))
  refine ⟨o, ho ▸ DGet.t (k := keyOf (n, 0)) (e1 _ _ hcd) g1, ?_⟩
  obtain ⟨i, hoi, htm, i0, i1⟩ := times_of bnd.good wn han (fun hz => by
    have := en_val (s := (n, 0)) hC.ents
    rw [hz] at this
    exact ho.symm.trans this)
  rw [hoi]
  walk_at "go"
  refine rng2_open ?_
  walk_at "go"
  refine ⟨1, i + 1, rfl, ⟨by decide, by decide, by omega, by omega⟩, ?_⟩
  rw [show (i + 1 - 1).toNat = i.toNat by congr 1; omega, ← htm]
  have st : ∀ k sp cl, Step rs sp cl (wRows rs al us k sp cl) := fun k sp cl => step_rows wt k sp cl
  obtain ⟨good, lec, few⟩ := bnd
  unfold Went at q
  generalize hF : (fun k sp cl => wRows rs al us k sp cl) = F at few q
  have hFa : ∀ k sp cl, F k sp cl = wRows rs al us k sp cl := fun k sp cl => by rw [← hF]
  have stF : ∀ k sp cl, Step rs sp cl (F k sp cl) := fun k sp cl => by rw [hFa]; exact st k sp cl
  generalize timesF cl n = m at few q ⊢
  refine for_range (lo := 1) (n := m) (fun (j : Nat) σ H' => ∃ (o3 o4 : Option V) (sp' : List Spot) (cl' : Ans), σ = [some (.ref R), some (.ref a), some (.int i), o3, o4] ∧ BM [l, cd] H H' ∧ RoadO K H' R f ad l cd rs al cl' sp' ∧ GoodCl rs cl' ∧ cl'.length ≤ sp'.length ∧ iterW F m 1 sp cl = iterW F (m - j) (1 + (j : Int)) sp' cl')
    ⟨none, none, sp, cl, rfl, BM.of e1, hR.same e1, good, lec, rfl⟩ ?_ ?_
  · rintro j σ H2 hj ⟨o3, o4, sp', cl', rfl, b2, hR2, good2, le2, eq2⟩
    rw [show m - j = (m - (j + 1)) + 1 by omega] at eq2
    have nm := BM.nm hl hcd b2
    have few2 : (F (1 + (j : Int)) sp' cl').2.1.length ≤ 9000 := iter_few stF (n := m - (j + 1)) (by rw [← eq2]; exact few)
    have sF := stF (1 + (j : Int)) sp' cl'
    walk_at "go"
    refine ⟨a, _, dxr, _, _, rfl, nm.ins hi, T.cl_Rounds, T.n_Rounds_rows, rfl, ?_⟩
    walk_at "go"
    refine ⟨R, f, ad, l, cd, t, 1 + (j : Int), xs, us, rs, al, cl', sp', rfl, nm.si.sqt ht, ROs.si nm.si hros, dep, cds, wt, hR2, nac, ⟨good2, le2, by rw [← hFa]; exact few2⟩, ?_⟩
    rw [← hFa]
    intro v H3 b3 hv hR3
    walk_at "go"
    cases hx : (F (1 + (j : Int)) sp' cl').1 with
    | none =>
      rw [hx] at hv
      have hv : v = .non := hv
      subst hv
      show if (!decide (V.non = V.non)) = true then _ else _
      rw [decide_eq_true rfl]
      walk_at "go"
      refine ⟨_, _, _, _, rfl, b2.trans b3, hR3, sF.good good2, sF.le le2, ?_⟩
      rw [eq2, iter_none hx, show (1 + (j : Int)) + 1 = 1 + ((j + 1 : Nat) : Int) by omega]
    | some e =>
      have er : iterW F m 1 sp cl = F (1 + (j : Int)) sp' cl' := by rw [eq2, iter_some hx]
      rw [er] at q
      have nn : decide (v = V.non) = false := by
        rw [hx] at hv
        obtain ⟨_, _, h, _⟩ := hv
        rw [h]
        exact decide_eq_false fun z => nomatch z
      show if (!decide (v = V.non)) = true then _ else _
      rw [nn]
      walk_at "go"
      exact q v H3 (b2.trans b3) hv hR3
  · rintro σ H2 ⟨o3, o4, sp', cl', rfl, b2, hR2, good2, le2, eq2⟩
    rw [Nat.sub_self] at eq2
    rw [eq2] at q
    walk_at "go"
    exact q .non H2 b2 rfl hR2
theorem sc_end_at_row : FnScope ["road", "row", "k"] ["road", "row", "k"] (defScope s_end_at_row) := ⟨rfl, rfl, rfl, by decide +kernel, rfl, by decide +kernel, by decide +kernel⟩
theorem ok_end_at_row (T : Tx K mg) {D N L : Nat} (hL : D + 5 ≤ L) (Oend_in_rows : Ok P w K mg base L (He.ga K "end_in_rows") ["road", "rows", "k"] (spRows K D N)) : Ok P w K mg base (L + 2) (He.ga K "end_at_row") ["road", "row", "k"] (spRow K D (N + 1)) := by
  obtain ⟨fd, F⟩ := T.f_end_at_row
  have Oend_in_rounds := ok_end_in_rounds T hL Oend_in_rows
  have Ois_question := ok_is_question (P := P) (w := w) (base := base) T
  have Oend_at_question := ok_end_at_question (P := P) (w := w) (base := base) T
  have Oholds := ok_holds (P := P) (w := w) (base := base) T D
  refine ⟨fd, F.ok (k := L + 1) sc_end_at_row (fun vs H Q E h => ?_) (fun cdv A outer s_ H vs Q E hr h => ?_), F.bindsN fun _ _ _ _ _ _ us hl => match us, hl with | [_, _, _], _ => rfl, F.kp⟩
  · obtain ⟨_, _, _, _, _, _, _, _, _, _, _, _, rfl, _⟩ := h
    rfl
  obtain ⟨v, R, f, ad, l, cd, k, r, rs, al, cl, sp, rfl, hr0, dep, cds, wt, hR, nac, bnd, q⟩ := h
  have ris_question : Room 1 _ := hr.mono (by omega)
  have rend_at_question : Room 3 _ := hr.mono (by omega)
  have rholds : Room (D + 3) _ := hr.mono (by omega)
  have rend_in_rows : Room L _ := hr.mono (by omega)
  have rend_in_rounds : Room (L + 1) _ := hr
  refine ⟨_, pss_cons (ps_if (pt_val (pe_f Ois_question ris_question T.g_is_question (pa_cons (pv 1) pa_nil))) (pss_one (ps_ret (pe_f Oend_at_question rend_at_question T.g_end_at_question (pa_cons (pv 0) (pa_cons (pv 1) (pa_cons (pv 2) pa_nil)))))) pss_nil)
      (pss_cons (ps_if (pt_val (pe_callB call_isi (by rfl) T.z_isinstance (by decide +kernel) (pa_cons (pv 1) (pa_cons (pe_gref T.g_Check) pa_nil)))) (pss_one (ps_ret (pe_ifExp (pt_val (pe_f Oholds rholds T.g_holds (pa_cons (pe_fld (pv 1) rfl) (pa_cons (pv 0) (pa_cons (pv 2) pa_nil))))) pe_non (pe_tup (pa_cons pe_str (pa_cons (pe_tup (pa_cons (pe_fld (pv 1) rfl) (pa_cons (pv 2) pa_nil))) pa_nil)))))) pss_nil)
      (pss_cons (ps_if (pt_val (pe_callB call_isi (by rfl) T.z_isinstance (by decide +kernel) (pa_cons (pv 1) (pa_cons (pe_gref T.g_Section) pa_nil)))) (pss_one (ps_ret (pe_f Oend_in_rows rend_in_rows T.g_end_in_rows (pa_cons (pv 0) (pa_cons (pe_fld (pv 1) rfl) (pa_cons (pv 2) pa_nil)))))) pss_nil)
      (pss_one (ps_ret (pe_f Oend_in_rounds rend_in_rounds T.g_end_in_rounds (pa_cons (pv 0) (pa_cons (pv 1) pa_nil))))))), ?_⟩
  walk_at "go"
  refine ⟨v, r, rfl, hr0, fun H1 e1 => ?_⟩
  refine ⟨_, rfl, ?_⟩
  have hr1 := RO.same e1 hr0
  have hR1 := hR.same e1
  have q1 : Went K H1 R f ad l cd rs al (wRow rs al r k sp cl) Q := fun v H' b => q v H' ((BM.of e1).trans b)
  have quest : r.isQ = true → wRow rs al r k sp cl = wQ al r k sp cl ∧ formQ rs r.name = some r := by
    intro hq
    cases r with
    | one n os w => exact ⟨by unfold wRow; rfl, by unfold WTr at wt; exact wt.2⟩
    | some n os w => exact ⟨by unfold wRow; rfl, by unfold WTr at wt; exact wt.2⟩
    | number n lo hi w => exact ⟨by unfold wRow; rfl, by unfold WTr at wt; exact wt.2⟩
    | _ => cases hq
  cases hq : r.isQ with
  | true =>
    obtain ⟨e, fq⟩ := quest hq
    rw [e] at q1 bnd
    have up := (step_q (al := al) (k := k) (sp := sp) (cl := cl) fq).up
    have fw := bnd.few
    walk_at "go"
    exact ⟨v, R, f, ad, l, cd, k, r, rs, al, cl, sp, rfl, hr1, hq, fq, hR1, nac, Nat.le_trans up fw, bnd.le, q1⟩
  | false =>
    walk_at "go"
    refine isiR T hr1 (y := "Check") (by decide) ?_
    refine ⟨_, rfl, ?_⟩
    cases hr1 with
    | one _ _ _ => cases hq
    | some _ _ _ => cases hq
    | number _ _ => cases hq
    | @check a n m mv wc wv hi hm hw =>
      obtain ⟨dx, hi⟩ := hi
      unfold wRow at q1 bnd
      unfold WTr at wt
      unfold Rw.cds at cds
      show if true = true then _ else _
      walk_at "go"
      refine ⟨a, _, dx, _, _, rfl, hi, T.cl_Check, T.n_Check_must, rfl, ?_⟩
      walk_at "go"
      refine ⟨mv, R, f, ad, l, cd, k, m, rs, al, cl, sp, rfl, cds.1, hm, fit_of bnd.good wt.2, hR1, fun H2 e2 => ?_⟩
      refine ⟨_, rfl, ?_⟩
      cases hb : evC rs cl k m with
      | true =>
        rw [hb, if_pos rfl] at q1
        walk_at "go"
        exact q1 .non H2 (BM.of e2) rfl (hR1.same e2)
      | false =>
        rw [hb, if_neg Bool.false_ne_true] at q1
        walk_at "go"
        refine ⟨a, _, dx, _, _, rfl, e2 _ _ hi, T.cl_Check, T.n_Check_name, rfl, ?_⟩
        walk_at "go"
        refine ⟨(by show 2 ≤ sizeLine; decide), fun p hp => ?_⟩
        have e3 := Same.new hp (.tup [V.str n, V.int k])
        have g3 : (upd H2 p (.tup [V.str n, V.int k])) p = some (.tup [V.str n, V.int k]) := upd_same
        generalize upd H2 p (.tup [V.str n, V.int k]) = H3 at e3 g3 ⊢
        walk_at "go"
        refine ⟨(by show 2 ≤ sizeLine; decide), fun t ht => ?_⟩
        have e4 := Same.new ht (.tup [V.str "barred", V.ref p])
        have e24 := e2.trans (e3.trans e4)
        exact q1 _ _ (BM.of e24) ⟨t, p, rfl, upd_same, e4 _ _ g3⟩ (hR1.same e24)
    | @sect a t xs us wc wv hi ht hros hw =>
      obtain ⟨dx, hi'⟩ := id hi
      unfold wRow at q1 bnd
      unfold WTr at wt
      unfold Rw.cds at cds
      unfold Rw.dep at dep
      show if false = true then _ else _
      walk_at "go"
      refine isiR T (.sect hi ht hros hw) (y := "Section") (by decide) ?_
      refine ⟨_, rfl, ?_⟩
      show if true = true then _ else _
      walk_at "go"
      refine ⟨a, _, dx, _, _, rfl, hi', T.cl_Section, T.n_Section_rows, rfl, ?_⟩
      walk_at "go"
      exact ⟨R, f, ad, l, cd, t, k, xs, us, rs, al, cl, sp, rfl, ht, hros, by omega, cds.1, wt.2, hR1, nac, ⟨bnd.good, bnd.le, bnd.few⟩, q1⟩
    | @rounds a t n xs us wc wv hi ht hros hw =>
      unfold wRow at q1 bnd
      unfold WTr at wt
      unfold Rw.cds at cds
      unfold Rw.dep at dep
      show if false = true then _ else _
      walk_at "go"
      refine isiR T (.rounds hi ht hros hw) (y := "Section") (by decide) ?_
      refine ⟨_, rfl, ?_⟩
      show if false = true then _ else _
      walk_at "go"
      exact ⟨_, R, f, ad, l, cd, n, us, wc, rs, al, cl, sp, rfl, .rounds hi ht hros hw, by omega, cds.1, wt.2.1, wt.2.2, hR1, nac, ⟨bnd.good, bnd.le, bnd.few⟩, q1⟩
theorem ros_get {H : Hp} : ∀ {xs : List V} {us : List Rw}, ROs K H xs us → ∀ {j : Nat} {v : V}, xs[j]? = some v → ∃ r, us[j]? = some r ∧ RO K H v r
  | _, _, .nil, j, v, h => by simp at h
  | _, _, .cons h t, 0, v, e => by
    have := Option.some.inj e
    subst this
    exact ⟨_, rfl, h⟩
  | _, _, .cons h t, j + 1, v, e => ros_get t (j := j) (by simpa using e)
theorem ros_len {H : Hp} : ∀ {xs : List V} {us : List Rw}, ROs K H xs us → xs.length = us.length
  | _, _, .nil => rfl
  | _, _, .cons _ t => congrArg Nat.succ (ros_len t)
theorem rws_at {D : Nat} {rs : List Rw} : ∀ {us : List Rw} {j : Nat} {r : Rw}, us[j]? = some r → Rws.cds D us → WTs rs us → r.dep ≤ Rws.dep us ∧ r.cds D ∧ WTr rs r ∧ WTs rs (us.drop j) ∧ us.drop j = r :: us.drop (j + 1)
  | [], j, r, h, _, _ => by simp at h
  | u :: us, 0, r, h, c, t => by
    have := Option.some.inj h
    subst this
    have t' := t
    unfold WTs at t
    unfold Rws.cds at c
    unfold Rws.dep
    exact ⟨Nat.le_max_left .., c.1, t.1, t', rfl⟩
  | u :: us, j + 1, r, h, c, t => by
    unfold WTs at t
    unfold Rws.cds at c
    obtain ⟨a, b, c, d, e⟩ := rws_at (us := us) (j := j) (r := r) (by simpa using h) c.2 t.2
    unfold Rws.dep
    exact ⟨Nat.le_trans a (Nat.le_max_right ..), b, c, d, e⟩
theorem cds_wh {D : Nat} {r : Rw} {c : Cd} (h : r.cds D) (hc : r.wh = some c) : c.dep < D := by
  cases r with
  | one n os w => unfold Rw.cds at h; exact h c hc
  | some n os w => unfold Rw.cds at h; exact h c hc
  | number n lo hi w => unfold Rw.cds at h; exact h c hc
  | check n m w => unfold Rw.cds at h; exact h.2 c hc
  | sect us w => unfold Rw.cds at h; exact h.2 c hc
  | rounds n us w => unfold Rw.cds at h; exact h.2 c hc
theorem wt_wh {rs : List Rw} {r : Rw} {c : Cd} (h : WTr rs r) (hc : r.wh = some c) : WTc rs c := by
  cases r with
  | one n os w => unfold WTr at h; exact h.1 c hc
  | some n os w => unfold WTr at h; exact h.1 c hc
  | number n lo hi w => unfold WTr at h; exact h.1 c hc
  | check n m w => unfold WTr at h; exact h.1 c hc
  | sect us w => unfold WTr at h; exact h.1 c hc
  | rounds n us w => unfold WTr at h; exact h.1 c hc
theorem rows_skip {rs : List Rw} {al cl : Ans} {r : Rw} {us : List Rw} {k : Int} {sp : List Spot} (h : whF rs cl k r.wh = false) : wRows rs al (r :: us) k sp cl = wRows rs al us k sp cl := by
  conv => lhs; unfold wRows
  rw [h, if_neg Bool.false_ne_true]
theorem rows_some {rs : List Rw} {al cl : Ans} {r : Rw} {us : List Rw} {k : Int} {sp : List Spot} {e : Str × Spot} (h : whF rs cl k r.wh = true) (he : (wRow rs al r k sp cl).1 = some e) : wRows rs al (r :: us) k sp cl = wRow rs al r k sp cl := by
  conv => lhs; unfold wRows
  rw [h, if_pos rfl]
  generalize wRow rs al r k sp cl = x at he
  obtain ⟨o, y⟩ := x
  have he : o = some e := he
  subst he
  rfl
theorem rows_none {rs : List Rw} {al cl : Ans} {r : Rw} {us : List Rw} {k : Int} {sp : List Spot} (h : whF rs cl k r.wh = true) (he : (wRow rs al r k sp cl).1 = none) : wRows rs al (r :: us) k sp cl = wRows rs al us k (wRow rs al r k sp cl).2.1 (wRow rs al r k sp cl).2.2 := by
  conv => lhs; unfold wRows
  rw [h, if_pos rfl]
  generalize wRow rs al r k sp cl = x at he
  obtain ⟨o, sp', cl'⟩ := x
  have he : o = none := he
  subst he
  rfl
theorem sc_end_in_rows : FnScope ["road", "rows", "k", "row", "end"] ["road", "rows", "k"] (defScope s_end_in_rows) := ⟨rfl, rfl, rfl, by decide +kernel, rfl, by decide +kernel, by decide +kernel⟩
theorem ok_end_in_rows (T : Tx K mg) {D : Nat} : ∀ N, Ok P w K mg base (D + 5 + 3 * N) (He.ga K "end_in_rows") ["road", "rows", "k"] (spRows K D N) := by
  obtain ⟨fd, F⟩ := T.f_end_in_rows
  have b : Binds K fd ["road", "rows", "k"] [] := F.bindsN fun _ _ _ _ _ _ us hl => match us, hl with | [_, _, _], _ => rfl
  have Oholds := ok_holds (P := P) (w := w) (base := base) T D
  intro N
  induction N with
  | zero =>
    refine ⟨fd, F.ok (k := D + 4) sc_end_in_rows (fun vs H Q E h => ?_) (fun cdv A outer s H vs Q E hr h => ?_), b, F.kp⟩
    · obtain ⟨_, _, _, _, _, _, _, _, _, _, _, _, _, _, _, _, h, _⟩ := h
      omega
    · obtain ⟨_, _, _, _, _, _, _, _, _, _, _, _, _, _, _, _, h, _⟩ := h
      omega
  | succ N ih =>
    have Oend_at_row := ok_end_at_row T (Nat.le_add_right _ _) ih
    refine ⟨fd, F.ok (k := D + 5 + 3 * N + 2) sc_end_in_rows (fun vs H Q E h => ?_) (fun cdv A outer s H vs Q E hr h => ?_), b, F.kp⟩
    · obtain ⟨_, _, _, _, _, _, _, _, _, _, _, _, _, rfl, _⟩ := h
      rfl
    obtain ⟨R, f, ad, l, cd, t, k, xs, us, rs, al, cl, sp, rfl, ht, hros, dep, cds, wt, hR, nac, ⟨good, lec, few⟩, q⟩ := h
    have rholds : Room (D + 3) _ := hr.mono (by omega)
    have rend_at_row : Room (D + 5 + 3 * N + 2) _ := hr
    refine ⟨_, pss_cons (ps_for (passes_of rfl) (by rfl) (pi_tup (pv 1)) (pg_name (i := 3) sc_end_in_rows.nd rfl (Or.inl rfl)) (pss_one (ps_if (PW.pt (pw_or (pt_cmp (pc_isN (pe_fld (pv 3) rfl))) (pw_or1 (pt_val (pe_f Oholds rholds T.g_holds (pa_cons (pe_fld (pv 3) rfl) (pa_cons (pv 0) (pa_cons (pv 2) pa_nil)))))))) (pss_cons (ps_set (i := 4) sc_end_in_rows.nd rfl (Or.inl rfl) (pe_f Oend_at_row rend_at_row T.g_end_at_row (pa_cons (pv 0) (pa_cons (pv 3) (pa_cons (pv 2) pa_nil)))))
      (pss_one (ps_if (pt_cmp (pc_notN (pv 4))) (pss_one (ps_ret (pv 4))) pss_nil))) pss_nil)))
      (pss_one (ps_ret pe_non)), ?_⟩
    obtain ⟨_, hf, _, ⟨ps, hl, _⟩, ⟨kvc, hcd, _⟩⟩ := id hR
    walk_at "go"
    refine ⟨_, rfl, t, rfl, ⟨_, ht⟩, ?_⟩
    refine for_it (walk_tup (K := K) (a := t) (xs := xs)) (fun (j : Nat) σ H' => ∃ (o3 o4 : Option V) (sp' : List Spot) (cl' : Ans), σ = [some (.ref R), some (.ref t), some (.int k), o3, o4] ∧ BM [l, cd] H H' ∧ RoadO K H' R f ad l cd rs al cl' sp' ∧ GoodCl rs cl' ∧ cl'.length ≤ sp'.length ∧ wRows rs al us k sp cl = wRows rs al (us.drop j) k sp' cl')
      ⟨none, none, sp, cl, rfl, BM.refl _ _, hR, good, lec, rfl⟩ (fun j σ H' _ ⟨_, _, _, _, _, b2, _⟩ => (BM.nm hl hcd b2).si.sqt ht) ?_ ?_
    · rintro j x σ H2 H2' hj ⟨o3, o4, sp', cl', rfl, b2, hR2, good2, le2, eq2⟩ ⟨e2', hx⟩
      have e2s := e2'.symm
      subst e2s
      obtain ⟨r, hjr, hr0⟩ := ros_get hros hx
      obtain ⟨dr, cr, tr, trs, dq⟩ := rws_at hjr cds wt
      have nm := BM.nm hl hcd b2
      have hr2 := RO.si nm.si hr0
      rw [dq] at eq2 trs
      obtain ⟨ra, rdx, rfs, rwv, rfl, hri, hrc, hrn, hrf, hwo⟩ := ro_where T hr2
      have fw := few
      rw [eq2] at fw
      have sF := step_row (al := al) tr k sp' cl'
      have fwr : whF rs cl' k r.wh = true → (wRow rs al r k sp' cl').2.1.length ≤ 9000 := fun hw => by
        cases he : (wRow rs al r k sp' cl').1 with
        | some e => rw [rows_some hw he] at fw; exact fw
        | none =>
          rw [rows_none hw he] at fw
          unfold WTs at trs
          exact Nat.le_trans (step_rows trs.2 k _ _).up fw
      walk_at "go"
      refine ⟨ra, _, rdx, rfs, rwv, rfl, hri, hrc, hrn, hrf, ?_⟩
      refine ⟨_, rfl, ?_⟩
      cases hc : r.wh with
      | none =>
        rw [hc] at hwo
        cases hwo
        have hw : whF rs cl' k r.wh = true := by rw [hc]; rfl
        show if decide (V.non = V.non) = true then _ else _
        rw [decide_eq_true rfl]
        walk_at "go"
        refine ⟨.ref ra, R, f, ad, l, cd, k, r, rs, al, cl', sp', rfl, hr2, (by omega), cr, tr, hR2, nac, ⟨good2, le2, fwr hw⟩, fun v H4 b4 hv hR4 => ?_⟩
        walk_at "go"
        cases hx2 : (wRow rs al r k sp' cl').1 with
        | none =>
          rw [hx2] at hv
          have hv : v = .non := hv
          subst hv
          show if (!decide (V.non = V.non)) = true then _ else _
          rw [decide_eq_true rfl]
          walk_at "go"
          exact ⟨_, _, _, _, rfl, (b2).trans b4, hR4, sF.good good2, sF.le le2, eq2.trans (rows_none hw hx2)⟩
        | some e =>
          rw [eq2.trans (rows_some hw hx2)] at q
          have nn : decide (v = V.non) = false := by
            rw [hx2] at hv
            obtain ⟨_, _, h, _⟩ := hv
            rw [h]
            exact decide_eq_false fun z => nomatch z
          show if (!decide (v = V.non)) = true then _ else _
          rw [nn]
          walk_at "go"
          exact q v H4 ((b2).trans b4) hv hR4
      | some c =>
        rw [hc] at hwo
        have cw := cds_wh cr hc
        have tw := wt_wh tr hc
        cases hwo with
        | some hco =>
        have nn0 : decide (rwv = V.non) = false := by
          obtain ⟨_, h⟩ := hco.ref
          rw [h]
          exact decide_eq_false fun z => nomatch z
        rw [nn0]
        walk_at "go"
        refine ⟨ra, _, rdx, rfs, rwv, rfl, hri, hrc, hrn, hrf, ?_⟩
        walk_at "go"
        refine ⟨rwv, R, f, ad, l, cd, k, c, rs, al, cl', sp', rfl, cw, hco, fit_of good2 tw, hR2, fun H3 e3 => ?_⟩
        refine ⟨_, rfl, ?_⟩
        cases hev : evC rs cl' k c with
        | true =>
          have hw : whF rs cl' k r.wh = true := by rw [hc]; exact hev
          walk_at "go"
          refine ⟨.ref ra, R, f, ad, l, cd, k, r, rs, al, cl', sp', rfl, RO.same e3 hr2, (by omega), cr, tr, hR2.same e3, nac, ⟨good2, le2, fwr hw⟩, fun v H4 b4 hv hR4 => ?_⟩
          walk_at "go"
          cases hx2 : (wRow rs al r k sp' cl').1 with
          | none =>
            rw [hx2] at hv
            have hv : v = .non := hv
            subst hv
            show if (!decide (V.non = V.non)) = true then _ else _
            rw [decide_eq_true rfl]
            walk_at "go"
            exact ⟨_, _, _, _, rfl, (b2.trans (BM.of e3)).trans b4, hR4, sF.good good2, sF.le le2, eq2.trans (rows_none hw hx2)⟩
          | some e =>
            rw [eq2.trans (rows_some hw hx2)] at q
            have nn : decide (v = V.non) = false := by
              rw [hx2] at hv
              obtain ⟨_, _, h, _⟩ := hv
              rw [h]
              exact decide_eq_false fun z => nomatch z
            show if (!decide (v = V.non)) = true then _ else _
            rw [nn]
            walk_at "go"
            exact q v H4 ((b2.trans (BM.of e3)).trans b4) hv hR4
        | false =>
          have hw : whF rs cl' k r.wh = false := by rw [hc]; exact hev
          walk_at "go"
          exact ⟨_, _, _, _, rfl, b2.trans (BM.of e3), hR2.same e3, good2, le2, eq2.trans (rows_skip hw)⟩
    · rintro σ H2 ⟨o3, o4, sp', cl', rfl, b2, hR2, good2, le2, eq2⟩
      have lx := ros_len hros
      rw [lx, List.drop_length] at eq2
      rw [eq2] at q
      walk_at "go"
      exact q .non H2 b2 (by unfold wRows; rfl) (by unfold wRows; exact hR2)
end
end K3
end U3_part
section U4_part
set_option Elab.async false
set_option linter.all false
set_option maxRecDepth 100000
set_option maxHeartbeats 1000000
set_option pp.deepTerms true
open PySem PySem.Spec PyProof.Rows L2
/-- go on as far as nothing is open -/
local macro_rules | `(tactic| walk_at "go") => `(tactic| repeat (first
  | with_reducible refine w_seq ?_ | with_reducible refine w_next ?_ | with_reducible refine w_set ?_ | with_reducible refine w_drop ?_ | with_reducible refine w_ret ?_ | with_reducible refine w_retN ?_
  | with_reducible refine w_if ?_ | ((with_reducible refine' w_var ?hv ?_); (case hv => exact rfl)) | with_reducible refine w_c ?_ | with_reducible refine w_nil ?_ | with_reducible refine w_cons ?_ | with_reducible refine w_op ?_ | with_reducible refine w_un ?_
  | with_reducible refine w_test ?_ | with_reducible refine w_tB ?_ | with_reducible refine w_not ?_ | with_reducible refine w_and ?_ | with_reducible refine w_or ?_ | with_reducible refine w_bl ?_
  | with_reducible refine w_andV ?_ | with_reducible refine w_orV ?_ | with_reducible refine w_notV ?_ | with_reducible refine w_ifE ?_ | with_reducible refine w_chain ?_ | with_reducible refine w_i0 ?_
  | with_reducible refine w_call ?_ | with_reducible refine w_callS ?_ | with_reducible refine w_cB ?_ | with_reducible refine w_tup ?_ | with_reducible refine w_lst ?_ | with_reducible refine w_fldV ?_
  | with_reducible refine w_neF ?_ | with_reducible refine w_neT ?_ | with_reducible refine w_notN ?_ | with_reducible refine w_isN ?_ | with_reducible refine w_gname ?_ | with_reducible refine w_gsub ?_ | with_reducible refine w_asg ?_ | with_reducible refine w_sl ?_ | with_reducible refine w_noP ?_ | with_reducible refine w_int1 ?_ | with_reducible refine w_part ?_ | with_reducible refine w_meth ?_ | with_reducible refine w_din ?_ | with_reducible refine w_dnotin ?_ | with_reducible refine w_dgt ?_ | with_reducible refine w_dget1 ?_ | with_reducible refine w_dget2 ?_ | with_reducible refine w_dput ?_ | with_reducible refine w_yes ?_ | with_reducible refine w_nT ?_ | with_reducible refine w_nF ?_ | with_reducible refine w_iteT ?_ | with_reducible refine w_iteF ?_))
namespace K3
/-! ### a whole walk -/
def spRoadI (K : PySem.W.Frag) : Sp := fun vs H Q _ => ∃ (x dx f ad : Addr), vs = [.ref x, .ref f, .ref ad] ∧ H x = some (.ins (He.ga K "Road") dx []) ∧
  ∀ l cd H', H l = none → H cd = none → l ≠ cd → (∀ b o, b ≠ x → H b = some o → H' b = some o) → H' x = some (.ins (He.ga K "Road") dx [("form", .ref f), ("answers", .ref ad), ("asked", .ref l), ("counted", .ref cd)]) → H' l = some (.lst []) → H' cd = some (.dT []) → Q .non H'
structure WalkO (K : PySem.W.Frag) (H : Hp) (a : Addr) (x : Rs) : Prop where
  at_ : ∃ (dx l cd : Addr) (wd : Str) (sv : V) (ps : List Addr) (kvs : List (List Key × V)), H a = some (.ins (He.ga K "Walk") dx [("word", .str wd), ("spot", sv), ("asked", .ref l), ("counted", .ref cd)]) ∧
    (match x.1 with
    | none => wd = "done" ∧ sv = .non
    | some (w', s) => wd = w' ∧ ∃ p, sv = .ref p ∧ H p = some (.tup [.str s.1, .int s.2])) ∧
    H l = some (.lst (ps.map V.ref)) ∧ Paired (fun p (s : Spot) => H p = some (.tup [.str s.1, .int s.2])) ps x.2.1 ∧ H cd = some (.dT kvs) ∧ AD H cd kvs x.2.2
def spWalked (K : PySem.W.Frag) (D N : Nat) : Sp := fun vs H Q _ => ∃ (f ad : Addr) (rs : List Rw) (al : Ans) (kva : List (List Key × V)), vs = [.ref f, .ref ad] ∧ FormO K H f rs ∧ H ad = some (.dT kva) ∧ AD H ad kva al ∧ Rws.dep rs < N ∧ Rws.cds D rs ∧ WTs rs rs ∧ (wRows rs al rs 0 [] []).2.1.length ≤ 9000 ∧
  ∀ a H', Same H H' → WalkO K H' a (wRows rs al rs 0 [] []) → Q (.ref a) H'
theorem w_gn2 {i j : Nat} {v1 v2 : V} {σ : L2.St} {H : Hp} {Q : L2.St → Hp → Prop} (h : Q ((σ.set i (some v1)).set j (some v2)) H) : gCons (gName i) (gCons (gName j) gNil) [v1, v2] σ H Q := ⟨_, _, rfl, _, _, rfl, rfl, h⟩
theorem same_new2 {l cd : Addr} {H H1 H2 : Hp} (h0 : H l = none) (h1 : H cd = none) (e : Same H H1) (b : BM [l, cd] H1 H2) : Same H H2 := fun c o h => b.at (e _ _ h) (by
  simp only [List.mem_cons, List.not_mem_nil, or_false, not_or]
  exact ⟨fun z => (by rw [z, h0] at h; cases h), fun z => (by rw [z, h1] at h; cases h)⟩)
section
variable {P : Program} {w : World} {K : PySem.W.Frag} {mg : Str → Option Value} {base : Heap}
theorem sc_Road : FnScope ["self", "form", "answers"] ["self", "form", "answers"] (defScope s_Road_init) := ⟨rfl, rfl, rfl, by decide +kernel, rfl, by decide +kernel, by decide +kernel⟩
theorem ok_Road (T : Tx K mg) : Ok P w K mg base 1 (He.ma K (He.ga K "Road") "__init__") ["self", "form", "answers"] (spRoadI K) := by
  obtain ⟨fd, F⟩ := T.f_Road_init
  refine ⟨fd, F.ok sc_Road (fun vs H Q E h => ?_) (fun cdv A outer s H vs Q E hr h => ?_), F.bindsN fun _ _ _ _ _ _ us hl => match us, hl with | [_, _, _], _ => rfl, F.kp⟩
  · obtain ⟨_, _, _, _, rfl, _⟩ := h
    rfl
  obtain ⟨x, dx, f, ad, rfl, hx, q⟩ := h
  refine ⟨_, pss_cons (ps_fld (pv 0) (pv 1) rfl) (pss_cons (ps_fld (pv 0) (pv 2) rfl) (pss_cons (ps_fld (pv 0) (pe_lst pa_nil) rfl) (pss_one (ps_fld (pv 0) pe_dnewT rfl)))), ?_⟩
  refine ⟨_, rfl, _, rfl, x, _, dx, _, rfl, hx, T.cl_Road, T.n_Road_form, (by show 0 < 1000; decide), ?_⟩
  refine ⟨_, rfl, _, rfl, x, _, dx, _, rfl, upd_same, T.cl_Road, T.n_Road_answers, (by show 1 < 1000; decide), ?_⟩
  refine ⟨(by show 0 ≤ sizeLine; decide), fun l hl => ?_⟩
  have lx : l ≠ x := fun z => by rw [z, upd_same] at hl; cases hl
  rw [upd_ne lx, upd_ne lx] at hl
  refine ⟨_, rfl, x, _, dx, _, rfl, by rw [upd_ne lx.symm]; exact upd_same, T.cl_Road, T.n_Road_asked, (by show 2 < 1000; decide), ?_⟩
  refine fun cd hcd => ?_
  have cx : cd ≠ x := fun z => by rw [z, upd_same] at hcd; cases hcd
  rw [upd_ne cx] at hcd
  have cl' : cd ≠ l := fun z => by rw [z, upd_same] at hcd; cases hcd
  rw [upd_ne cl', upd_ne cx, upd_ne cx] at hcd
  refine ⟨_, rfl, x, _, dx, _, rfl, by rw [upd_ne cx.symm]; exact upd_same, T.cl_Road, T.n_Road_counted, (by show 3 < 1000; decide), ?_⟩
  refine q l cd _ hl hcd cl'.symm (fun b o hb ho => ?_) upd_same ?_ ?_
  · rw [upd_ne hb, upd_ne (ne_of_none ho hcd), upd_ne hb, upd_ne (ne_of_none ho hl), upd_ne hb, upd_ne hb]
    exact ho
  · rw [upd_ne lx, upd_ne cl'.symm, upd_ne lx]
    exact upd_same
  · rw [upd_ne cx]
    exact upd_same
theorem sc_Walk : FnScope ["self", "word", "spot", "asked", "counted"] ["self", "word", "spot", "asked", "counted"] (defScope s_Walk_init) := ⟨rfl, rfl, rfl, by decide +kernel, rfl, by decide +kernel, by decide +kernel⟩
theorem ok_Walk (T : Tx K mg) : Ok P w K mg base 1 (He.ma K (He.ga K "Walk") "__init__") ["self", "word", "spot", "asked", "counted"] (spI K "Walk" ["word", "spot", "asked", "counted"]) := by
  obtain ⟨fd, F⟩ := T.f_Walk_init
  refine ⟨fd, F.ok sc_Walk (fun vs H Q E h => ?_) (fun cdv A outer s H vs Q E hr h => ?_), F.bindsN fun _ _ _ _ _ _ us hl => match us, hl with | [_, _, _, _, _], _ => rfl, F.kp⟩
  · obtain ⟨a, dx, ws, rfl, hl, _⟩ := h
    exact congrArg Nat.succ hl
  obtain ⟨a, dx, ws, rfl, hl, ha, q⟩ := h
  obtain ⟨v1, v2, v3, v4, rfl⟩ : ∃ v1 v2 v3 v4, ws = [v1, v2, v3, v4] := match ws, hl with | [v1, v2, v3, v4], _ => ⟨v1, v2, v3, v4, rfl⟩
  refine ⟨_, pss_cons (ps_fld (pv 0) (pv 1) rfl) (pss_cons (ps_fld (pv 0) (pv 2) rfl) (pss_cons (ps_fld (pv 0) (pv 3) rfl) (pss_one (ps_fld (pv 0) (pv 4) rfl)))), ?_⟩
  refine ⟨_, rfl, _, rfl, a, _, dx, _, rfl, ha, T.cl_Walk, T.n_Walk_word, (by show 0 < 1000; decide), ?_⟩
  refine ⟨_, rfl, _, rfl, a, _, dx, _, rfl, upd_same, T.cl_Walk, T.n_Walk_spot, (by show 1 < 1000; decide), ?_⟩
  refine ⟨_, rfl, _, rfl, a, _, dx, _, rfl, upd_same, T.cl_Walk, T.n_Walk_asked, (by show 2 < 1000; decide), ?_⟩
  refine ⟨_, rfl, _, rfl, a, _, dx, _, rfl, upd_same, T.cl_Walk, T.n_Walk_counted, (by show 3 < 1000; decide), ?_⟩
  refine q _ upd_same fun b o hb ho => ?_
  rw [upd_ne hb, upd_ne hb, upd_ne hb, upd_ne hb]
  exact ho
theorem sc_walked : FnScope ["form", "answers", "road", "end", "word", "spot"] ["form", "answers"] (defScope s_walked) := ⟨rfl, rfl, rfl, by decide +kernel, rfl, by decide +kernel, by decide +kernel⟩
theorem ok_walked (T : Tx K mg) {D N : Nat} : Ok P w K mg base (D + 5 + 3 * N + 1) (He.ga K "walked") ["form", "answers"] (spWalked K D N) := by
  obtain ⟨fd, F⟩ := T.f_walked
  have Oend_in_rows := ok_end_in_rows (P := P) (w := w) (base := base) T (D := D) N
  refine ⟨fd, F.ok (k := D + 5 + 3 * N) sc_walked (fun vs H Q E h => ?_) (fun cdv A outer s_ H vs Q E hr h => ?_), F.bindsN fun _ _ _ _ _ _ us hl => match us, hl with | [_, _], _ => rfl, F.kp⟩
  · obtain ⟨_, _, _, _, _, rfl, _⟩ := h
    rfl
  obtain ⟨f, ad, rs, al, kva, rfl, hf, had, hA, dep, cds, wt, few, q⟩ := h
  have rend_in_rows : Room (D + 5 + 3 * N) _ := hr
  refine ⟨_, pss_cons (ps_set (i := 2) sc_walked.nd rfl (Or.inl rfl) (pe_cls T.mk_Road (ok_Road T) (hr.mono (by omega)) T.g_Road (pa_cons (pv 0) (pa_cons (pv 1) pa_nil))))
      (pss_cons (ps_set (i := 3) sc_walked.nd rfl (Or.inl rfl) (pe_f Oend_in_rows rend_in_rows T.g_end_in_rows (pa_cons (pv 2) (pa_cons (pe_fld (pv 0) rfl) (pa_cons pe_int pa_nil)))))
      (pss_cons (ps_if (pt_cmp (pc_isN (pv 3))) (pss_one (ps_ret (pe_cls T.mk_Walk (ok_Walk T) (hr.mono (by omega)) T.g_Walk (pa_cons pe_str (pa_cons pe_non (pa_cons (pe_fld (pv 2) rfl) (pa_cons (pe_fld (pv 2) rfl) pa_nil))))))) pss_nil)
      (pss_cons (ps_asg (pv 3) (pg_tup (by rfl) (pgs_cons (pg_name (i := 4) sc_walked.nd rfl (Or.inl rfl)) (pgs_cons (pg_name (i := 5) sc_walked.nd rfl (Or.inl rfl)) pgs_nil))))
      (pss_one (ps_ret (pe_cls T.mk_Walk (ok_Walk T) (hr.mono (by omega)) T.g_Walk (pa_cons (pv 4) (pa_cons (pv 5) (pa_cons (pe_fld (pv 2) rfl) (pa_cons (pe_fld (pv 2) rfl) pa_nil)))))))))), ?_⟩
  walk_at "go"
  refine w_make ?_
  walk_at "go"
  refine fun x dx hx hdx hne => ⟨x, dx, f, ad, rfl, upd_same, fun l cd H1 hl hcd ncl keep hxi hl1 hcd1 => ⟨rfl, ?_⟩⟩
  have keep0 : ∀ b o, H b = some o → (upd (upd H dx (.own x)) x (.ins (He.ga K "Road") dx [])) b = some o := fun b o h => by
    rw [upd_ne (ne_of_none h hx), upd_ne (ne_of_none h hdx)]; exact h
  have e1 : Same H H1 := fun b o h => keep b o (ne_of_none h hx) (keep0 b o h)
  have free : ∀ b, (upd (upd H dx (.own x)) x (.ins (He.ga K "Road") dx [])) b = none → H b = none := fun b hb => by
    cases g : H b with
    | none => rfl
    | some o => rw [keep0 b o g] at hb; cases hb
  have hl0 := free l hl
  have hcd0 := free cd hcd
  have hR1 : RoadO K H1 x f ad l cd rs al [] [] := ⟨⟨dx, hxi⟩, hf.same e1, ⟨kva, e1 _ _ had, hA.nt (Same.nt e1)⟩, ⟨[], hl1, .nil⟩, ⟨[], hcd1, ⟨.nil, List.nodup_nil⟩⟩⟩
  have nac : ad ≠ cd := fun z => by rw [z, hcd0] at had; cases had
  obtain ⟨_, dxf, t, d, d2, xs, kvs, kv2, hfi, ht, hros, _⟩ := id hf
  walk_at "go"
  refine ⟨f, _, dxf, _, _, rfl, e1 _ _ hfi, T.cl_Form, T.n_Form_rows, rfl, ?_⟩
  walk_at "go"
  refine ⟨x, f, ad, l, cd, t, 0, xs, rs, rs, al, [], [], rfl, e1.sqt ht, ROs.same e1 hros, dep, cds, wt, hR1, nac, ⟨fun s y h => (nomatch h), Nat.le_refl _, few⟩, fun v H2 b2 hv hR2 => ?_⟩
  have e2 : Same H H2 := same_new2 hl0 hcd0 e1 b2
  obtain ⟨⟨dx2, hxi2⟩, _, _, ⟨ps, hl2, hps⟩, ⟨kvc, hcd2, hC⟩⟩ := id hR2
  walk_at "go"
  cases hw : (wRows rs al rs 0 [] []).1 with
  | none =>
    rw [hw] at hv
    have hv : v = .non := hv
    subst hv
    show if decide (V.non = V.non) = true then _ else _
    rw [decide_eq_true rfl]
    walk_at "go"
    refine w_make ?_
    walk_at "go"
    refine ⟨x, _, dx2, _, _, rfl, hxi2, T.cl_Road, T.n_Road_asked, rfl, ?_⟩
    walk_at "go"
    refine ⟨x, _, dx2, _, _, rfl, hxi2, T.cl_Road, T.n_Road_counted, rfl, ?_⟩
    walk_at "go"
    refine mkIK (fs := ["word", "spot", "asked", "counted"]) (ws := [.str "done", .non, .ref l, .ref cd]) rfl fun a H3 ha e3 hi => ?_
    obtain ⟨dx3, hi⟩ := hi
    exact q a H3 (e2.trans e3) ⟨dx3, l, cd, "done", .non, ps, kvc, hi, by rw [hw]; exact ⟨rfl, rfl⟩, e3 _ _ hl2, L2.Paired.mapP hps fun _ _ z => e3 _ _ z, e3 _ _ hcd2, hC.nt (Same.nt e3)⟩
  | some e =>
    rw [hw] at hv
    obtain ⟨te, pe, rfl, hte, hpe⟩ := hv
    show if decide (V.ref te = V.non) = true then _ else _
    rw [decide_eq_false fun z => nomatch z]
    walk_at "go"
    refine w_gtup (SqT.of hte) rfl (w_gn2 ?_)
    dsimp only
    walk_at "go"
    refine w_make ?_
    walk_at "go"
    refine ⟨x, _, dx2, _, _, rfl, hxi2, T.cl_Road, T.n_Road_asked, rfl, ?_⟩
    walk_at "go"
    refine ⟨x, _, dx2, _, _, rfl, hxi2, T.cl_Road, T.n_Road_counted, rfl, ?_⟩
    walk_at "go"
    refine mkIK (fs := ["word", "spot", "asked", "counted"]) (ws := [.str e.1, .ref pe, .ref l, .ref cd]) rfl fun a H3 ha e3 hi => ?_
    obtain ⟨dx3, hi⟩ := hi
    exact q a H3 (e2.trans e3) ⟨dx3, l, cd, e.1, .ref pe, ps, kvc, hi, by rw [hw]; exact ⟨rfl, pe, rfl, e3 _ _ hpe⟩, e3 _ _ hl2, L2.Paired.mapP hps fun _ _ z => e3 _ _ z, e3 _ _ hcd2, hC.nt (Same.nt e3)⟩
end
end K3
end U4_part
section U5_part
set_option Elab.async false
set_option linter.all false
set_option maxRecDepth 100000
set_option maxHeartbeats 1000000
set_option pp.deepTerms true
open PySem PySem.Spec PyProof.Rows L2
/-- go on as far as nothing is open -/
local macro_rules | `(tactic| walk_at "go") => `(tactic| repeat (first
  | with_reducible refine w_seq ?_ | with_reducible refine w_next ?_ | with_reducible refine w_set ?_ | with_reducible refine w_drop ?_ | with_reducible refine w_ret ?_ | with_reducible refine w_retN ?_
  | with_reducible refine w_if ?_ | ((with_reducible refine' w_var ?hv ?_); (case hv => exact rfl)) | with_reducible refine w_c ?_ | with_reducible refine w_nil ?_ | with_reducible refine w_cons ?_ | with_reducible refine w_op ?_ | with_reducible refine w_un ?_
  | with_reducible refine w_test ?_ | with_reducible refine w_tB ?_ | with_reducible refine w_not ?_ | with_reducible refine w_and ?_ | with_reducible refine w_or ?_ | with_reducible refine w_bl ?_
  | with_reducible refine w_andV ?_ | with_reducible refine w_orV ?_ | with_reducible refine w_notV ?_ | with_reducible refine w_ifE ?_ | with_reducible refine w_chain ?_ | with_reducible refine w_i0 ?_
  | with_reducible refine w_call ?_ | with_reducible refine w_callS ?_ | with_reducible refine w_cB ?_ | with_reducible refine w_tup ?_ | with_reducible refine w_lst ?_ | with_reducible refine w_fldV ?_
  | with_reducible refine w_neF ?_ | with_reducible refine w_neT ?_ | with_reducible refine w_notN ?_ | with_reducible refine w_isN ?_ | with_reducible refine w_gname ?_ | with_reducible refine w_gsub ?_ | with_reducible refine w_asg ?_ | with_reducible refine w_sl ?_ | with_reducible refine w_noP ?_ | with_reducible refine w_int1 ?_ | with_reducible refine w_part ?_ | with_reducible refine w_meth ?_ | with_reducible refine w_din ?_ | with_reducible refine w_dnotin ?_ | with_reducible refine w_dgt ?_ | with_reducible refine w_dget1 ?_ | with_reducible refine w_dget2 ?_ | with_reducible refine w_dput ?_ | with_reducible refine w_yes ?_ | with_reducible refine w_nT ?_ | with_reducible refine w_nF ?_ | with_reducible refine w_iteT ?_ | with_reducible refine w_iteF ?_))
namespace K3
/-! ### a form that stands may be walked -/
theorem ck_at : ∀ {F : List (Rw × Option Nat)} {L : AL}, ckRows L F = none → ∀ {i : Nat} {e : Rw × Option Nat}, F[i]? = some e → ckRow (L ++ alOf (F.take i)) e.1 e.2 = none
  | [], _, _, i, e, h => by simp at h
  | (r, ar) :: F, L, hc, i, e, h => by
    obtain ⟨h1, h2⟩ := thenF_inv (show thenF (ckRow L r ar) (ckRows (if r.isN then L ++ [(r.name, r, ar)] else L) F) = none from hc)
    cases i with
    | zero =>
      have e1 : (r, ar) = e := by simpa using h
      subst e1
      show ckRow (L ++ []) r ar = none
      rw [List.append_nil]
      exact h1
    | succ i =>
      have ih := ck_at h2 (i := i) (e := e) (by simpa using h)
      show ckRow (L ++ alOf ((r, ar) :: F.take i)) e.1 e.2 = none
      unfold alOf
      cases hr : r.isN with
      | true =>
        rw [hr, if_pos rfl] at ih
        rw [List.filterMap_cons]
        simp only [hr, if_true]
        rw [List.append_assoc] at ih
        exact ih
      | false =>
        rw [hr] at ih
        rw [List.filterMap_cons]
        simp only [hr]
        exact ih
theorem isQ_N {r : Rw} (h : r.isQ = true) : r.isN = true := by cases r <;> first | rfl | cases h
theorem al_mem {F : List (Rw × Option Nat)} {z : Str} {q : Rw} {a : Option Nat} (h : look (alOf F) z = some (q, a)) : (q, a) ∈ F ∧ q.isN = true ∧ q.name = z := by
  unfold look at h
  cases hf : (alOf F).find? fun e => decide (e.1 = z) with
  | none => rw [hf] at h; cases h
  | some x =>
    rw [hf] at h
    have hx : x.2 = (q, a) := Option.some.inj h
    have h1 : x.1 = z := of_decide_eq_true (List.find?_some (p := fun e : Str × Rw × Option Nat => decide (e.1 = z)) hf)
    have h2 := List.mem_of_find?_eq_some hf
    obtain ⟨e, he, h3⟩ := List.mem_filterMap.mp h2
    cases hn : e.1.isN with
    | false => rw [hn] at h3; cases h3
    | true =>
      rw [hn, if_pos rfl] at h3
      have h3 := Option.some.inj h3
      have e1 : x.1 = e.1.name := by rw [← h3]
      have e2 : x.2 = (e.1, e.2) := by rw [← h3]
      rw [e2] at hx
      have e3 : e = (q, a) := hx
      subst e3
      exact ⟨he, hn, e1.symm.trans h1⟩
theorem al_has {F : List (Rw × Option Nat)} {e : Rw × Option Nat} (he : e ∈ F) (hn : e.1.isN = true) : (e.1.name, e.1, e.2) ∈ alOf F := List.mem_filterMap.mpr ⟨e, he, by rw [hn, if_pos rfl]⟩
theorem form_ck {rs : List Rw} (h : formF rs = none) : ckRows [] (Rws.flat rs none 0) = none := by
  unfold formF at h
  split at h
  · exact h
  · cases h
/-- a question stands by its name -/
theorem formQ_self {rs : List Rw} (h : formF rs = none) {r : Rw} {ar : Option Nat} (hr : (r, ar) ∈ Rws.flat rs none 0) (hq : r.isQ = true) : formQ rs r.name = some r := by
  have ck := form_ck h
  unfold formQ
  have hin : r ∈ qsOf (Rws.flat rs none 0) := List.mem_filterMap.mpr ⟨(r, ar), hr, by show (if r.isQ = true then some r else none) = some r; rw [hq, if_pos rfl]⟩
  cases hf : (qsOf (Rws.flat rs none 0)).find? fun x => decide (x.name = r.name) with
  | none =>
    have := List.find?_eq_none.mp hf r hin
    simp at this
  | some x =>
    have h1 : x.name = r.name := of_decide_eq_true (List.find?_some (p := fun x : Rw => decide (x.name = r.name)) hf)
    obtain ⟨e, he, h3⟩ := List.mem_filterMap.mp (List.mem_of_find?_eq_some hf)
    have hx : e.1 = x ∧ e.1.isQ = true := by
      cases hn : e.1.isQ with
      | false => rw [hn] at h3; cases h3
      | true => rw [hn, if_pos rfl] at h3; exact ⟨Option.some.inj h3, rfl⟩
    obtain ⟨i, hi⟩ := List.mem_iff_getElem?.mp hr
    obtain ⟨j, hj⟩ := List.mem_iff_getElem?.mp he
    have no : ∀ {a b : Nat} {u v : Rw × Option Nat}, (Rws.flat rs none 0)[a]? = some u → (Rws.flat rs none 0)[b]? = some v → u.1.isN = true → v.1.isN = true → u.1.name = v.1.name → a < b → False := by
      intro a b u v ha hb nu nv en lt
      have d := ck_drop ck hb nv
      rw [List.nil_append] at d
      have um : u ∈ (Rws.flat rs none 0).take b := List.mem_iff_getElem?.mpr ⟨a, by rw [List.getElem?_take, if_pos lt]; exact ha⟩
      exact look_all d _ (al_has um nu) en
    rcases Nat.lt_trichotomy i j with z | z | z
    · exact (no hi hj (isQ_N hq) (isQ_N hx.2) (by rw [hx.1, h1]) z).elim
    · rw [z, hj] at hi
      have := Option.some.inj hi
      rw [← hx.1, this]
    · exact (no hj hi (isQ_N hx.2) (isQ_N hq) (by rw [hx.1, h1]) z).elim
theorem quest_q {rs : List Rw} (h : formF rs = none) {i : Nat} {z : Str} {ar : Option Nat} {q : Rw} (hq : quest ([] ++ alOf ((Rws.flat rs none 0).take i)) z ar = .inr q) : formQ rs z = some q := by
  rw [List.nil_append] at hq
  unfold quest at hq
  cases hl : look (alOf ((Rws.flat rs none 0).take i)) z with
  | none => rw [hl] at hq; cases hq
  | some p =>
    obtain ⟨q', a⟩ := p
    rw [hl] at hq
    obtain ⟨h1, h2, h3⟩ := al_mem hl
    have hq : (if q'.isQ = true then (if a ≠ none ∧ a ≠ ar then Sum.inl (Flt.quest z) else Sum.inr q') else Sum.inl (Flt.quest z)) = Sum.inr q := hq
    split at hq
    · rename_i hiq
      split at hq
      · cases hq
      · cases hq
        rw [← h3]
        exact formQ_self h (List.mem_of_mem_take h1) hiq
    · cases hq
theorem wtc_of {rs : List Rw} : ∀ {c : Cd}, (∀ s ∈ c.simp, WTc rs s) → WTc rs c
  | .no c, h => wtc_of (c := c) h
  | .both c d, h => ⟨wtc_of (c := c) fun s hs => h s (List.mem_append_left _ hs), wtc_of (c := d) fun s hs => h s (List.mem_append_right _ hs)⟩
  | .either c d, h => ⟨wtc_of (c := c) fun s hs => h s (List.mem_append_left _ hs), wtc_of (c := d) fun s hs => h s (List.mem_append_right _ hs)⟩
  | .is n o, h => h _ (List.mem_singleton.mpr rfl)
  | .has n o, h => h _ (List.mem_singleton.mpr rfl)
  | .over n i, h => h _ (List.mem_singleton.mpr rfl)
  | .under n i, h => h _ (List.mem_singleton.mpr rfl)
theorem simp_s : ∀ {c s : Cd}, s ∈ c.simp → (∀ d, s ≠ .no d) ∧ (∀ d e, s ≠ .both d e) ∧ ∀ d e, s ≠ .either d e
  | .no c, s, h => simp_s (c := c) h
  | .both c d, s, h => (List.mem_append.mp h).elim (simp_s (c := c)) (simp_s (c := d))
  | .either c d, s, h => (List.mem_append.mp h).elim (simp_s (c := c)) (simp_s (c := d))
  | .is n o, s, h => by rw [List.mem_singleton.mp h]; exact ⟨fun _ z => (nomatch z), fun _ _ z => (nomatch z), fun _ _ z => nomatch z⟩
  | .has n o, s, h => by rw [List.mem_singleton.mp h]; exact ⟨fun _ z => (nomatch z), fun _ _ z => (nomatch z), fun _ _ z => nomatch z⟩
  | .over n i, s, h => by rw [List.mem_singleton.mp h]; exact ⟨fun _ z => (nomatch z), fun _ _ z => (nomatch z), fun _ _ z => nomatch z⟩
  | .under n i, s, h => by rw [List.mem_singleton.mp h]; exact ⟨fun _ z => (nomatch z), fun _ _ z => (nomatch z), fun _ _ z => nomatch z⟩
theorem conds_at {L : AL} {ar : Option Nat} : ∀ {cs : List Cd}, ckConds L ar cs = none → ∀ c ∈ cs, ckCond L ar c = none
  | [], _, c, h => by cases h
  | d :: r, h, c, hc => by
    obtain ⟨h1, h2⟩ := thenF_inv (show thenF (ckCond L ar d) (ckConds L ar r) = none from h)
    rcases List.mem_cons.mp hc with rfl | hc
    · exact h1
    · exact conds_at h2 c hc
theorem simp_wt {rs : List Rw} (h : formF rs = none) {i : Nat} {ar : Option Nat} {c : Cd} (hc : ckCond ([] ++ alOf ((Rws.flat rs none 0).take i)) ar c = none) (hs : (∀ d, c ≠ .no d) ∧ (∀ d e, c ≠ .both d e) ∧ ∀ d e, c ≠ .either d e) : WTc rs c := by
  unfold ckCond at hc
  cases hq : quest ([] ++ alOf ((Rws.flat rs none 0).take i)) c.name ar with
  | inl f => rw [hq] at hc; cases hc
  | inr q =>
    rw [hq] at hc
    have fq := quest_q h hq
    have su : suitsB c q = true := by
      cases z : suitsB c q with
      | true => rfl
      | false =>
        have hc : (if suitsB c q = true then none else some (Flt.fit q.name)) = none := hc
        rw [z] at hc; cases hc
    cases c with
    | no d => exact absurd rfl (hs.1 d)
    | both d e => exact absurd rfl (hs.2.1 d e)
    | either d e => exact absurd rfl (hs.2.2 d e)
    | is n o =>
      intro r hr
      have := fq.symm.trans hr
      cases this
      cases q <;> first | exact ⟨_, _, _, rfl⟩ | cases su
    | has n o =>
      intro r hr
      have := fq.symm.trans hr
      cases this
      cases q <;> first | exact ⟨_, _, _, rfl⟩ | cases su
    | over n o =>
      intro r hr
      have := fq.symm.trans hr
      cases this
      cases q <;> first | exact ⟨_, _, _, _, rfl⟩ | cases su
    | under n o =>
      intro r hr
      have := fq.symm.trans hr
      cases this
      cases q <;> first | exact ⟨_, _, _, _, rfl⟩ | cases su
/-- what stands of each row that is laid out -/
structure RowWT (rs : List Rw) (r : Rw) : Prop where
  q : r.isQ = true → formQ rs r.name = some r
  c : ∀ s ∈ r.conds, WTc rs s
  n : ∀ z us w, r = .rounds z us w → ∀ q, formQ rs z = some q → ∃ m lo hi w', q = .number m lo hi w' ∧ 0 ≤ lo ∧ hi ≤ 4
theorem row_wt {rs : List Rw} (h : formF rs = none) {e : Rw × Option Nat} (he : e ∈ Rws.flat rs none 0) : RowWT rs e.1 := by
  obtain ⟨i, hi⟩ := List.mem_iff_getElem?.mp he
  have ck := ck_at (form_ck h) hi
  unfold ckRow at ck
  obtain ⟨_, ck⟩ := thenF_inv ck
  obtain ⟨_, ck⟩ := thenF_inv ck
  obtain ⟨_, ck⟩ := thenF_inv ck
  obtain ⟨_, ck⟩ := thenF_inv ck
  obtain ⟨cc, ck⟩ := thenF_inv ck
  refine ⟨fun hq => formQ_self h (r := e.1) (ar := e.2) he hq, fun s hs => ?_, fun z us w hz q hq => ?_⟩
  · refine simp_wt h (conds_at ck s hs) ?_
    unfold Rw.conds at hs
    rcases List.mem_append.mp hs with hs | hs
    · cases hw : e.1.wh with
      | none => rw [hw] at hs; cases hs
      | some c => rw [hw] at hs; exact simp_s (c := c) hs
    · cases hm : e.1 with
      | check n m w => rw [hm] at hs; exact simp_s (c := m) hs
      | _ => rw [hm] at hs; cases hs
  · rw [hz] at cc
    have cc : (match quest ([] ++ alOf ((Rws.flat rs none 0).take i)) z e.2 with
      | .inl f => some f
      | .inr q => fitN q) = none := cc
    cases hqq : quest ([] ++ alOf ((Rws.flat rs none 0).take i)) z e.2 with
    | inl f => rw [hqq] at cc; cases cc
    | inr q' =>
      rw [hqq] at cc
      have := (quest_q h hqq).symm.trans hq
      cases this
      cases q with
      | number m lo hi w' =>
        have cc : (if lo < 0 then some (Flt.fit m) else if 4 < hi then some (Flt.fit m) else none) = none := cc
        split at cc
        · cases cc
        · split at cc
          · cases cc
          · exact ⟨m, lo, hi, w', rfl, by omega, by omega⟩
      | _ => cases cc
theorem wtw_of {rs : List Rw} {r : Rw} (h : RowWT rs r) : WTw rs r.wh := fun c hc => wtc_of fun s hs => h.c s (List.mem_append_left _ (by rw [hc]; exact hs))
mutual
theorem wtr_of {rs : List Rw} : ∀ (r : Rw) (ar : Option Nat) (n : Nat), (∀ e ∈ r.flat ar n, RowWT rs e.1) → WTr rs r
  | .one n os w, ar, k, h => by unfold Rw.flat at h; unfold WTr; have := h _ (List.mem_singleton.mpr rfl); exact ⟨wtw_of this, this.q rfl⟩
  | .some n os w, ar, k, h => by unfold Rw.flat at h; unfold WTr; have := h _ (List.mem_singleton.mpr rfl); exact ⟨wtw_of this, this.q rfl⟩
  | .number n lo hi w, ar, k, h => by unfold Rw.flat at h; unfold WTr; have := h _ (List.mem_singleton.mpr rfl); exact ⟨wtw_of this, this.q rfl⟩
  | .check n m w, ar, k, h => by unfold Rw.flat at h; unfold WTr; have := h _ (List.mem_singleton.mpr rfl); exact ⟨wtw_of this, wtc_of fun s hs => this.c s (List.mem_append_right _ hs)⟩
  | .sect us w, ar, k, h => by unfold Rw.flat at h; unfold WTr; exact ⟨wtw_of (h _ (List.mem_cons_self ..)), wts_of us ar (k + 1) fun e he => h e (List.mem_cons_of_mem _ he)⟩
  | .rounds n us w, ar, k, h => by unfold Rw.flat at h; unfold WTr; have := h _ (List.mem_cons_self ..); exact ⟨wtw_of this, wts_of us (some k) (k + 1) (fun e he => h e (List.mem_cons_of_mem _ he)), this.n _ _ _ rfl⟩
theorem wts_of {rs : List Rw} : ∀ (us : List Rw) (ar : Option Nat) (n : Nat), (∀ e ∈ Rws.flat us ar n, RowWT rs e.1) → WTs rs us
  | [], ar, n, h => by unfold WTs; trivial
  | r :: us, ar, n, h => by unfold Rws.flat at h; unfold WTs; exact ⟨wtr_of r ar n fun e he => h e (List.mem_append_left _ he), wts_of us ar (n + r.cnt) fun e he => h e (List.mem_append_right _ he)⟩
end
theorem wt_form {rs : List Rw} (h : formF rs = none) : WTs rs rs := wts_of rs none 0 fun _ he => row_wt h he
end K3
end U5_part
section U6_part
set_option Elab.async false
set_option linter.all false
set_option maxRecDepth 100000
set_option maxHeartbeats 1000000
set_option pp.deepTerms true
open PySem PySem.Spec PyProof.Rows L2
/-- go on as far as nothing is open -/
local macro_rules | `(tactic| walk_at "go") => `(tactic| repeat (first
  | with_reducible refine w_seq ?_ | with_reducible refine w_next ?_ | with_reducible refine w_set ?_ | with_reducible refine w_drop ?_ | with_reducible refine w_ret ?_ | with_reducible refine w_retN ?_
  | with_reducible refine w_if ?_ | ((with_reducible refine' w_var ?hv ?_); (case hv => exact rfl)) | with_reducible refine w_c ?_ | with_reducible refine w_nil ?_ | with_reducible refine w_cons ?_ | with_reducible refine w_op ?_ | with_reducible refine w_un ?_
  | with_reducible refine w_test ?_ | with_reducible refine w_tB ?_ | with_reducible refine w_not ?_ | with_reducible refine w_and ?_ | with_reducible refine w_or ?_ | with_reducible refine w_bl ?_
  | with_reducible refine w_andV ?_ | with_reducible refine w_orV ?_ | with_reducible refine w_notV ?_ | with_reducible refine w_ifE ?_ | with_reducible refine w_chain ?_ | with_reducible refine w_i0 ?_
  | with_reducible refine w_call ?_ | with_reducible refine w_callS ?_ | with_reducible refine w_cB ?_ | with_reducible refine w_tup ?_ | with_reducible refine w_lst ?_ | with_reducible refine w_fldV ?_
  | with_reducible refine w_neF ?_ | with_reducible refine w_neT ?_ | with_reducible refine w_notN ?_ | with_reducible refine w_isN ?_ | with_reducible refine w_gname ?_ | with_reducible refine w_gsub ?_ | with_reducible refine w_asg ?_ | with_reducible refine w_sl ?_ | with_reducible refine w_noP ?_ | with_reducible refine w_int1 ?_ | with_reducible refine w_part ?_ | with_reducible refine w_meth ?_ | with_reducible refine w_din ?_ | with_reducible refine w_dnotin ?_ | with_reducible refine w_dgt ?_ | with_reducible refine w_dget1 ?_ | with_reducible refine w_dget2 ?_ | with_reducible refine w_dput ?_ | with_reducible refine w_yes ?_ | with_reducible refine w_nT ?_ | with_reducible refine w_nF ?_ | with_reducible refine w_iteT ?_ | with_reducible refine w_iteF ?_))
namespace K3
/-! ### how much is asked on a walk -/
mutual
def Rw.cost : Rw → Nat
  | .sect us _ => Rws.cost us
  | .rounds _ us _ => 4 * Rws.cost us
  | .check _ _ _ => 0
  | .one _ _ _ => 1
  | .some _ _ _ => 1
  | .number _ _ _ _ => 1
def Rws.cost : List Rw → Nat
  | [] => 0
  | r :: us => r.cost + Rws.cost us
end
theorem q_len {al cl : Ans} {r : Rw} {k : Int} {sp : List Spot} : (wQ al r k sp cl).2.1.length = sp.length + 1 := by
  unfold wQ
  split <;> simp
theorem iter_len {rs : List Rw} {f : Int → List Spot → Ans → Rs} {c : Nat} (st : ∀ k sp cl, Step rs sp cl (f k sp cl)) (h : ∀ k sp cl, GoodCl rs cl → (f k sp cl).2.1.length ≤ sp.length + c) : ∀ (n : Nat) (k : Int) (sp : List Spot) (cl : Ans), GoodCl rs cl → (iterW f n k sp cl).2.1.length ≤ sp.length + n * c
  | 0, k, sp, cl, g => by unfold iterW; simp
  | n + 1, k, sp, cl, g => by
    have a := h k sp cl g
    have b := (st k sp cl).good g
    rw [Nat.succ_mul]
    cases he : (f k sp cl).1 with
    | some e => rw [iter_some he]; exact Nat.le_trans a (by omega)
    | none =>
      rw [iter_none he]
      have := iter_len st h n (k + 1) (f k sp cl).2.1 (f k sp cl).2.2 b
      omega
theorem times_le {rs : List Rw} {cl : Ans} {n : Str} (g : GoodCl rs cl) (wn : ∀ r, formQ rs n = some r → ∃ m lo hi w', r = .number m lo hi w' ∧ 0 ≤ lo ∧ hi ≤ 4) : timesF cl n ≤ 4 := by
  unfold timesF
  cases hl : lookA cl (n, 0) with
  | none => exact Nat.zero_le _
  | some x =>
    obtain ⟨r, h1, h2⟩ := g _ x hl
    obtain ⟨m, lo, hi, w', rfl, h3, h4⟩ := wn r h1
    cases x with
    | int i =>
      have h2 : (decide (lo ≤ i) && decide (i ≤ hi)) = true := h2
      rw [Bool.and_eq_true, decide_eq_true_eq, decide_eq_true_eq] at h2
      show i.toNat ≤ 4
      omega
    | _ => exact Nat.zero_le _
mutual
theorem row_len {rs : List Rw} {al : Ans} : ∀ {r : Rw}, WTr rs r → ∀ (k : Int) (sp : List Spot) (cl : Ans), GoodCl rs cl → (wRow rs al r k sp cl).2.1.length ≤ sp.length + r.cost
  | .one n os w, h, k, sp, cl, g => by unfold wRow Rw.cost; rw [q_len]; exact Nat.le_refl _
  | .some n os w, h, k, sp, cl, g => by unfold wRow Rw.cost; rw [q_len]; exact Nat.le_refl _
  | .number n lo hi w, h, k, sp, cl, g => by unfold wRow Rw.cost; rw [q_len]; exact Nat.le_refl _
  | .check n m w, h, k, sp, cl, g => by unfold wRow; exact Nat.le_add_right _ _
  | .sect us w, h, k, sp, cl, g => by unfold wRow Rw.cost; unfold WTr at h; exact rows_len h.2 k sp cl g
  | .rounds n us w, h, k, sp, cl, g => by
    unfold wRow Rw.cost
    unfold WTr at h
    have a := iter_len (f := fun k sp cl => wRows rs al us k sp cl) (fun k sp cl => step_rows h.2.1 k sp cl) (fun k sp cl g => rows_len h.2.1 k sp cl g) (timesF cl n) 1 sp cl g
    have b := Nat.mul_le_mul_right (Rws.cost us) (times_le g h.2.2)
    omega
theorem rows_len {rs : List Rw} {al : Ans} : ∀ {us : List Rw}, WTs rs us → ∀ (k : Int) (sp : List Spot) (cl : Ans), GoodCl rs cl → (wRows rs al us k sp cl).2.1.length ≤ sp.length + Rws.cost us
  | [], h, k, sp, cl, g => by unfold wRows; exact Nat.le_add_right _ _
  | r :: us, h, k, sp, cl, g => by
    unfold WTs at h
    unfold Rws.cost
    have a := row_len (al := al) h.1 k sp cl g
    have b := (step_row (al := al) h.1 k sp cl).good g
    cases hw : whF rs cl k r.wh with
    | false =>
      rw [rows_skip hw]
      have := rows_len (al := al) h.2 k sp cl g
      omega
    | true =>
      cases he : (wRow rs al r k sp cl).1 with
      | some e => rw [rows_some hw he]; omega
      | none =>
        rw [rows_none hw he]
        have := rows_len (al := al) h.2 k (wRow rs al r k sp cl).2.1 (wRow rs al r k sp cl).2.2 b
        omega
end
theorem good_nil {rs : List Rw} : GoodCl rs [] := fun _ _ h => nomatch h
end K3
end U6_part
section B41_part
set_option Elab.async false
set_option linter.all false
set_option maxRecDepth 100000
set_option maxHeartbeats 1000000
set_option pp.deepTerms true
open PySem PySem.Spec PyProof.Rows L2
/-- go on as far as nothing is open -/
local macro_rules | `(tactic| walk_at "go") => `(tactic| repeat (first
  | with_reducible refine w_seq ?_ | with_reducible refine w_next ?_ | with_reducible refine w_set ?_ | with_reducible refine w_drop ?_ | with_reducible refine w_ret ?_ | with_reducible refine w_retN ?_
  | with_reducible refine w_if ?_ | ((with_reducible refine' w_var ?hv ?_); (case hv => exact rfl)) | with_reducible refine w_c ?_ | with_reducible refine w_nil ?_ | with_reducible refine w_cons ?_ | with_reducible refine w_op ?_ | with_reducible refine w_un ?_
  | with_reducible refine w_test ?_ | with_reducible refine w_tB ?_ | with_reducible refine w_not ?_ | with_reducible refine w_and ?_ | with_reducible refine w_or ?_ | with_reducible refine w_bl ?_
  | with_reducible refine w_andV ?_ | with_reducible refine w_orV ?_ | with_reducible refine w_notV ?_ | with_reducible refine w_ifE ?_ | with_reducible refine w_chain ?_ | with_reducible refine w_i0 ?_
  | with_reducible refine w_call ?_ | with_reducible refine w_callS ?_ | with_reducible refine w_cB ?_ | with_reducible refine w_tup ?_ | with_reducible refine w_lst ?_ | with_reducible refine w_fldV ?_
  | with_reducible refine w_neF ?_ | with_reducible refine w_neT ?_ | with_reducible refine w_notN ?_ | with_reducible refine w_isN ?_ | with_reducible refine w_gname ?_ | with_reducible refine w_gsub ?_ | with_reducible refine w_asg ?_ | with_reducible refine w_sl ?_ | with_reducible refine w_noP ?_ | with_reducible refine w_int1 ?_ | with_reducible refine w_part ?_ | with_reducible refine w_yes ?_ | with_reducible refine w_nT ?_ | with_reducible refine w_nF ?_ | with_reducible refine w_iteT ?_ | with_reducible refine w_iteF ?_))
namespace LamP
open PySem PySem.Spec PyProof.Rows L2 LamX NdefX
/-! ### a lambda with a parameter, handed on and called by whoever got it: no object of the heap tells it, the frames keep it -/
/-- at f lies the lambda of the words F, body; its captured cells hold ws -/
structure LamAt (h : Heap) (H : Hp) (f : Addr) (F : NF) (body : Expr) (fr : List Str) (ws : List (Option V)) : Prop where
  obj : ∃ pm ctv, h.get? f = some (PySem.W.kla_obj "<lambda>" F.qual F.params body F.scope F.cl pm F.c ctv)
  nf : H f = none
  cells : CellsAt F.cl fr ws h H
section
variable {X : Cx} {pins : List (Addr × Obj)} {σ : L2.St} {H : Hp} {s : Shared} {f : Addr} {F : NF} {body : Expr} {fr : List Str} {ws : List (Option V)}
theorem LamAt.later (L : LamAt X.s_0.heap X.H_0 f F body fr ws) (off : f ∉ X.fs) (nex : ∀ b, b ∉ X.ex) (I : Inv X pins σ H s) : LamAt s.heap H f F body fr ws := by
  obtain ⟨⟨pm, ctv, ho⟩, nf, C⟩ := L
  have kp : ∀ y c, F.cl.lookup y = some c → ∀ v, X.s_0.heap.IsCell c v → s.heap.IsCell c v := fun y c e v ⟨o, ho, hd⟩ => by
    obtain ⟨sl, q⟩ := I.base.any ho (C.all y c e).1 (nex c)
    exact ⟨_, q, hd⟩
  refine ⟨⟨pm, ctv, I.base.keep f _ ho nf off (nex f)⟩, I.base.free f _ ho nf (nex f), C.len, fun y c e => ?_, C.inj, fun i y e => ?_⟩
  · obtain ⟨n, v, z⟩ := C.all y c e
    refine ⟨?_, v, kp y c e v z⟩
    obtain ⟨o, ho, _⟩ := z
    exact I.base.free c o ho n (nex c)
  · obtain ⟨c, hc, hv⟩ := C.has i y e
    refine ⟨c, hc, fun v ev => ?_⟩
    obtain ⟨u, r, z⟩ := hv v ev
    exact ⟨u, r, kp y c hc _ z⟩
/-- it lies among what was there at the entry: no frame of those that run since -/
theorem LamAt.off {A : List Env} {e : Env} (L : LamAt s.heap H f F body fr ws) (hf : e.frame = some s.heap.objs.size) (off : f ∉ frs A) : f ∉ frs (e :: A) := fun z => by
  obtain ⟨⟨pm, ctv, ho⟩, _, _⟩ := L
  have z : f ∈ (e :: A).filterMap (·.frame) := z
  rw [List.filterMap_cons, hf] at z
  rcases List.mem_cons.mp z with z | z
  · have := Heap.lt_size ho
    rw [z] at this
    exact Nat.lt_irrefl _ this
  · exact off z
end
/-- what a call of a lambda of these words promises, wherever it lies -/
def LkOk (P : Program) (w : World) (K : PySem.W.Frag) (mg : Str → Option Value) (base : Heap) (k : Nat) (F : NF) (body : Expr) (fr : List Str) (lsp : List (Option V) → Sp) : Prop :=
  ∀ (A : Around) (outer : List Env) (s : Shared) (H : Hp) (f : Addr) (u : Value) (v : V) (ws : List (Option V)) (Q : VK), Room k A → Env0 P w K mg base A outer s H → LamAt s.heap H f F body fr ws → H F.c = some (CodeO F.c F.qual) → RelV v u → lsp ws [v] H Q C8.E0 →
    codeAny (model P w) A (.call (.ref f) ⟨[u], []⟩) (CR C8.CX0 outer P w H s Q C8.E0) s
section
variable {P : Program} {w : World} {K : PySem.W.Frag} {mg : Str → Option Value} {base : Heap} {N fr : List Str} {p : Str} {F : NF} {body : Expr} {k : Nat} {lsp : List (Option V) → Sp}
/-- THE RULE: by its body -/
theorem lkok_of (S : NScope N [p] fr F.scope) (bd : ∀ (pm ctv u : Value), bindArgs (PySem.W.kla_fn "<lambda>" F.qual F.params body F.scope F.cl pm (.ref F.c) ctv) ⟨[u], []⟩ = pure [(p, u)])
    (hb : ∀ (A : Around) (outer : List Env) (s : Shared) (H : Hp) (f : Addr) (v : V) (ws : List (Option V)) (Q : VK), Room k (A.deeper (envF F f s.heap.objs.size)) → H F.c = some (CodeO F.c F.qual) → lsp ws [v] H Q C8.E0 → ∃ t, PE (ncx C8.CX0 P w K mg base N F f A outer s H C8.E0) body t ∧ t (startF N [v] ws) H Q) :
    LkOk P w K mg base (k + 1) F body fr lsp := by
  intro A outer s H f u v ws Q hr e0 L hc r q
  obtain ⟨⟨pm, ctv, ho⟩, nf, C⟩ := L
  have lim : s.heap.NoLimit := e0.mod.nolimit.keeps fun b o e => (e0.bs b o e).1
  refine PySem.W.kla_callFunE hr.depth ho rfl S.co S.gen rfl (codeO_at e0.hok hc) ?_
  rw [bd]
  refine wpAny_pure (wpAny_newFunctionEnv S.nocell (fun ⟨n, _⟩ hy => ?_) (fun h₁ hns hsb => ⟨lim.fresh _ hsb, ?_⟩) S.kind)
  · obtain ⟨rfl, _⟩ := Prod.mk.inj (List.mem_singleton.mp hy)
    exact S.par _ (List.mem_singleton.mpr rfl)
  show codeAny _ _ (.expr body (envF F f s.heap.objs.size)) _ _
  have kp : ∀ b o, s.heap.get? b = some o → h₁.get? b = some o := fun b o e => hsb.extBut b o (Nat.ne_of_lt (Heap.lt_size e)) (Heap.get?_push_of_some _ e)
  obtain ⟨t, ht, hq⟩ := hb A outer s H f v ws Q (hr.deeper _) hc q
  have I : Inv (ncx C8.CX0 P w K mg base N F f A outer s H C8.E0) [] (startF N [v] ws) H { s with heap := h₁, toks := s.toks + ([(p, u)] : List (Str × Value)).length } := inv_startN (us := [u]) (vs := [v]) S hr.hd e0 rfl (.cons r .nil) C hns kp
  refine PySem.W.kla_codeExpr (wpAny_mono (ht.run [] _ (startF N [v] ws) H Q I hq) (fun v' s' hq => ?_) fun e s' hq => hq)
  obtain ⟨w', G', J', rv, q⟩ := hq
  exact ⟨w', G', J'.os, J'.bare, J'.base, J'.hok, rv, q⟩
end
section
variable {X : Cx} {i k : Nat} {x : Str} {f : Addr} {F : NF} {body : Expr} {fr : List Str} {ws : List (Option V)} {lsp : List (Option V) → Sp} {e : Expr} {ta : TE} {p pos : Pos}
theorem call_after {pins : List (Addr × Obj)} {σ : L2.St} {H : Hp} {s : Shared} {Q : VK} {g : Addr} {us : List Value} (I : Inv X pins σ H s) (h : codeAny (model X.prog X.w) X.A (.call (.ref g) ⟨us, []⟩) (CR C8.CX0 X.stack X.prog X.w H s Q C8.E0) s) : wpAny (model X.prog X.w) X.A (call (.ref g) us) (EP X pins σ Q) X.xe s := by
  refine wpAny_call (codeAny_mono h fun r s2 hq => ?_)
  match r, hq with
  | .error e, hq => exact (show False from hq).elim
  | .ok (.ret u), hq => exact I.after hq
  | .ok .next, hq => exact hq.elim
  | .ok .brk, hq => exact hq.elim
  | .ok .cont, hq => exact hq.elim
/-- look(e), look a parameter that holds the lambda -/
def tLook (i : Nat) (f : Addr) (F : NF) (ws : List (Option V)) (lsp : List (Option V) → Sp) (t : TA) : TE := fun σ H Q => σ[i]? = some (some (.ref f)) ∧ t σ H fun vs H1 => ∃ v, vs = [v] ∧ H1 F.c = some (CodeO F.c F.qual) ∧ lsp ws [v] H1 Q C8.E0
theorem LamAt.fnAt {h : Heap} {H : Hp} (L : LamAt h H f F body fr ws) : PySem.W.FnAt f h := by
  obtain ⟨pm, ctv, ho⟩ := L.obj
  exact ⟨_, _, _, _, ho⟩
theorem pe_look {t : TA} (LK : LkOk X.prog X.w X.K X.mg X.base k F body fr lsp) (L : LamAt X.s_0.heap X.H_0 f F body fr ws) (off : f ∉ X.fs) (nex : ∀ b, b ∉ X.ex) (hr : Room k X.A) (hN : X.N[i]? = some x) (hv : Vis X.env.scope x) (ha : PA X [e] t)
    (hd : (x == ("__debug__" : Str)) = false := by decide) (hcd : (x == ("__classdict__" : Str)) = false := by decide)
    (he : starEach [e] X.env = (false, eval e X.env) :: starEach [] X.env := by rfl) (hpl : (backTo pos (starEach [] X.env)).any (·.1) = false := by rfl) : PE X (.Call (.Name x p) [e] [] pos) (tLook i f F ws lsp t) := by
  refine ⟨fun pins s σ H Q I h => ?_⟩
  obtain ⟨hs, ht⟩ := h
  refine wpAny_Call_Name_kw (thn ((pe_var (pos := p) hN hv hd hcd).run pins s σ H (fun v H1 => v = .ref f ∧ H1 = H) I ⟨.ref f, hs, rfl, rfl⟩) fun u s1 ⟨v, H1, I1, r1, q1⟩ => ?_)
  obtain ⟨ev, eH⟩ := q1
  subst ev
  rw [eH] at I1
  obtain rfl : u = Value.ref f := r1
  refine PySem.W.callWith_F (first := []) (L.later off nex I1).fnAt (thn (ha.run pos pins s1 σ H _ I1 ht) fun us s2 ⟨vs, H2, I2, r, h1⟩ => ⟨(L.later off nex I2).fnAt, ?_⟩) he hpl
  obtain ⟨v, rfl, hc, q⟩ := h1
  obtain ⟨u, rfl, ru⟩ : ∃ u, us = [u] ∧ RelV v u := by
    cases r with
    | cons a b => cases b; exact ⟨_, rfl, a⟩
  show wpAny _ _ (call (.ref f) [u]) _ _ _
  exact call_after I2 (LK X.A X.stack s2 H2 f u v ws Q hr I2.env0 (L.later off nex I2) hc ru q)
end
/-! ### a def that gets such a lambda as its last argument -/
/-- its promise; hsp: what is asked, by the code object's place and what the lambda's cells hold -/
def LOk (P : Program) (w : World) (K : PySem.W.Frag) (mg : Str → Option Value) (base : Heap) (k : Nat) (g : Addr) (F : NF) (body : Expr) (fr : List Str) (hsp : List (Option V) → Sp) : Prop :=
  ∀ (A : Around) (outer : List Env) (s : Shared) (H : Hp) (f : Addr) (u : Value) (v : V) (ws : List (Option V)) (Q : VK), Room k A → Env0 P w K mg base A outer s H → LamAt s.heap H f F body fr ws → f ∉ frs outer → H F.c = some (CodeO F.c F.qual) → RelV v u → hsp ws [v] H Q C8.E0 →
    codeAny (model P w) A (.call (.ref g) ⟨[u, .ref f], []⟩) (CR C8.CX0 outer P w H s Q C8.E0) s
section
variable {X : Cx} {j k : Nat} {x y : Str} {f g : Addr} {F : NF} {body : Expr} {fr : List Str} {ws : List (Option V)} {hsp : List (Option V) → Sp} {e : Expr} {te : TE} {p p2 pos : Pos}
/-- g(e, look), look the parameter that holds the lambda -/
def tHand (j : Nat) (f : Addr) (F : NF) (ws : List (Option V)) (hsp : List (Option V) → Sp) (te : TE) : TE := fun σ H Q => tCons te (tCons (tVar j) tNil) σ H fun vs H1 => ∃ v, vs = [v, .ref f] ∧ H1 F.c = some (CodeO F.c F.qual) ∧ hsp ws [v] H1 Q C8.E0
theorem pe_hand (G : LOk X.prog X.w X.K X.mg X.base k g F body fr hsp) (L : LamAt X.s_0.heap X.H_0 f F body fr ws) (off : f ∉ X.fs) (offs : f ∉ frs X.stack) (nex : ∀ b, b ∉ X.ex) (hr : Room k X.A) (hg : Gl X x) (hm : X.mg x = some (.ref g)) (hk : PySem.W.keepIn X.K (.ref g) = true)
    (hN : X.N[j]? = some y) (hv : Vis X.env.scope y) (ha : PE X e te) (hdb : (x == ("__debug__" : Str)) = false := by decide) (hd : (y == ("__debug__" : Str)) = false := by decide) (hcd : (y == ("__classdict__" : Str)) = false := by decide)
    (he : starEach [e, .Name y p2] X.env = (false, eval e X.env) :: starEach [.Name y p2] X.env := by rfl) (hpl : (backTo pos (starEach [.Name y p2] X.env)).any (·.1) = false := by rfl) : PE X (.Call (.Name x p) [e, .Name y p2] [] pos) (tHand j f F ws hsp te) := by
  have args : PA X [e, .Name y p2] _ := pa_cons ha (pa_cons (pe_var (pos := p2) hN hv hd hcd) pa_nil) he
  refine ⟨fun pins s σ H Q I h => ?_⟩
  refine wpAny_Call_Name_kw (ld_glob I hg hm (PySem.W.callWith_K (h₀ := X.base) I.ok.mod.kin hk (thn (args.run pos pins s σ H (fun vs H1 => ∃ v, vs = [v, .ref f] ∧ H1 F.c = some (CodeO F.c F.qual) ∧ hsp ws [v] H1 Q C8.E0) I h) fun us s2 ⟨vs, H2, I2, r, h1⟩ => ⟨I2.kIn, ?_⟩) he hpl) hdb)
  obtain ⟨v, rfl, hc, q⟩ := h1
  obtain ⟨u, rfl, ru⟩ : ∃ u, us = [u, .ref f] ∧ RelV v u := by
    cases r with
    | cons a b =>
      cases b with
      | cons c d =>
        cases d
        obtain rfl : _ = Value.ref f := c
        exact ⟨_, rfl, a⟩
  show wpAny _ _ (call (.ref g) [u, .ref f]) _ _ _
  exact call_after I2 (G X.A X.stack s2 H2 f u v ws Q hr I2.env0 (L.later off nex I2) offs hc ru q)
end
/-! ### g(e, lambda y: ..) -/
section
variable {X : Cx} {k : Nat} {x : Str} {g c P : Addr} {mkF : List (Str × Addr) → Addr → NF} {params : Arguments} {body : Expr} {scope : Scope} {fr : List Str} {js : List Nat} {hsp : List (Option V) → Sp} {e : Expr} {te : TE} {p lpos pos : Pos} {T : List (Addr × Str)}
def tLamH (T : List (Addr × Str)) (q : Str) (js : List Nat) (hsp : List (Option V) → Sp) (te : TE) : TE := fun σ H Q => te σ H fun v H1 => Tabs T H1 ∧ ∀ H2 c', ExtN H1 H2 → Tabs T H2 → H2 c' = some (CodeO c' q) → hsp (js.map (slotAt σ)) [v] H2 Q C8.E0
theorem pe_lamH (G : ∀ cl c, LOk X.prog X.w X.K X.mg X.base k g (mkF cl c) body fr hsp) (hF : ∀ cl c, mkF cl c = ⟨(mkF cl c).name, X.env.qual ++ "<lambda>", params, (mkF cl c).body, scope, cl, c⟩)
    (hr : Room k X.A) (hg : Gl X x) (hm : X.mg x = some (.ref g)) (hk : PySem.W.keepIn X.K (.ref g) = true)
    (TB : TabB X.base X.mg c P) (hcode : X.env.code = .ref c) (hmT : (P, X.env.qual ++ "<lambda>") ∈ T) (hu : ∀ p ∈ T, p.1 = P → p.2 = X.env.qual ++ "<lambda>") (hdef : defaultsOf params X.env = ([], []))
    (hfree : ∀ y ∈ scope.names, y.2 = .free → X.env.scope.names.lookup y.1 = some .cell ∨ X.env.scope.names.lookup y.1 = some .free) (hfr : ∀ y ∈ fr, (y, NameKind.free) ∈ scope.names) (hjs : js.map (fun j => X.N[j]?) = fr.map some)
    (ha : PE X e te) (hdb : (x == ("__debug__" : Str)) = false := by decide)
    (he : starEach [e, .Lambda params body scope lpos] X.env = (false, eval e X.env) :: starEach [.Lambda params body scope lpos] X.env := by rfl) (hpl : (backTo pos (starEach [.Lambda params body scope lpos] X.env)).any (·.1) = false := by rfl) :
    PE X (.Call (.Name x p) [e, .Lambda params body scope lpos] [] pos) (tLamH T (X.env.qual ++ "<lambda>") js hsp te) := by
  refine ⟨fun pins s σ H Q I h => ?_⟩
  refine wpAny_Call_Name_kw (ld_glob I hg hm (PySem.W.callWith_K (h₀ := X.base) I.ok.mod.kin hk ?_ he hpl) hdb)
  rw [he]
  show wpAny _ _ (spliced ((false, eval e X.env) :: backTo pos (starEach [.Lambda params body scope lpos] X.env))) _ _ s
  refine Calls.spliced_cons (thn (ha.run pins s σ H _ I h) fun u s1 ⟨v, H1, I1, r1, hT, q1⟩ => ?_)
  show wpAny _ _ (spliced ((false, eval (.Lambda params body scope lpos) X.env) :: [])) _ _ s1
  have hfr2 : ∀ y ∈ scope.names, y.2 = .free → ∃ c, X.env.cells.lookup y.1 = some c := fun y hy e => (hfree y hy e).elim (fun z => I1.ok.has _ (.inl z)) fun z => I1.ok.has _ (.inr z)
  refine Calls.spliced_cons (lam_make2 I1 TB hcode hmT hu hT hdef hfr2 fun f c' pm' ctv G1 t1 J eN T1 hf nf off hco => Calls.spliced_nil ⟨J.kIn, ?_⟩)
  show wpAny _ _ (call (.ref g) [u, .ref f]) _ _ _
  have ef := hF (cloFrom X.env.cells scope.names []) c'
  have L : LamAt t1.heap G1 f (mkF (cloFrom X.env.cells scope.names []) c') body fr (js.map (slotAt σ)) := by
    rw [ef]
    exact ⟨⟨pm', ctv, hf⟩, nf, cells_of J (Caps.made J.ok hfree hfr hjs)⟩
  exact call_after J (G (cloFrom X.env.cells scope.names []) c' X.A X.stack t1 G1 f u v (js.map (slotAt σ)) Q hr J.env0 L off (by rw [ef]; exact hco) r1 (q1 G1 c' eN T1 hco))
end
end LamP
end B41_part
section WK1_part
set_option Elab.async false
set_option linter.all false
set_option maxRecDepth 100000
set_option maxHeartbeats 1000000
set_option pp.deepTerms true
open PySem PySem.Spec PyProof.Rows L2
/-- go on as far as nothing is open -/
local macro_rules | `(tactic| walk_at "go") => `(tactic| repeat (first
  | with_reducible refine w_seq ?_ | with_reducible refine w_next ?_ | with_reducible refine w_set ?_ | with_reducible refine w_drop ?_ | with_reducible refine w_ret ?_ | with_reducible refine w_retN ?_
  | with_reducible refine w_if ?_ | ((with_reducible refine' w_var ?hv ?_); (case hv => exact rfl)) | with_reducible refine w_c ?_ | with_reducible refine w_nil ?_ | with_reducible refine w_cons ?_ | with_reducible refine w_op ?_ | with_reducible refine w_un ?_
  | with_reducible refine w_test ?_ | with_reducible refine w_tB ?_ | with_reducible refine w_not ?_ | with_reducible refine w_and ?_ | with_reducible refine w_or ?_ | with_reducible refine w_bl ?_
  | with_reducible refine w_andV ?_ | with_reducible refine w_orV ?_ | with_reducible refine w_notV ?_ | with_reducible refine w_ifE ?_ | with_reducible refine w_chain ?_ | with_reducible refine w_i0 ?_
  | with_reducible refine w_call ?_ | with_reducible refine w_callS ?_ | with_reducible refine w_cB ?_ | with_reducible refine w_tup ?_ | with_reducible refine w_lst ?_ | with_reducible refine w_fldV ?_
  | with_reducible refine w_neF ?_ | with_reducible refine w_neT ?_ | with_reducible refine w_notN ?_ | with_reducible refine w_isN ?_ | with_reducible refine w_gname ?_ | with_reducible refine w_gsub ?_ | with_reducible refine w_asg ?_ | with_reducible refine w_sl ?_ | with_reducible refine w_noP ?_ | with_reducible refine w_int1 ?_ | with_reducible refine w_part ?_ | with_reducible refine w_meth ?_ | with_reducible refine w_din ?_ | with_reducible refine w_dnotin ?_ | with_reducible refine w_dgt ?_ | with_reducible refine w_dget1 ?_ | with_reducible refine w_dget2 ?_ | with_reducible refine w_dput ?_ | with_reducible refine w_yes ?_ | with_reducible refine w_nT ?_ | with_reducible refine w_nF ?_ | with_reducible refine w_iteT ?_ | with_reducible refine w_iteF ?_))
namespace K3
open LamX NdefX LamP
/-! ### conditions, asked by a lambda that looks answers up -/
/-! the two lambdas of the text -/
def forB : Stmt → List Stmt
  | .For _ _ b _ _ => b
  | _ => []
def ifT : Stmt → Expr
  | .If t _ _ _ => t
  | _ => .Name "" ⟨0, 0, 0, 0⟩
def ifB : Stmt → List Stmt
  | .If _ b _ _ => b
  | _ => []
def notA : Expr → Expr
  | .UnaryOp _ e _ => e
  | e => e
def arg2 : Expr → Expr
  | .Call _ (_ :: e :: _) _ _ => e
  | e => e
def lamP : Expr → Arguments
  | .Lambda a _ _ _ => a
  | _ => ⟨[], [], none, [], [], none, []⟩
def lamB : Expr → Expr
  | .Lambda _ b _ _ => b
  | e => e
def lamS : Expr → Scope
  | .Lambda _ _ s _ => s
  | _ => ⟨.function, [], false, false, []⟩
def goneB : List Stmt := forB ((defBody s__law_gone).getD 0 (.Pass ⟨0, 0, 0, 0⟩))
def lam1 : Expr := arg2 (notA (ifT (goneB.getD 1 (.Pass ⟨0, 0, 0, 0⟩))))
def lam2 : Expr := arg2 (notA (ifT ((ifB (goneB.getD 2 (.Pass ⟨0, 0, 0, 0⟩))).getD 0 (.Pass ⟨0, 0, 0, 0⟩))))
def lamQ : Str := "_law_gone.<locals>.<lambda>"
/-- the function that a lambda makes -/
def lamF (e : Expr) (cl : List (Str × Addr)) (c : Addr) : NF := ⟨"<lambda>", lamQ, lamP e, [], lamS e, cl, c⟩
def isLam (e : Expr) : Prop := e = lam1 ∨ e = lam2
/-- what a walk has: what counts, which names stand in rounds -/
structure WSt (H : Hp) (W : Addr) (rs : List Rw) (cl : Ans) : Prop where
  at_ : ∃ (ms : List (Key × V)) (cd il : Addr) (ins : List Str) (kc : List (List Key × V)), H W = some (.dK ms) ∧ valV ms (Sum.inr "counted") = some (.ref cd) ∧ valV ms (Sum.inr "inside") = some (.ref il) ∧ H cd = some (.dT kc) ∧ AD H cd kc cl ∧ H il = some (.lst (ins.map V.str)) ∧ ∀ n, decide (n ∈ ins) = inRd rs n
theorem WSt.same {H H' : Hp} {W : Addr} {rs : List Rw} {cl : Ans} (h : WSt H W rs cl) (e : Same H H') : WSt H' W rs cl := by
  obtain ⟨ms, cd, il, ins, kc, h1, h2, h3, h4, h5, h6, h7⟩ := h
  exact ⟨ms, cd, il, ins, kc, e _ _ h1, h2, h3, e _ _ h4, h5.nt (Same.nt e), e _ _ h6, h7⟩
def spLookL : List (Option V) → Sp := fun ws vs H Q _ => ∃ (W : Addr) (k : Int) (n : Str) (rs : List Rw) (cl : Ans), ws = [some (.ref W), some (.int k)] ∧ vs = [.str n] ∧ WSt H W rs cl ∧ ∀ v H', Same H H' → AnOpt H' v (spk rs cl n k) → Q v H'
section
variable {P : Program} {w : World} {K : PySem.W.Frag} {mg : Str → Option Value} {base : Heap}
theorem lam_sc {e : Expr} (he : isLam e) : NScope ["_law_name", "_law_w", "_law_k"] ["_law_name"] ["_law_w", "_law_k"] (lamS e) := by
  rcases he with rfl | rfl
  · exact nscope_by (by decide +kernel)
  · exact nscope_by (by decide +kernel)
theorem lk_ok (T : Tx K mg) (e : Expr) (he : isLam e) (cl : List (Str × Addr)) (c : Addr) : LkOk P w K mg base 2 (lamF e cl c) (lamB e) ["_law_w", "_law_k"] spLookL := by
  have S := lam_sc he
  rcases he with rfl | rfl
  all_goals
    refine lkok_of (N := ["_law_name", "_law_w", "_law_k"]) (p := "_law_name") (k := 1) S (fun _ _ _ => rfl) fun A outer s_ H f v ws Q hr hc h => ?_
    obtain ⟨W, k, n, rs, cl, rfl, hv, hW, q⟩ := h
    obtain rfl : v = .str n := (List.cons.inj hv).1
    have hu65 := K3.Room.units65 hr
    have hu0 := Nat.lt_of_le_of_lt (Nat.le_add_right _ 65) hu65
    have hu1 := Nat.lt_of_le_of_lt (Nat.add_le_add_left (show 1 ≤ 65 by decide) _) hu65
    refine ⟨_, (pe_dget1 hu1 (pe_dget hu1 (pv 1) pe_str (fun _ _ => rfl)) (pe_tup (pa_cons (pv 0) (pa_cons (pe_op op_mul (pv 2) (pe_callTy call_int1 (by rfl) T.z_int (by decide +kernel) (pa_cons (pe_cmpR op_in_seq (pv 0) (pe_dget hu1 (pv 1) pe_str (fun _ _ => rfl)) rfl) pa_nil))) pa_nil))) ⟨rfl, rfl, rfl, rfl⟩), ?_⟩
    obtain ⟨ms, cd, il, ins, kc, h1, h2, h3, h4, h5, h6, h7⟩ := hW.at_
    walk_at "go"
    have g2 : DGet H W (.str "counted") (some (.ref cd)) := h2 ▸ DGet.k (k := Sum.inr "counted") h1
    refine ⟨W, _, rfl, g2, cd, rfl, .inr ⟨_, .inl h4⟩, ?_⟩
    walk_at "go"
    have g3 : DGet H W (.str "inside") (some (.ref il)) := h3 ▸ DGet.k (k := Sum.inr "inside") h1
    refine ⟨W, _, rfl, g3, ?_⟩
    refine ⟨il, _, rfl, .inl (SqL.of h6), rfl, flat_strs ins, ?_⟩
    rw [inV_strs, h7, if_neg Bool.false_ne_true]
    walk_at "go"
    refine .inr ⟨_, rfl, ?_⟩
    walk_at "go"
    refine w_i (mul01 _ _) ?_
    walk_at "go"
    refine ⟨(by show 2 ≤ sizeLine; decide), fun p hp => ?_⟩
    have ej : (k * (if inRd rs n = true then 1 else 0) : Int) = if inRd rs n = true then k else 0 := by split <;> simp
    rw [ej]
    have e2 := Same.new hp (.tup [V.str n, V.int (if inRd rs n = true then k else 0)])
    obtain ⟨o, ho, han⟩ := look_opt (s := (n, if inRd rs n = true then k else 0)) (h5.nt (Same.nt e2))
    exact ⟨o, ho ▸ DGet.t (k := keyOf (n, if inRd rs n = true then k else 0)) (e2 _ _ h4) upd_same, q _ _ e2 han⟩
/-- what _law_holds is asked -/
def spHoldsL (N : Nat) : List (Option V) → Sp := fun ws vs H Q _ => ∃ (W : Addr) (k : Int) (v : V) (c : Option Cd) (rs : List Rw) (cl : Ans), ws = [some (.ref W), some (.int k)] ∧ vs = [v] ∧ DW H v c ∧ odep c < N ∧ (∀ c', c = some c' → CdFit rs cl k c') ∧ WSt H W rs cl ∧ ∀ H', Same H H' → Q (.bl (whF rs cl k c)) H'
theorem sc_law_holds : FnScope ["_law_condition", "_law_look", "_law_word", "_law_found"] ["_law_condition", "_law_look"] (defScope s__law_holds) := ⟨rfl, rfl, rfl, by decide +kernel, rfl, by decide +kernel, by decide +kernel⟩
theorem ok_law_holds (T : Tx K mg) (e : Expr) (he : isLam e) (cl0 : List (Str × Addr)) (c0 : Addr) (N : Nat) : LOk P w K mg base (N + 3) (He.ga K "_law_holds") (lamF e cl0 c0) (lamB e) ["_law_w", "_law_k"] (spHoldsL N) := by
  obtain ⟨fd, F⟩ := T.f__law_holds
  have LK := lk_ok (P := P) (w := w) (base := base) T e he cl0 c0
  induction N with
  | zero =>
    intro A outer s H f u v ws Q hr e0 L off hc ru h
    obtain ⟨_, _, _, _, _, _, _, _, _, h, _⟩ := h
    exact absurd h (Nat.not_lt_zero _)
  | succ N ih =>
    intro A outer s_ H f u v ws Q hr e0 LA off0 hc ru h
    obtain ⟨W, k, v', c, rs, cl, rfl, hv, hD, hN, fit, hW, q⟩ := h
    obtain rfl : v = v' := (List.cons.inj hv).1
    have B : BindsTo s_ fd ⟨[u, .ref f], []⟩ ((["_law_condition", "_law_look"] : List Str).zip [u, .ref f]) := (F.bindsN (ps := ["_law_condition", "_law_look"]) fun _ _ _ _ _ _ us hl => match us, hl with | [_, _], _ => rfl) s_ [u, .ref f] (e0.mod.kin.keeps fun b o e => (e0.bs b o e).1) rfl
    obtain ⟨oc, od, dV, kV, doc, pm, an, cdv, ct, osl, rfl, lk, hcd, _, _⟩ := F.ex
    refine run_ofS (CX := C8.CX0) (E := C8.E0) (k := N + 3) (N := ["_law_condition", "_law_look", "_law_word", "_law_found"]) (ps := ["_law_condition", "_law_look"]) (us := [u, .ref f]) (vs := [v, .ref f]) lk hcd sc_law_holds hr e0 B (.cons ru (.cons rfl .nil)) rfl fun hr => ?_
    have offs : f ∉ frs (envOfC "_law_holds" (defScope s__law_holds) s_.heap.objs.size (He.ga K "_law_holds") cdv :: outer) := LA.off rfl off0
    refine ⟨_, pss_cons (ps_if (pt_cmp (pc_isN (pv 0))) (pss_one (ps_ret pe_bl)) pss_nil)
      (pss_cons (ps_set (i := 2) sc_law_holds.nd rfl (Or.inl rfl) (pe_ix ix_tup (pv 0) pe_int (fun _ _ => rfl)))
      (pss_cons (ps_if (pt_cmpR op_eq (pv 2) pe_str (nomark _)) (pss_one (ps_ret (pe_not (pe_hand ih LA off0 offs (fun _ z => nomatch z) hr rfl T.g__law_holds F.kp (j := 1) (by rfl) (Or.inl rfl) (pe_ix ix_tup (pv 0) pe_int (fun _ _ => rfl)))))) pss_nil)
      (pss_cons (ps_if (pt_cmpR op_eq (pv 2) pe_str (nomark _)) (pss_one (ps_ret (pe_and (pe_hand ih LA off0 offs (fun _ z => nomatch z) hr rfl T.g__law_holds F.kp (j := 1) (by rfl) (Or.inl rfl) (pe_ix ix_tup (pv 0) pe_int (fun _ _ => rfl))) (pe_one (pe_hand ih LA off0 offs (fun _ z => nomatch z) hr rfl T.g__law_holds F.kp (j := 1) (by rfl) (Or.inl rfl) (pe_ix ix_tup (pv 0) pe_int (fun _ _ => rfl))))))) pss_nil)
      (pss_cons (ps_if (pt_cmpR op_eq (pv 2) pe_str (nomark _)) (pss_one (ps_ret (pe_or (pe_hand ih LA off0 offs (fun _ z => nomatch z) hr rfl T.g__law_holds F.kp (j := 1) (by rfl) (Or.inl rfl) (pe_ix ix_tup (pv 0) pe_int (fun _ _ => rfl))) (pe_one (pe_hand ih LA off0 offs (fun _ z => nomatch z) hr rfl T.g__law_holds F.kp (j := 1) (by rfl) (Or.inl rfl) (pe_ix ix_tup (pv 0) pe_int (fun _ _ => rfl))))))) pss_nil)
      (pss_cons (ps_set (i := 3) sc_law_holds.nd rfl (Or.inl rfl) (pe_look LK LA off0 (fun _ z => nomatch z) (hr.mono (by omega)) (i := 1) (by rfl) (Or.inl rfl) (pa_cons (pe_ix ix_tup (pv 0) pe_int (fun _ _ => rfl)) pa_nil)))
      (pss_cons (ps_if (pt_cmp (pc_isN (pv 3))) (pss_one (ps_ret pe_bl)) pss_nil)
      (pss_cons (ps_if (pt_cmpR op_eq (pv 2) pe_str (nomark _)) (pss_one (ps_ret (pe_cmpR op_eq (pv 3) (pe_ix ix_tup (pv 0) pe_int (fun _ _ => rfl)) rfl))) pss_nil)
      (pss_cons (ps_if (pt_cmpR op_eq (pv 2) pe_str (nomark _)) (pss_one (ps_ret (pe_cmpR op_in_seq (pe_ix ix_tup (pv 0) pe_int (fun _ _ => rfl)) (pv 3) rfl))) pss_nil)
      (pss_one (ps_ret (pe_ifExp (pt_cmpR op_eq (pv 2) pe_str (nomark _)) (pe_cmpR op_gt (pv 3) (pe_ix ix_tup (pv 0) pe_int (fun _ _ => rfl)) rfl) (pe_cmpR op_lt (pv 3) (pe_ix ix_tup (pv 0) pe_int (fun _ _ => rfl)) rfl)))))))))))), ?_⟩
    have tail : ∀ {d : Cd} (u1 : V) (H1 : Hp) (Q1 : VK), DC H1 u1 d → d.dep < N → CdFit rs cl k d → Same H H1 → (∀ H2, Same H1 H2 → Q1 (.bl (evC rs cl k d)) H2) → spHoldsL N [some (.ref W), some (.int k)] [u1] H1 Q1 C8.E0 := fun {d} u1 H1 Q1 h1 h2 h3 e1 h4 => ⟨W, k, u1, some d, rs, cl, rfl, rfl, .some h1, h2, fun c' z => by cases z; exact h3, hW.same e1, h4⟩
    cases hD with
    | none =>
      walk_at "go"
      exact q _ (Same.refl _)
    | @some v c hd =>
      have fit := fit c rfl
      obtain ⟨t, rfl⟩ : ∃ t, v = V.ref t := by cases hd <;> exact ⟨_, rfl⟩
      walk_at "go"
      rw [show decide (V.ref t = V.non) = false from decide_eq_false (fun z => nomatch z)]
      walk_at "go"
      cases hd with
      | @no t u1 d h h1 =>
        refine w_ixT (SqT.of h) rfl ?_
        walk_at "go"
        refine w_sEA true (by decide +kernel) ?_
        refine ⟨_, rfl, ?_⟩
        rw [if_pos rfl]
        walk_at "go"
        unfold tHand
        walk_at "go"
        refine w_ixT (SqT.of h) rfl ?_
        walk_at "go"
        exact ⟨_, rfl, hc, tail _ _ _ h1 (by have : d.dep + 1 < N + 1 := hN; omega) fit (Same.refl _) fun H2 e2 => ⟨_, rfl, q H2 e2⟩⟩
      | @both t u1 u2 d d2 h h1 h2 =>
        refine w_ixT (SqT.of h) rfl ?_
        walk_at "go"
        refine w_sEA false (by decide +kernel) ?_
        refine ⟨_, rfl, ?_⟩
        rw [if_neg Bool.false_ne_true]
        walk_at "go"
        refine w_sEA true (by decide +kernel) ?_
        refine ⟨_, rfl, ?_⟩
        rw [if_pos rfl]
        walk_at "go"
        have hd1 : d.dep < N ∧ d2.dep < N := by have : max d.dep d2.dep + 1 < N + 1 := hN; omega
        have q' : ∀ b H', evC rs cl k (.both d d2) = b → Same H H' → Q (.bl b) H' := fun b H' hb e => hb ▸ q H' e
        unfold tHand
        walk_at "go"
        refine w_ixT (SqT.of h) rfl ?_
        walk_at "go"
        refine ⟨_, rfl, hc, tail _ _ _ h1 hd1.1 fit.1 (Same.refl _) fun H2 e2 => ⟨_, rfl, ?_⟩⟩
        cases hb : evC rs cl k d with
        | false =>
          exact q' _ H2 (by show (evC rs cl k d && evC rs cl k d2) = _; rw [hb]; rfl) e2
        | true =>
          rw [if_pos rfl]
          walk_at "go"
          refine w_ixT (SqT.of (e2 _ _ h)) rfl ?_
          walk_at "go"
          exact ⟨_, rfl, e2 _ _ hc, tail _ _ _ (h2.same e2) hd1.2 fit.2 e2 fun H3 e3 => q' _ H3 (by show (evC rs cl k d && evC rs cl k d2) = _; rw [hb]; rfl) (e2.trans e3)⟩
      | @either t u1 u2 d d2 h h1 h2 =>
        refine w_ixT (SqT.of h) rfl ?_
        walk_at "go"
        refine w_sEA false (by decide +kernel) ?_
        refine ⟨_, rfl, ?_⟩
        rw [if_neg Bool.false_ne_true]
        walk_at "go"
        refine w_sEA false (by decide +kernel) ?_
        refine ⟨_, rfl, ?_⟩
        rw [if_neg Bool.false_ne_true]
        walk_at "go"
        refine w_sEA true (by decide +kernel) ?_
        refine ⟨_, rfl, ?_⟩
        rw [if_pos rfl]
        walk_at "go"
        have hd1 : d.dep < N ∧ d2.dep < N := by have : max d.dep d2.dep + 1 < N + 1 := hN; omega
        have q' : ∀ b H', evC rs cl k (.either d d2) = b → Same H H' → Q (.bl b) H' := fun b H' hb e => hb ▸ q H' e
        unfold tHand
        walk_at "go"
        refine w_ixT (SqT.of h) rfl ?_
        walk_at "go"
        refine ⟨_, rfl, hc, tail _ _ _ h1 hd1.1 fit.1 (Same.refl _) fun H2 e2 => ⟨_, rfl, ?_⟩⟩
        cases hb : evC rs cl k d with
        | true =>
          exact q' _ H2 (by show (evC rs cl k d || evC rs cl k d2) = _; rw [hb]; rfl) e2
        | false =>
          rw [if_neg Bool.false_ne_true]
          walk_at "go"
          refine w_ixT (SqT.of (e2 _ _ h)) rfl ?_
          walk_at "go"
          exact ⟨_, rfl, e2 _ _ hc, tail _ _ _ (h2.same e2) hd1.2 fit.2 e2 fun H3 e3 => q' _ H3 (by show (evC rs cl k d || evC rs cl k d2) = _; rw [hb]; rfl) (e2.trans e3)⟩
      | @is t n o h =>
        refine w_ixT (SqT.of h) rfl ?_
        walk_at "go"
        refine w_sEA false (by decide +kernel) ?_
        refine ⟨_, rfl, ?_⟩
        rw [if_neg Bool.false_ne_true]
        walk_at "go"
        refine w_sEA false (by decide +kernel) ?_
        refine ⟨_, rfl, ?_⟩
        rw [if_neg Bool.false_ne_true]
        walk_at "go"
        refine w_sEA false (by decide +kernel) ?_
        refine ⟨_, rfl, ?_⟩
        rw [if_neg Bool.false_ne_true]
        walk_at "go"
        unfold tLook
        walk_at "go"
        refine ⟨rfl, ?_⟩
        walk_at "go"
        refine w_ixT (SqT.of h) rfl ?_
        walk_at "go"
        refine ⟨_, rfl, hc, W, k, n, rs, cl, rfl, rfl, hW, fun v1 H1 e1 hv1 => ?_⟩
        have fit := fit
        have ev : evC rs cl k (.is n o) = hol (.is n o) (spk rs cl n k) := rfl
        rw [show whF rs cl k (some (.is n o)) = _ from ev] at q
        walk_at "go"
        cases hx : spk rs cl n k with
        | none =>
          rw [hx] at hv1 q
          obtain rfl : v1 = .non := hv1
          rw [decide_eq_true rfl]
          walk_at "go"
          exact q H1 e1
        | some x =>
          rw [hx] at hv1 q
          obtain ⟨hx1, okx⟩ := hv1
          obtain ⟨z, rfl⟩ := fit x hx
          have hh := e1 _ _ h
          cases hx1
          rw [show decide (V.str z = V.non) = false from rfl, if_neg Bool.false_ne_true]
          walk_at "go"
          refine w_sEA true (by decide +kernel) ?_
          refine ⟨_, rfl, ?_⟩
          rw [if_pos rfl]
          walk_at "go"
          refine w_ixT (SqT.of hh) rfl ?_
          walk_at "go"
          refine ⟨rfl, ?_⟩
          rw [show decide (V.str z = V.str o) = decide (z = o) by simp]
          exact q H1 e1
      | @has t n o h =>
        refine w_ixT (SqT.of h) rfl ?_
        walk_at "go"
        refine w_sEA false (by decide +kernel) ?_
        refine ⟨_, rfl, ?_⟩
        rw [if_neg Bool.false_ne_true]
        walk_at "go"
        refine w_sEA false (by decide +kernel) ?_
        refine ⟨_, rfl, ?_⟩
        rw [if_neg Bool.false_ne_true]
        walk_at "go"
        refine w_sEA false (by decide +kernel) ?_
        refine ⟨_, rfl, ?_⟩
        rw [if_neg Bool.false_ne_true]
        walk_at "go"
        unfold tLook
        walk_at "go"
        refine ⟨rfl, ?_⟩
        walk_at "go"
        refine w_ixT (SqT.of h) rfl ?_
        walk_at "go"
        refine ⟨_, rfl, hc, W, k, n, rs, cl, rfl, rfl, hW, fun v1 H1 e1 hv1 => ?_⟩
        have fit := fit
        have ev : evC rs cl k (.has n o) = hol (.has n o) (spk rs cl n k) := rfl
        rw [show whF rs cl k (some (.has n o)) = _ from ev] at q
        walk_at "go"
        cases hx : spk rs cl n k with
        | none =>
          rw [hx] at hv1 q
          obtain rfl : v1 = .non := hv1
          rw [decide_eq_true rfl]
          walk_at "go"
          exact q H1 e1
        | some x =>
          rw [hx] at hv1 q
          obtain ⟨hx1, okx⟩ := hv1
          obtain ⟨z, rfl⟩ := fit x hx
          have hh := e1 _ _ h
          cases hx1 with
          | @tup p _ hp =>
          rw [show decide (V.ref p = V.non) = false from rfl, if_neg Bool.false_ne_true]
          walk_at "go"
          refine w_sEA false (by decide +kernel) ?_
          refine ⟨_, rfl, ?_⟩
          rw [if_neg Bool.false_ne_true]
          walk_at "go"
          refine w_sEA true (by decide +kernel) ?_
          refine ⟨_, rfl, ?_⟩
          rw [if_pos rfl]
          walk_at "go"
          refine w_ixT (SqT.of hh) rfl ?_
          walk_at "go"
          refine ⟨_, _, rfl, .inr (SqT.of hp), rfl, flat_strs z, ?_⟩
          rw [inV_strs, if_neg Bool.false_ne_true]
          exact q H1 e1
      | @over t n o h =>
        refine w_ixT (SqT.of h) rfl ?_
        walk_at "go"
        refine w_sEA false (by decide +kernel) ?_
        refine ⟨_, rfl, ?_⟩
        rw [if_neg Bool.false_ne_true]
        walk_at "go"
        refine w_sEA false (by decide +kernel) ?_
        refine ⟨_, rfl, ?_⟩
        rw [if_neg Bool.false_ne_true]
        walk_at "go"
        refine w_sEA false (by decide +kernel) ?_
        refine ⟨_, rfl, ?_⟩
        rw [if_neg Bool.false_ne_true]
        walk_at "go"
        unfold tLook
        walk_at "go"
        refine ⟨rfl, ?_⟩
        walk_at "go"
        refine w_ixT (SqT.of h) rfl ?_
        walk_at "go"
        refine ⟨_, rfl, hc, W, k, n, rs, cl, rfl, rfl, hW, fun v1 H1 e1 hv1 => ?_⟩
        have fit := fit
        have ev : evC rs cl k (.over n o) = hol (.over n o) (spk rs cl n k) := rfl
        rw [show whF rs cl k (some (.over n o)) = _ from ev] at q
        walk_at "go"
        cases hx : spk rs cl n k with
        | none =>
          rw [hx] at hv1 q
          obtain rfl : v1 = .non := hv1
          rw [decide_eq_true rfl]
          walk_at "go"
          exact q H1 e1
        | some x =>
          rw [hx] at hv1 q
          obtain ⟨hx1, okx⟩ := hv1
          obtain ⟨z, rfl⟩ := fit x hx
          have hh := e1 _ _ h
          cases hx1
          rw [show decide (V.int z = V.non) = false from rfl, if_neg Bool.false_ne_true]
          walk_at "go"
          refine w_sEA false (by decide +kernel) ?_
          refine ⟨_, rfl, ?_⟩
          rw [if_neg Bool.false_ne_true]
          walk_at "go"
          refine w_sEA false (by decide +kernel) ?_
          refine ⟨_, rfl, ?_⟩
          rw [if_neg Bool.false_ne_true]
          walk_at "go"
          refine w_sEA true (by decide +kernel) ?_
          refine ⟨_, rfl, ?_⟩
          rw [if_pos rfl]
          walk_at "go"
          refine w_ixT (SqT.of hh) rfl ?_
          walk_at "go"
          exact q H1 e1
      | @under t n o h =>
        refine w_ixT (SqT.of h) rfl ?_
        walk_at "go"
        refine w_sEA false (by decide +kernel) ?_
        refine ⟨_, rfl, ?_⟩
        rw [if_neg Bool.false_ne_true]
        walk_at "go"
        refine w_sEA false (by decide +kernel) ?_
        refine ⟨_, rfl, ?_⟩
        rw [if_neg Bool.false_ne_true]
        walk_at "go"
        refine w_sEA false (by decide +kernel) ?_
        refine ⟨_, rfl, ?_⟩
        rw [if_neg Bool.false_ne_true]
        walk_at "go"
        unfold tLook
        walk_at "go"
        refine ⟨rfl, ?_⟩
        walk_at "go"
        refine w_ixT (SqT.of h) rfl ?_
        walk_at "go"
        refine ⟨_, rfl, hc, W, k, n, rs, cl, rfl, rfl, hW, fun v1 H1 e1 hv1 => ?_⟩
        have fit := fit
        have ev : evC rs cl k (.under n o) = hol (.under n o) (spk rs cl n k) := rfl
        rw [show whF rs cl k (some (.under n o)) = _ from ev] at q
        walk_at "go"
        cases hx : spk rs cl n k with
        | none =>
          rw [hx] at hv1 q
          obtain rfl : v1 = .non := hv1
          rw [decide_eq_true rfl]
          walk_at "go"
          exact q H1 e1
        | some x =>
          rw [hx] at hv1 q
          obtain ⟨hx1, okx⟩ := hv1
          obtain ⟨z, rfl⟩ := fit x hx
          have hh := e1 _ _ h
          cases hx1
          rw [show decide (V.int z = V.non) = false from rfl, if_neg Bool.false_ne_true]
          walk_at "go"
          refine w_sEA false (by decide +kernel) ?_
          refine ⟨_, rfl, ?_⟩
          rw [if_neg Bool.false_ne_true]
          walk_at "go"
          refine w_sEA false (by decide +kernel) ?_
          refine ⟨_, rfl, ?_⟩
          rw [if_neg Bool.false_ne_true]
          walk_at "go"
          refine w_sEA false (by decide +kernel) ?_
          refine ⟨_, rfl, ?_⟩
          rw [if_neg Bool.false_ne_true]
          walk_at "go"
          refine w_ixT (SqT.of hh) rfl ?_
          walk_at "go"
          exact q H1 e1
end
end K3
end WK1_part
section B42_part
set_option Elab.async false
set_option linter.all false
set_option maxRecDepth 100000
set_option maxHeartbeats 1000000
set_option pp.deepTerms true
open PySem PySem.Spec PyProof.Rows L2
/-- go on as far as nothing is open -/
local macro_rules | `(tactic| walk_at "go") => `(tactic| repeat (first
  | with_reducible refine w_seq ?_ | with_reducible refine w_next ?_ | with_reducible refine w_set ?_ | with_reducible refine w_drop ?_ | with_reducible refine w_ret ?_ | with_reducible refine w_retN ?_
  | with_reducible refine w_if ?_ | ((with_reducible refine' w_var ?hv ?_); (case hv => exact rfl)) | with_reducible refine w_c ?_ | with_reducible refine w_nil ?_ | with_reducible refine w_cons ?_ | with_reducible refine w_op ?_ | with_reducible refine w_un ?_
  | with_reducible refine w_test ?_ | with_reducible refine w_tB ?_ | with_reducible refine w_not ?_ | with_reducible refine w_and ?_ | with_reducible refine w_or ?_ | with_reducible refine w_bl ?_
  | with_reducible refine w_andV ?_ | with_reducible refine w_orV ?_ | with_reducible refine w_notV ?_ | with_reducible refine w_ifE ?_ | with_reducible refine w_chain ?_ | with_reducible refine w_i0 ?_
  | with_reducible refine w_call ?_ | with_reducible refine w_callS ?_ | with_reducible refine w_cB ?_ | with_reducible refine w_tup ?_ | with_reducible refine w_lst ?_ | with_reducible refine w_fldV ?_
  | with_reducible refine w_neF ?_ | with_reducible refine w_neT ?_ | with_reducible refine w_notN ?_ | with_reducible refine w_isN ?_ | with_reducible refine w_gname ?_ | with_reducible refine w_gsub ?_ | with_reducible refine w_asg ?_ | with_reducible refine w_sl ?_ | with_reducible refine w_noP ?_ | with_reducible refine w_int1 ?_ | with_reducible refine w_part ?_ | with_reducible refine w_yes ?_ | with_reducible refine w_nT ?_ | with_reducible refine w_nF ?_ | with_reducible refine w_iteT ?_ | with_reducible refine w_iteF ?_))
namespace L2
open PySem PySem.Spec PyProof.Rows
/-- a def's code object -/
def codeOf (K : PySem.W.Frag) (f : Addr) : Value := match K.lookup f with
  | some ⟨_, _, .func fd, _⟩ => fd.code
  | _ => .none
/-- a def, its code object named -/
theorem FunD.okC {x ql : Str} {prm : Arguments} {bd : List Stmt} {sc : Scope} {dvs : List V} {kws : List (Str × V)} {f : Addr} {fd : FuncData} {P : Program} {w : World} {K : PySem.W.Frag} {mg : Str → Option Value} {base : Heap} {CX : CXT} {N ps : List Str} {k : Nat} {sp : Sp}
    (F : FunD K x ql prm bd sc dvs kws f fd) (S : FnScope N ps sc) (lens : ∀ zs G Q E, sp zs G Q E → zs.length = ps.length)
    (body : ∀ (J : Around) (up : List Env) (t : Shared) (G : Hp) (zs : List V) (Q : VK) (E : XK), Room k (J.deeper (envOfC ql sc t.heap.objs.size f (codeOf K f))) → sp zs G Q E →
      ∃ r, PSs (cxOf CX P w K mg base N ql sc f (codeOf K f) J up t G E) bd r ∧ r { nx := fun _ G' => Q .non G', rt := Q } (start N zs) G) : FnOk P w K mg base CX (k + 1) f fd ps sp := by
  obtain ⟨_, _, _, _, _, _, _, cdv, _, _, rfl, a, b, _, _⟩ := F.ex
  have e : codeOf K f = cdv := by unfold codeOf; rw [a]
  rw [e] at body
  exact fn_of a b S lens fun J up t G zs Q E => body J up t G zs Q E
end L2
namespace K3
open PySem PySem.Spec PyProof.Rows L2 LamX
/-- where a def's lambda is told, among the tables TT -/
structure Told (K : PySem.W.Frag) (mg : Str → Option Value) (base : Heap) (x : Str) (c P : Addr) (TT : List (Addr × Str)) : Prop where
  code : codeOf K (He.ga K x) = .ref c
  tab : TabB base mg c P
  mem : (P, x ++ (".<locals>.<lambda>" : Str)) ∈ TT
  one : ∀ p ∈ TT, p.1 = P → p.2 = x ++ (".<locals>.<lambda>" : Str)
/-- all but the places M and the tables of code objects stays -/
def GX (M : List Addr) (H H' : Hp) : Prop := ∀ b o, H b = some o → b ∉ M → (∀ ps, o ≠ .tbl ps) → H' b = some o
section
variable {M : List Addr} {H H1 H' : Hp}
theorem GX.refl : GX M H H := fun _ _ h _ _ => h
theorem GX.trans (a : GX M H H1) (b : GX M H1 H') : GX M H H' := fun c o h n t => b c o (a c o h n t) n t
theorem GX.of (e : Same H H') : GX M H H' := fun b o h _ _ => e b o h
theorem GX.xn (e : ExtN H H') : GX M H H' := fun b o h _ t => e b o h t
theorem GX.upd {b : Addr} (h : b ∈ M) (o : HO) : GX M H (L2.upd H b o) := fun c u q n _ => by rw [upd_ne (fun z => n (by rw [z]; exact h))]; exact q
/-- behind it, what was made newly may be changed -/
theorem GX.new {N : List Addr} (a : ExtN H H1) (b : GX N H1 H') (n : ∀ c ∈ N, H c = none) : ExtN H H' := fun c o h t => b c o (a c o h t) (fun z => by rw [n c z] at h; cases h) t
/-- data that stand: B's objects lie in H, off M, none a table -/
def Bs (B : Hp) (M : List Addr) (H : Hp) : Prop := ∀ b o, B b = some o → H b = some o ∧ b ∉ M ∧ ∀ ps, o ≠ .tbl ps
theorem Bs.gx {B : Hp} (h : Bs B M H) (e : GX M H H') : Bs B M H' := fun b o q => let ⟨h1, h2, h3⟩ := h b o q; ⟨e b o h1 h2 h3, h2, h3⟩
theorem Bs.same {B : Hp} (h : Bs B M H) : Same B H := fun b o q => (h b o q).1
theorem tabs_upd {T : List (Addr × Str)} {b : Addr} {o : HO} (t : Tabs T H) (h : H b = some o) (n : ∀ ps, o ≠ .tbl ps) (m : ∀ p, o ≠ .ext p) (u : HO) : Tabs T (L2.upd H b u) := fun p hp => by
  obtain ⟨ps, h1, h2, h3⟩ := t p hp
  refine ⟨ps, by rw [upd_ne (fun z => by rw [z, h] at h1; exact n ps (Option.some.inj h1))]; exact h1, h2, fun pos cv hc => ?_⟩
  obtain ⟨c, k1, k2⟩ := h3 pos cv hc
  refine ⟨c, k1, ?_⟩
  rw [upd_ne (fun z => by rw [z, h] at k2; exact m _ (Option.some.inj k2))]
  exact k2
theorem tabs_same {T : List (Addr × Str)} (t : Tabs T H) (e : Same H H') : Tabs T H' := t.ext e
end
end K3
end B42_part
section WK2_part
set_option Elab.async false
set_option linter.all false
set_option maxRecDepth 100000
set_option maxHeartbeats 1000000
set_option pp.deepTerms true
open PySem PySem.Spec PyProof.Rows L2
/-- go on as far as nothing is open -/
local macro_rules | `(tactic| walk_at "go") => `(tactic| repeat (first
  | with_reducible refine w_seq ?_ | with_reducible refine w_next ?_ | with_reducible refine w_set ?_ | with_reducible refine w_drop ?_ | with_reducible refine w_ret ?_ | with_reducible refine w_retN ?_
  | with_reducible refine w_if ?_ | ((with_reducible refine' w_var ?hv ?_); (case hv => exact rfl)) | with_reducible refine w_c ?_ | with_reducible refine w_nil ?_ | with_reducible refine w_cons ?_ | with_reducible refine w_op ?_ | with_reducible refine w_un ?_
  | with_reducible refine w_test ?_ | with_reducible refine w_tB ?_ | with_reducible refine w_not ?_ | with_reducible refine w_and ?_ | with_reducible refine w_or ?_ | with_reducible refine w_bl ?_
  | with_reducible refine w_andV ?_ | with_reducible refine w_orV ?_ | with_reducible refine w_notV ?_ | with_reducible refine w_ifE ?_ | with_reducible refine w_chain ?_ | with_reducible refine w_i0 ?_
  | with_reducible refine w_call ?_ | with_reducible refine w_callS ?_ | with_reducible refine w_cB ?_ | with_reducible refine w_tup ?_ | with_reducible refine w_lst ?_ | with_reducible refine w_fldV ?_
  | with_reducible refine w_neF ?_ | with_reducible refine w_neT ?_ | with_reducible refine w_notN ?_ | with_reducible refine w_isN ?_ | with_reducible refine w_gname ?_ | with_reducible refine w_gsub ?_ | with_reducible refine w_asg ?_ | with_reducible refine w_sl ?_ | with_reducible refine w_noP ?_ | with_reducible refine w_int1 ?_ | with_reducible refine w_part ?_ | with_reducible refine w_meth ?_ | with_reducible refine w_din ?_ | with_reducible refine w_dnotin ?_ | with_reducible refine w_dgt ?_ | with_reducible refine w_dget1 ?_ | with_reducible refine w_dget2 ?_ | with_reducible refine w_dput ?_ | with_reducible refine w_yes ?_ | with_reducible refine w_nT ?_ | with_reducible refine w_nF ?_ | with_reducible refine w_iteT ?_ | with_reducible refine w_iteF ?_))
namespace K3
open LamX NdefX LamP
/-! ### whether something is an answer of a question; which names stand in rounds -/
def spFitsL (K : PySem.W.Frag) : Sp := fun vs H Q _ => ∃ (rv v : V) (r : Rw) (x : An), vs = [rv, v] ∧ DR H rv r ∧ r.isQ = true ∧ AnO H v x ∧ x.ok ∧ r.opts.length ≤ 1000 ∧ (∀ o ∈ r.opts, PySem.PyData.strOk o = true) ∧ ∀ H', Same H H' → Q (.bl (r.ans x)) H'
theorem kit_strL : ∀ (x : An), kitB x.tyn "str" = some (match x with | .str _ => true | _ => false)
  | .str _ => (by decide +kernel : kitB "str" "str" = some true) | .int _ => (by decide +kernel : kitB "int" "str" = some false) | .bl _ => (by decide +kernel : kitB "bool" "str" = some false) | .non => (by decide +kernel : kitB "NoneType" "str" = some false) | .tup _ => (by decide +kernel : kitB "tuple" "str" = some false)
section
variable {P : Program} {w : World} {K : PySem.W.Frag} {mg : Str → Option Value} {base : Heap}
theorem sc_fits : FnScope ["_law_row", "_law_answer_here", "_law_one"] ["_law_row", "_law_answer_here"] (defScope s__law_fits) := ⟨rfl, rfl, rfl, by decide +kernel, rfl, by decide +kernel, by decide +kernel⟩
theorem ok_fits (T : Tx K mg) : Ok P w K mg base 2 (He.ga K "_law_fits") ["_law_row", "_law_answer_here"] (spFitsL K) := by
  obtain ⟨fd, F⟩ := T.f__law_fits
  refine ⟨fd, F.ok (k := 1) sc_fits (fun vs H Q E h => ?_) (fun cdv A outer s_ H vs Q E hr h => ?_), F.bindsN fun _ _ _ _ _ _ us hl => match us, hl with | [_, _], _ => rfl, F.kp⟩
  · obtain ⟨rv, v, r, x, rfl, hr0, hq, hx, xo, lo, so, q⟩ := h
    rfl
  obtain ⟨rv, v, r, x, rfl, hr0, hq, hx, xo, lo, so, q⟩ := h
  have hu65 := K3.Room.units65 hr
  have hu70 := K3.Room.units70 hr
  have hu4 := K3.Room.units4 hr
  have hu64 := Nat.lt_of_succ_lt hu65
  have hu0 := Nat.lt_of_le_of_lt (Nat.le_add_right _ 65) hu65
  have hu1 := Nat.lt_of_le_of_lt (Nat.add_le_add_left (show 1 ≤ 65 by decide) _) hu65
  refine ⟨_, pss_cons (ps_if (pt_cmpR op_eq (pe_ix ix_tup (pv 0) pe_int (fun _ _ => rfl)) pe_str (nomark _)) (pss_one (ps_ret (pe_and (pe_callB call_isi (by rfl) T.z_isinstance (by decide +kernel) (pa_cons (pv 1) (pa_cons (pe_bltn (v := .ty "str") (u := .type "str") (by rfl) T.z_str (by decide +kernel) rfl) pa_nil))) (pe_one (pe_cmpR op_in_seq (pv 1) (pe_ix ix_tup (pv 0) pe_int (fun _ _ => rfl)) rfl))))) pss_nil)
      (pss_cons (ps_if (pt_cmpR op_eq (pe_ix ix_tup (pv 0) pe_int (fun _ _ => rfl)) pe_str (nomark _)) (pss_one (ps_ret (pe_and (pe_callB call_isi (by rfl) T.z_isinstance (by decide +kernel) (pa_cons (pv 1) (pa_cons (pe_bltn (v := .ty "tuple") (u := .type "tuple") (by rfl) T.z_tuple (by decide +kernel) rfl) pa_nil))) (pe_one (pe_cmpR (op_eqD hu64) (pe_callTy call_list_of (by rfl) T.z_list (by decide +kernel) (pa_cons (pv 1) pa_nil)) (by exact pe_lc (own := [("_law_one", 2)]) (g := gName 2) (tt := (tTest (tOp (rIn K false) (tVar 2) (tVar 1)))) (te := (tVar 2)) (by rfl) sc_fits.nd (pi_list (pe_ix ix_tup (pv 0) pe_int (fun _ _ => rfl))) (blkOk_by (own := [("_law_one", 2)]) (N := ["_law_row", "_law_answer_here", "_law_one"]) (sc := defScope s__law_fits) (by decide +kernel)) (fun _ _ _ _ _ => (pg_name (i := 2) sc_fits.nd rfl (Or.inl rfl))) (fun _ _ _ _ _ => (pts_one (pt_cmpR op_in_seq (pv 2) (pv 1) (by rfl)))) (fun _ _ _ _ _ => (pv 2))) rfl))))) pss_nil)
      (pss_one (ps_ret (pe_and (pe_callB call_isi (by rfl) T.z_isinstance (by decide +kernel) (pa_cons (pv 1) (pa_cons (pe_bltn (v := .ty "int") (u := .type "int") (by rfl) T.z_int (by decide +kernel) rfl) pa_nil))) (pe_and (pe_not (pe_callB call_isi (by rfl) T.z_isinstance (by decide +kernel) (pa_cons (pv 1) (pa_cons (pe_bltn (v := .ty "bool") (u := .type "bool") (by rfl) T.z_bool (by decide +kernel) rfl) pa_nil)))) (pe_one (pe_chain op_le op_le (pe_ix ix_tup (pv 0) pe_int (fun _ _ => rfl)) (pv 1) (pe_ix ix_tup (pv 0) pe_int (fun _ _ => rfl))))))))), ?_⟩
  have kq := fun {b} (h : r.ans x = b) => (h ▸ q H (Same.refl _) : Q (.bl b) H)
  walk_at "go"
  cases hr0 with
  | @one t l n os w' wv h hl hw =>
    refine w_ixT (SqT.of h) rfl ?_
    walk_at "go"
    refine w_sEA true (by decide +kernel) ?_
    refine ⟨_, rfl, ?_⟩
    rw [if_pos rfl]
    walk_at "go"
    refine isB hx (kit_strL x) ?_
    refine ⟨_, rfl, ?_⟩
    cases hx with
    | str z =>
      show if true = true then _ else _
      walk_at "go"
      refine w_ixT (SqT.of h) rfl ?_
      walk_at "go"
      refine ⟨l, _, rfl, .inl (SqL.of hl), rfl, flat_strs os, ?_⟩
      rw [inV_strs, if_neg Bool.false_ne_true]
      exact q H (Same.refl _)
    | _ => exact kq rfl
  | @some t l n os w' wv h hl hw =>
    refine w_ixT (SqT.of h) rfl ?_
    walk_at "go"
    refine w_sEA false (by decide +kernel) ?_
    refine ⟨_, rfl, ?_⟩
    rw [if_neg Bool.false_ne_true]
    walk_at "go"
    refine w_ixT (SqT.of h) rfl ?_
    walk_at "go"
    refine w_sEA true (by decide +kernel) ?_
    refine ⟨_, rfl, ?_⟩
    rw [if_pos rfl]
    walk_at "go"
    refine isB hx (kit_tup x) ?_
    refine ⟨_, rfl, ?_⟩
    cases hx with
    | @tup p zs hp =>
      show if true = true then _ else _
      walk_at "go"
      refine ⟨p, _, rfl, .inr (SqT.of hp), fun l2 hl2 => ?_⟩
      have el := Same.new hl2 (.lst (zs.map V.str))
      have g2 : (upd H l2 (.lst (zs.map V.str))) l2 = some (.lst (zs.map V.str)) := upd_same
      generalize upd H l2 (.lst (zs.map V.str)) = H1 at el g2 ⊢
      refine lc_open (list_open ?_)
      walk_at "go"
      refine w_ixT (SqT.of (el _ _ h)) rfl ?_
      refine ⟨l, rfl, ⟨_, SqL.of (el _ _ hl)⟩, fun D hD => ?_⟩
      have e2 := Same.new hD (.lst [])
      refine lc_list (K := K) (a := l) (xs := os.map V.str) (fun (i : Nat) H' => Same H1 H' ∧ H' D = some (.lst (((os.take i).filter fun o => decide (o ∈ zs)).map V.str))) ⟨Same.new hD _, upd_same⟩ (fun i H' _ z => SqL.of (z.1 _ _ (el _ _ hl))) ?_ ?_
      · rintro i v H2 hi ⟨e1, h1⟩
        rw [List.getElem?_map] at hi
        obtain ⟨o, ho, rfl⟩ := Option.map_eq_some_iff.mp hi
        walk_at "go"
        refine ⟨rfl, ?_⟩
        walk_at "go"
        refine ⟨p, _, rfl, .inr (SqT.of (e1 _ _ (el _ _ hp))), rfl, flat_strs zs, ?_⟩
        refine ⟨_, rfl, ?_⟩
        show if inV (.str o) (zs.map V.str) = true then _ else _
        rw [inV_strs]
        by_cases c : o ∈ zs
        · rw [decide_eq_true c]
          walk_at "go"
          refine ⟨_, h1, ?_, e1.mut hD, ?_⟩
          · rw [List.length_map]
            refine Nat.lt_of_le_of_lt (Nat.le_trans (List.length_filter_le _ _) (List.length_take_le _ _)) ?_
            exact Nat.lt_of_lt_of_le (List.getElem?_eq_some_iff.mp ho).1 (Nat.le_trans lo (by decide))
          · rw [upd_same, filter_take ho, if_pos c, List.map_append]
            rfl
        · rw [decide_eq_false c]
          walk_at "go"
          refine ⟨e1, ?_⟩
          rw [h1, filter_take ho, if_neg c, List.append_nil]
      · rintro H2 ⟨e1, h1⟩
        rw [List.length_map, List.take_length] at h1
        refine ⟨.list (zs.map PyData.str), .list ((os.filter fun o => decide (o ∈ zs)).map PyData.str), .lst (SqL.of (e1 _ _ g2)) (strs_dp zs), .lst (SqL.of h1) (strs_dp _), (strs_shaped xo.2).2, (strs_shaped fun o ho => so o (List.mem_filter.mp ho).1).2, ?_⟩
        rw [show PyData.eqv (.list (zs.map PyData.str)) (.list ((os.filter fun o => decide (o ∈ zs)).map PyData.str)) = decide (zs = os.filter fun o => decide (o ∈ zs)) by simp only [PyData.eqv]; exact eqv_strs]
        exact q _ (el.trans e1)
    | _ => exact kq rfl
  | @number t n lo1 hi1 w' wv h hw =>
    refine w_ixT (SqT.of h) rfl ?_
    walk_at "go"
    refine w_sEA false (by decide +kernel) ?_
    refine ⟨_, rfl, ?_⟩
    rw [if_neg Bool.false_ne_true]
    walk_at "go"
    refine w_ixT (SqT.of h) rfl ?_
    walk_at "go"
    refine w_sEA false (by decide +kernel) ?_
    refine ⟨_, rfl, ?_⟩
    rw [if_neg Bool.false_ne_true]
    walk_at "go"
    cases hx with
    | int i =>
      refine isB (.int i) kii ⟨_, rfl, ?_⟩
      walk_at "go"
      refine isB (.int i) kib ⟨_, rfl, ?_⟩
      walk_at "go"
      refine w_ixT (SqT.of h) rfl ?_
      walk_at "go"
      have q1 := q H (Same.refl _)
      by_cases c : lo1 ≤ i
      · rw [decide_eq_true c]
        walk_at "go"
        refine w_ixT (SqT.of h) rfl ?_
        walk_at "go"
        have : (Rw.number n lo1 hi1 w').ans (.int i) = decide (i ≤ hi1) := by show (decide (lo1 ≤ i) && decide (i ≤ hi1)) = _; rw [decide_eq_true c, Bool.true_and]
        rw [this] at q1
        exact q1
      · rw [decide_eq_false c]
        walk_at "go"
        have : (Rw.number n lo1 hi1 w').ans (.int i) = false := by show (decide (lo1 ≤ i) && decide (i ≤ hi1)) = _; rw [decide_eq_false c, Bool.false_and]
        rw [this] at q1
        exact q1
    | bl b =>
      refine isB (.bl b) kbi ⟨_, rfl, ?_⟩
      walk_at "go"
      exact isB (.bl b) kbb ⟨_, rfl, _, rfl, kq rfl⟩
    | str z => exact isB (.str z) ksi ⟨_, rfl, kq rfl⟩
    | non => exact isB .non kni ⟨_, rfl, kq rfl⟩
    | tup hp => exact isB (.tup hp) kti ⟨_, rfl, kq rfl⟩
  | _ => cases hq
end
end K3
end WK2_part
section WK3_part
set_option Elab.async false
set_option linter.all false
set_option maxRecDepth 100000
set_option maxHeartbeats 1000000
set_option pp.deepTerms true
open PySem PySem.Spec PyProof.Rows L2
/-- go on as far as nothing is open -/
local macro_rules | `(tactic| walk_at "go") => `(tactic| repeat (first
  | with_reducible refine w_seq ?_ | with_reducible refine w_next ?_ | with_reducible refine w_set ?_ | with_reducible refine w_drop ?_ | with_reducible refine w_ret ?_ | with_reducible refine w_retN ?_
  | with_reducible refine w_if ?_ | ((with_reducible refine' w_var ?hv ?_); (case hv => exact rfl)) | with_reducible refine w_c ?_ | with_reducible refine w_nil ?_ | with_reducible refine w_cons ?_ | with_reducible refine w_op ?_ | with_reducible refine w_un ?_
  | with_reducible refine w_test ?_ | with_reducible refine w_tB ?_ | with_reducible refine w_not ?_ | with_reducible refine w_and ?_ | with_reducible refine w_or ?_ | with_reducible refine w_bl ?_
  | with_reducible refine w_andV ?_ | with_reducible refine w_orV ?_ | with_reducible refine w_notV ?_ | with_reducible refine w_ifE ?_ | with_reducible refine w_chain ?_ | with_reducible refine w_i0 ?_
  | with_reducible refine w_call ?_ | with_reducible refine w_callS ?_ | with_reducible refine w_cB ?_ | with_reducible refine w_tup ?_ | with_reducible refine w_lst ?_ | with_reducible refine w_fldV ?_
  | with_reducible refine w_neF ?_ | with_reducible refine w_neT ?_ | with_reducible refine w_notN ?_ | with_reducible refine w_isN ?_ | with_reducible refine w_gname ?_ | with_reducible refine w_gsub ?_ | with_reducible refine w_asg ?_ | with_reducible refine w_sl ?_ | with_reducible refine w_noP ?_ | with_reducible refine w_int1 ?_ | with_reducible refine w_part ?_ | with_reducible refine w_meth ?_ | with_reducible refine w_din ?_ | with_reducible refine w_dnotin ?_ | with_reducible refine w_dgt ?_ | with_reducible refine w_dget1 ?_ | with_reducible refine w_dget2 ?_ | with_reducible refine w_dput ?_ | with_reducible refine w_yes ?_ | with_reducible refine w_nT ?_ | with_reducible refine w_nF ?_ | with_reducible refine w_iteT ?_ | with_reducible refine w_iteF ?_))
namespace K3
open LamX NdefX LamP
/-! ### the law's own walk -/
def w5 (l cd : Addr) (ev : V) (ad il : Addr) : List (Key × V) := [(Sum.inr "asked", .ref l), (Sum.inr "counted", .ref cd), (Sum.inr "end", ev), (Sum.inr "answers", .ref ad), (Sum.inr "inside", .ref il)]
theorem w5_asked {l cd ad il : Addr} {ev : V} : valV (w5 l cd ev ad il) (Sum.inr "asked") = some (.ref l) := rfl
theorem w5_counted {l cd ad il : Addr} {ev : V} : valV (w5 l cd ev ad il) (Sum.inr "counted") = some (.ref cd) := rfl
theorem w5_end {l cd ad il : Addr} {ev : V} : valV (w5 l cd ev ad il) (Sum.inr "end") = some ev := rfl
theorem w5_answers {l cd ad il : Addr} {ev : V} : valV (w5 l cd ev ad il) (Sum.inr "answers") = some (.ref ad) := rfl
theorem w5_inside {l cd ad il : Addr} {ev : V} : valV (w5 l cd ev ad il) (Sum.inr "inside") = some (.ref il) := rfl
theorem w5_put {l cd ad il : Addr} {ev v : V} : putK (w5 l cd ev ad il) (Sum.inr "end") v = w5 l cd v ad il := rfl
abbrev SpO (H : Hp) (p : Addr) (s : Spot) : Prop := H p = some (.tup [.str s.1, .int s.2])
/-- the walk's own words: what was asked, what counts, the end, the answers, the names in rounds -/
structure GoneO (H : Hp) (W l cd ad il : Addr) (rs : List Rw) (al : Ans) (x : Rs) : Prop where
  w : ∃ ev, H W = some (.dK (w5 l cd ev ad il)) ∧ EndO H ev x.1
  asked : ∃ ps : List Addr, H l = some (.lst (ps.map V.ref)) ∧ Paired (SpO H) ps x.2.1
  cnt : ∃ kvs, H cd = some (.dT kvs) ∧ AD H cd kvs x.2.2
  ans : ∃ kvs, H ad = some (.dT kvs) ∧ AD H ad kvs al
  ins : ∃ ins : List Str, H il = some (.lst (ins.map V.str)) ∧ ∀ n, decide (n ∈ ins) = inRd rs n
  ne1 : ad ≠ cd
  ne2 : il ≠ l
theorem EndO.keep {H H' : Hp} (k : ∀ c xs, H c = some (.tup xs) → H' c = some (.tup xs)) {v : V} : ∀ {e : Option (Str × Spot)}, EndO H v e → EndO H' v e
  | none, h => h
  | some (_, _), ⟨t, p, h1, h2, h3⟩ => ⟨t, p, h1, k _ _ h2, k _ _ h3⟩
theorem AD.keep {H H' : Hp} (k : ∀ c xs, H c = some (.tup xs) → H' c = some (.tup xs)) {d : Addr} {kvs : List (List Key × V)} {al : Ans} (h : AD H d kvs al) : AD H' d kvs al := ⟨L2.Paired.mapP h.ents fun _ _ z => z.keep k, h.nd⟩
section
variable {H H' : Hp} {W l cd ad il : Addr} {rs : List Rw} {al : Ans} {x : Rs}
theorem GoneO.xn (h : GoneO H W l cd ad il rs al x) (e : ExtN H H') : GoneO H' W l cd ad il rs al x := by
  obtain ⟨⟨ev, h1, h2⟩, ⟨ps, h3, h4⟩, ⟨kc, h5, h6⟩, ⟨ka, h7, h8⟩, ⟨is, h9, h10⟩, n1, n2⟩ := h
  have k : ∀ c xs, H c = some (.tup xs) → H' c = some (.tup xs) := fun c xs q => e _ _ q fun _ z => nomatch z
  exact ⟨⟨ev, e _ _ h1 (fun _ z => nomatch z), h2.keep k⟩, ⟨ps, e _ _ h3 (fun _ z => nomatch z), L2.Paired.mapP h4 fun _ _ z => k _ _ z⟩, ⟨kc, e _ _ h5 (fun _ z => nomatch z), h6.keep k⟩, ⟨ka, e _ _ h7 (fun _ z => nomatch z), h8.keep k⟩, ⟨is, e _ _ h9 (fun _ z => nomatch z), h10⟩, n1, n2⟩
theorem GoneO.same (h : GoneO H W l cd ad il rs al x) (e : Same H H') : GoneO H' W l cd ad il rs al x := h.xn (ExtN.of e)
theorem GoneO.st (h : GoneO H W l cd ad il rs al x) : WSt H W rs x.2.2 := by
  obtain ⟨⟨ev, h1, h2⟩, _, ⟨kc, h5, h6⟩, _, ⟨is, h9, h10⟩, n1, n2⟩ := h
  exact ⟨_, cd, il, is, kc, h1, w5_counted, w5_inside, h5, h6, h9, h10⟩
/-- an end is set -/
theorem GoneO.fin (h : GoneO H W l cd ad il rs al x) {v : V} {e : Option (Str × Spot)} (hv : EndO H v e) : GoneO (L2.upd H W (.dK (w5 l cd v ad il))) W l cd ad il rs al (e, x.2) := by
  obtain ⟨⟨ev, h1, h2⟩, ⟨ps, h3, h4⟩, ⟨kc, h5, h6⟩, ⟨ka, h7, h8⟩, ⟨is, h9, h10⟩, n1, n2⟩ := h
  have k : ∀ {c o}, H c = some o → (∀ ms, o ≠ .dK ms) → (L2.upd H W (.dK (w5 l cd v ad il))) c = some o := fun {c o} q n => by
    rw [upd_ne (fun z => by rw [z, h1] at q; exact n _ (Option.some.inj q).symm)]; exact q
  have kt : ∀ c xs, H c = some (.tup xs) → (L2.upd H W (.dK (w5 l cd v ad il))) c = some (.tup xs) := fun c xs q => k q fun _ z => nomatch z
  exact ⟨⟨v, upd_same, hv.keep kt⟩, ⟨ps, k h3 (fun _ z => nomatch z), L2.Paired.mapP h4 fun _ _ z => kt _ _ z⟩, ⟨kc, k h5 (fun _ z => nomatch z), h6.keep kt⟩, ⟨ka, k h7 (fun _ z => nomatch z), h8.keep kt⟩, ⟨is, k h9 (fun _ z => nomatch z), h10⟩, n1, n2⟩
/-- something is asked -/
theorem GoneO.ask (h : GoneO H W l cd ad il rs al x) {p : Addr} {s : Spot} {ps : List Addr} (hl : H l = some (.lst (ps.map V.ref))) (hp : SpO H p s) : GoneO (L2.upd H l (.lst (ps.map V.ref ++ [V.ref p]))) W l cd ad il rs al (x.1, x.2.1 ++ [s], x.2.2) := by
  obtain ⟨⟨ev, h1, h2⟩, ⟨ps', h3, h4⟩, ⟨kc, h5, h6⟩, ⟨ka, h7, h8⟩, ⟨is, h9, h10⟩, n1, n2⟩ := h
  have ep : ps'.map V.ref = ps.map V.ref := HO.lst.inj (Option.some.inj (h3.symm.trans hl))
  obtain rfl : ps' = ps := (List.map_inj_right (fun a b z => V.ref.inj z)).mp ep
  have k : ∀ {c o}, H c = some o → (∀ ms, o ≠ .lst ms) → (L2.upd H l (.lst (ps'.map V.ref ++ [V.ref p]))) c = some o := fun {c o} q n => by
    rw [upd_ne (fun z => by rw [z, hl] at q; exact n _ (Option.some.inj q).symm)]; exact q
  have kt : ∀ c xs, H c = some (.tup xs) → (L2.upd H l (.lst (ps'.map V.ref ++ [V.ref p]))) c = some (.tup xs) := fun c xs q => k q fun _ z => nomatch z
  exact ⟨⟨ev, k h1 (fun _ z => nomatch z), h2.keep kt⟩, ⟨ps' ++ [p], by rw [upd_same, List.map_append]; rfl, K3.Paired.app (L2.Paired.mapP h4 fun _ _ z => kt _ _ z) (.cons (kt _ _ hp) .nil)⟩, ⟨kc, k h5 (fun _ z => nomatch z), h6.keep kt⟩, ⟨ka, k h7 (fun _ z => nomatch z), h8.keep kt⟩, ⟨is, by rw [upd_ne n2]; exact h9, h10⟩, n1, n2⟩
/-- an answer counts -/
theorem GoneO.put (h : GoneO H W l cd ad il rs al x) {s : Spot} {v : V} {a : An} {kc : List (List Key × V)} (hc : H cd = some (.dT kc)) (hv : AnO H v a) (ok : a.ok) : GoneO (L2.upd H cd (.dT (putK kc (keyOf s) v))) W l cd ad il rs al (x.1, x.2.1, putA x.2.2 s a) := by
  obtain ⟨⟨ev, h1, h2⟩, ⟨ps, h3, h4⟩, ⟨kc', h5, h6⟩, ⟨ka, h7, h8⟩, ⟨is, h9, h10⟩, n1, n2⟩ := h
  obtain rfl : kc' = kc := HO.dT.inj (Option.some.inj (h5.symm.trans hc))
  have k : ∀ {c o}, H c = some o → (∀ ms, o ≠ .dT ms) → (L2.upd H cd (.dT (putK kc' (keyOf s) v))) c = some o := fun {c o} q n => by
    rw [upd_ne (fun z => by rw [z, hc] at q; exact n _ (Option.some.inj q).symm)]; exact q
  have kt : ∀ c xs, H c = some (.tup xs) → (L2.upd H cd (.dT (putK kc' (keyOf s) v))) c = some (.tup xs) := fun c xs q => k q fun _ z => nomatch z
  exact ⟨⟨ev, k h1 (fun _ z => nomatch z), h2.keep kt⟩, ⟨ps, k h3 (fun _ z => nomatch z), L2.Paired.mapP h4 fun _ _ z => kt _ _ z⟩, ⟨_, upd_same, AD.keep kt ⟨en_put h6.ents hv ok, put_nd h6.nd⟩⟩, ⟨ka, by rw [upd_ne n1]; exact h7, h8.keep kt⟩, ⟨is, k h9 (fun _ z => nomatch z), h10⟩, n1, n2⟩
end
/-! what a walk does from a state on -/
def goneR (rs : List Rw) (al : Ans) (us : List Rw) (k : Int) (x : Rs) : Rs := if x.1.isSome = true then x else wRows rs al us k x.2.1 x.2.2
def goneI (f : Int → Rs → Rs) : Nat → Int → Rs → Rs
  | 0, _, x => x
  | n + 1, k, x => goneI f n (k + 1) (f k x)
theorem goneI_zero {f : Int → Rs → Rs} {k : Int} {x : Rs} : goneI f 0 k x = x := rfl
theorem goneI_succ {f : Int → Rs → Rs} {n : Nat} {k : Int} {x : Rs} : goneI f (n + 1) k x = goneI f n (k + 1) (f k x) := rfl
theorem goneR_some {rs : List Rw} {al : Ans} {us : List Rw} {k : Int} {x : Rs} (h : x.1.isSome = true) : goneR rs al us k x = x := if_pos h
theorem goneR_none {rs : List Rw} {al : Ans} {us : List Rw} {k : Int} {sp : List Spot} {cl : Ans} : goneR rs al us k (none, sp, cl) = wRows rs al us k sp cl := if_neg Bool.false_ne_true
theorem goneR_nil {rs : List Rw} {al : Ans} {k : Int} {x : Rs} : goneR rs al [] k x = x := by
  obtain ⟨e, sp, cl⟩ := x
  cases e with
  | none => rw [goneR_none]; unfold wRows; rfl
  | some e => exact goneR_some rfl
theorem goneR_skip {rs : List Rw} {al cl : Ans} {r : Rw} {us : List Rw} {k : Int} {sp : List Spot} (h : whF rs cl k r.wh = false) : goneR rs al (r :: us) k (none, sp, cl) = goneR rs al us k (none, sp, cl) := by
  rw [goneR_none, goneR_none, rows_skip h]
theorem goneR_go {rs : List Rw} {al cl : Ans} {r : Rw} {us : List Rw} {k : Int} {sp : List Spot} (h : whF rs cl k r.wh = true) : goneR rs al (r :: us) k (none, sp, cl) = goneR rs al us k (wRow rs al r k sp cl) := by
  rw [goneR_none]
  cases he : (wRow rs al r k sp cl).1 with
  | some e => rw [rows_some h he, goneR_some (by rw [he]; rfl)]
  | none =>
    rw [rows_none h he]
    have : wRow rs al r k sp cl = (none, (wRow rs al r k sp cl).2.1, (wRow rs al r k sp cl).2.2) := by rw [← he]
    rw [this, goneR_none]
theorem goneI_some {rs : List Rw} {al : Ans} {us : List Rw} {x : Rs} (h : x.1.isSome = true) : ∀ (n : Nat) (k : Int), goneI (fun k x => goneR rs al us k x) n k x = x
  | 0, _ => rfl
  | n + 1, k => by unfold goneI; rw [goneR_some h, goneI_some h n (k + 1)]
theorem goneI_iter {rs : List Rw} {al : Ans} {us : List Rw} : ∀ (n : Nat) (k : Int) (sp : List Spot) (cl : Ans), goneI (fun k x => goneR rs al us k x) n k (none, sp, cl) = iterW (fun k sp cl => wRows rs al us k sp cl) n k sp cl
  | 0, _, _, _ => rfl
  | n + 1, k, sp, cl => by
    unfold goneI
    rw [goneR_none]
    cases he : (wRows rs al us k sp cl).1 with
    | some e =>
      rw [iter_some (f := fun k sp cl => wRows rs al us k sp cl) he, goneI_some (by rw [he]; rfl)]
    | none =>
      rw [iter_none (f := fun k sp cl => wRows rs al us k sp cl) he, ← goneI_iter n (k + 1)]
      have : wRows rs al us k sp cl = (none, (wRows rs al us k sp cl).2.1, (wRows rs al us k sp cl).2.2) := by rw [← he]
      rw [← this]
theorem goneR_step {rs : List Rw} {al : Ans} {us : List Rw} {k : Int} {x : Rs} (h : WTs rs us) : Step rs x.2.1 x.2.2 (goneR rs al us k x) := by
  obtain ⟨e, sp, cl⟩ := x
  cases e with
  | none => rw [goneR_none]; exact step_rows h k sp cl
  | some e => rw [goneR_some rfl]; exact Step.refl
theorem goneI_step {rs : List Rw} {al : Ans} {us : List Rw} (h : WTs rs us) : ∀ (n : Nat) (k : Int) (x : Rs), Step rs x.2.1 x.2.2 (goneI (fun k x => goneR rs al us k x) n k x)
  | 0, _, x => by obtain ⟨e, sp, cl⟩ := x; exact Step.refl
  | n + 1, k, x => by unfold goneI; exact (goneR_step h).trans (goneI_step h n (k + 1) _)
end K3
end WK3_part
section WK4_part
set_option Elab.async false
set_option linter.all false
set_option maxRecDepth 100000
set_option maxHeartbeats 1000000
set_option pp.deepTerms true
open PySem PySem.Spec PyProof.Rows L2
/-- go on as far as nothing is open -/
local macro_rules | `(tactic| walk_at "go") => `(tactic| repeat (first
  | with_reducible refine w_seq ?_ | with_reducible refine w_next ?_ | with_reducible refine w_set ?_ | with_reducible refine w_drop ?_ | with_reducible refine w_ret ?_ | with_reducible refine w_retN ?_
  | with_reducible refine w_if ?_ | ((with_reducible refine' w_var ?hv ?_); (case hv => exact rfl)) | with_reducible refine w_c ?_ | with_reducible refine w_nil ?_ | with_reducible refine w_cons ?_ | with_reducible refine w_op ?_ | with_reducible refine w_un ?_
  | with_reducible refine w_test ?_ | with_reducible refine w_tB ?_ | with_reducible refine w_not ?_ | with_reducible refine w_and ?_ | with_reducible refine w_or ?_ | with_reducible refine w_bl ?_
  | with_reducible refine w_andV ?_ | with_reducible refine w_orV ?_ | with_reducible refine w_notV ?_ | with_reducible refine w_ifE ?_ | with_reducible refine w_chain ?_ | with_reducible refine w_i0 ?_
  | with_reducible refine w_call ?_ | with_reducible refine w_callS ?_ | with_reducible refine w_cB ?_ | with_reducible refine w_tup ?_ | with_reducible refine w_lst ?_ | with_reducible refine w_fldV ?_
  | with_reducible refine w_neF ?_ | with_reducible refine w_neT ?_ | with_reducible refine w_notN ?_ | with_reducible refine w_isN ?_ | with_reducible refine w_gname ?_ | with_reducible refine w_gsub ?_ | with_reducible refine w_asg ?_ | with_reducible refine w_sl ?_ | with_reducible refine w_noP ?_ | with_reducible refine w_int1 ?_ | with_reducible refine w_part ?_ | with_reducible refine w_meth ?_ | with_reducible refine w_din ?_ | with_reducible refine w_dnotin ?_ | with_reducible refine w_dgt ?_ | with_reducible refine w_dget1 ?_ | with_reducible refine w_dget2 ?_ | with_reducible refine w_dput ?_ | with_reducible refine w_yes ?_ | with_reducible refine w_nT ?_ | with_reducible refine w_nF ?_ | with_reducible refine w_iteT ?_ | with_reducible refine w_iteF ?_))
namespace K3
open LamX NdefX LamP
/-! ### _law_gone -/
def OptOk (rs : List Rw) : Prop := ∀ z r, formQ rs z = some r → r.opts.length ≤ 1000 ∧ ∀ o ∈ r.opts, PySem.PyData.strOk o = true
def spGone (T : List (Addr × Str)) (D N : Nat) (K : PySem.W.Frag) : Sp := fun vs H Q _ => ∃ (lr W l cd ad il : Addr) (k : Int) (xs : List V) (us rs : List Rw) (al : Ans) (x : Rs) (B : Hp), vs = [.ref lr, .ref W, .int k] ∧ B lr = some (.lst xs) ∧ DRs B xs us ∧ Bs B [W, l, cd] H ∧ Rws.dep us < N ∧ Rws.cds D us ∧ WTs rs us ∧ OptOk rs ∧
  GoneO H W l cd ad il rs al x ∧ Tabs T H ∧ GoodCl rs x.2.2 ∧ x.2.2.length ≤ x.2.1.length ∧ (goneR rs al us k x).2.1.length ≤ 9000 ∧ ∀ H', GX [W, l, cd] H H' → Tabs T H' → GoneO H' W l cd ad il rs al (goneR rs al us k x) → Q .non H'
theorem lamN : NdefX.ndefB (defScope s__law_gone) (lamS lam1) ["_law_w", "_law_k"] = true ∧ NdefX.ndefB (defScope s__law_gone) (lamS lam2) ["_law_w", "_law_k"] = true := ⟨by decide +kernel, by decide +kernel⟩
theorem drLast {B : Hp} {v : V} {r : Rw} (h : DR B v r) : ∃ (t : Addr) (ys : List V) (wv : V), v = .ref t ∧ B t = some (.tup ys) ∧ atI ys (-1) = some wv ∧ DW B wv r.wh := by
  cases h with
  | one h _ w => exact ⟨_, _, _, rfl, h, rfl, w⟩
  | some h _ w => exact ⟨_, _, _, rfl, h, rfl, w⟩
  | number h w => exact ⟨_, _, _, rfl, h, rfl, w⟩
  | check h _ w => exact ⟨_, _, _, rfl, h, rfl, w⟩
  | sect h _ _ w => exact ⟨_, _, _, rfl, h, rfl, w⟩
  | rounds h _ _ w => exact ⟨_, _, _, rfl, h, rfl, w⟩
theorem dget5 {H : Hp} {W l cd ad il : Addr} {ev v : V} {z : Str} (h : H W = some (.dK (w5 l cd ev ad il))) (e : valV (w5 l cd ev ad il) (Sum.inr z) = some v) : DGet H W (.str z) (some v) := e ▸ DGet.k (k := Sum.inr z) h
section
variable {P : Program} {w : World} {K : PySem.W.Frag} {mg : Str → Option Value} {base : Heap}
theorem sc_gone : FnScope ["_law_rows", "_law_w", "_law_k", "_law_row", "_law_turn"] ["_law_rows", "_law_w", "_law_k"] (defScope s__law_gone) := ⟨rfl, rfl, rfl, by decide +kernel, rfl, by decide +kernel, by decide +kernel⟩
theorem ok_gone {cG PG : Addr} {TT : List (Addr × Str)} (T : Tx K mg) (B : Told K mg base "_law_gone" cG PG TT) (D : Nat) (hD0 : 0 < D) : ∀ N, Ok P w K mg base (D + 4 + N) (He.ga K "_law_gone") ["_law_rows", "_law_w", "_law_k"] (spGone TT D N K) := by
  obtain ⟨fd, F⟩ := T.f__law_gone
  obtain ⟨fdH, FH⟩ := T.f__law_holds
  have kpH := FH.kp
  have b : Binds K fd ["_law_rows", "_law_w", "_law_k"] [] := F.bindsN fun _ _ _ _ _ _ us hl => match us, hl with | [_, _, _], _ => rfl
  have O_law_fits := ok_fits (P := P) (w := w) (base := base) T
  intro N
  induction N with
  | zero => exact ⟨fd, ok_noneS fun vs H Q E ⟨_, _, _, _, _, _, _, _, _, _, _, _, _, _, _, _, _, h, _⟩ => absurd h (Nat.not_lt_zero _), b, F.kp⟩
  | succ N O_law_gone =>
  refine ⟨fd, F.okC (k := D + 4 + N) sc_gone (fun vs H Q E h => ?_) (fun A outer s_ H vs Q E hr h => ?_), b, F.kp⟩
  · obtain ⟨_, _, _, _, _, _, _, _, _, _, _, _, _, rfl, _⟩ := h
    rfl
  obtain ⟨lr, W, l, cd, ad, il, k, xs, us, rs, al, x, B0, rfl, hlr, hd, hB, dep, cds, wt, oo, hG, hT, good, lec, few, q⟩ := h
  have hu65 := K3.Room.units65 hr
  have hu0 := Nat.lt_of_le_of_lt (Nat.le_add_right _ 65) hu65
  have hu1 := Nat.lt_of_le_of_lt (Nat.add_le_add_left (show 1 ≤ 65 by decide) _) hu65
  have r_law_fits : Room 2 _ := hr.mono (by omega)
  have r_law_gone : Room (D + 4 + N) _ := hr
  refine ⟨_, pss_one (ps_for (passes_of rfl) (by rfl) (pi_list (pv 0)) (pg_name (i := 3) sc_gone.nd rfl (Or.inl rfl)) (pss_cons (ps_if (pt_cmp (pc_notN (pe_dget hu1 (pv 1) pe_str (fun _ _ => rfl)))) (pss_one ps_retN) pss_nil)
      (pss_cons (ps_if (pt_not (pt_val (pe_lamH (mkF := lamF lam1) (body := lamB lam1) (js := [1, 2]) (fun cl c => ok_law_holds T lam1 (.inl rfl) cl c D) (fun _ _ => rfl) (hr.mono (by omega)) rfl T.g__law_holds kpH B.tab B.code B.mem B.one rfl (ndef_free lamN.1) (ndef_fr lamN.1) rfl (pe_ix ix_tup (pv 3) (pe_un un_neg pe_int) (fun _ _ => rfl))))) (pss_one ps_continue) pss_nil)
      (pss_one (ps_if (pt_cmpR op_eq (pe_ix ix_tup (pv 3) pe_int (fun _ _ => rfl)) pe_str (nomark _)) (pss_one (ps_if (pt_not (pt_val (pe_lamH (mkF := lamF lam2) (body := lamB lam2) (js := [1, 2]) (fun cl c => ok_law_holds T lam2 (.inr rfl) cl c D) (fun _ _ => rfl) (hr.mono (by omega)) rfl T.g__law_holds kpH B.tab B.code B.mem B.one rfl (ndef_free lamN.2) (ndef_fr lamN.2) rfl (pe_ix ix_tup (pv 3) pe_int (fun _ _ => rfl))))) (pss_one (ps_dput hu1 (pv 1) pe_str (pe_tup (pa_cons pe_str (pa_cons (pe_tup (pa_cons (pe_ix ix_tup (pv 3) pe_int (fun _ _ => rfl)) (pa_cons (pv 2) pa_nil))) pa_nil))) rfl)) pss_nil)) (pss_one (ps_if (pt_cmpR op_eq (pe_ix ix_tup (pv 3) pe_int (fun _ _ => rfl)) pe_str (nomark _)) (pss_one (ps_expr (pe_f O_law_gone r_law_gone T.g__law_gone (pa_cons (pe_ix ix_tup (pv 3) pe_int (fun _ _ => rfl)) (pa_cons (pv 1) (pa_cons (pv 2) pa_nil)))))) (pss_one (ps_if (pt_cmpR op_eq (pe_ix ix_tup (pv 3) pe_int (fun _ _ => rfl)) pe_str (nomark _)) (pss_one (ps_for (passes_of rfl) (by rfl) (pi_range1 rfl T.z_range (pa_cons (pe_dget2 hu1 (pe_dget hu1 (pv 1) pe_str (fun _ _ => rfl)) (pe_tup (pa_cons (pe_ix ix_tup (pv 3) pe_int (fun _ _ => rfl)) (pa_cons pe_int pa_nil))) pe_int ⟨rfl, rfl, rfl, rfl⟩) pa_nil)) (pg_name (i := 4) sc_gone.nd rfl (Or.inl rfl)) (pss_one (ps_expr (pe_f O_law_gone r_law_gone T.g__law_gone (pa_cons (pe_ix ix_tup (pv 3) pe_int (fun _ _ => rfl)) (pa_cons (pv 1) (pa_cons (pe_op op_add (pv 4) pe_int) pa_nil)))))))) (pss_cons (ps_expr (pe_bm PySem.F.plainAttrs_list PySem.F.slot_list_append PySem.F.type_list_append mt_append (pe_dget hu1 (pv 1) pe_str (fun _ _ => rfl)) (pa_cons (pe_tup (pa_cons (pe_ix ix_tup (pv 3) pe_int (fun _ _ => rfl)) (pa_cons (pv 2) pa_nil))) pa_nil)))
      (pss_one (ps_if (pt_val (pe_f O_law_fits r_law_fits T.g__law_fits (pa_cons (pv 3) (pa_cons (pe_dget1 hu1 (pe_dget hu1 (pv 1) pe_str (fun _ _ => rfl)) (pe_tup (pa_cons (pe_ix ix_tup (pv 3) pe_int (fun _ _ => rfl)) (pa_cons (pv 2) pa_nil))) ⟨rfl, rfl, rfl, rfl⟩) pa_nil)))) (pss_one (ps_dput hu1 (pe_dget hu1 (pv 1) pe_str (fun _ _ => rfl)) (pe_tup (pa_cons (pe_ix ix_tup (pv 3) pe_int (fun _ _ => rfl)) (pa_cons (pv 2) pa_nil))) (pe_dget hu1 (pe_dget hu1 (pv 1) pe_str (fun _ _ => rfl)) (pe_tup (pa_cons (pe_ix ix_tup (pv 3) pe_int (fun _ _ => rfl)) (pa_cons (pv 2) pa_nil))) (fun _ _ => rfl)) rfl)) (pss_one (ps_dput hu1 (pv 1) pe_str (pe_tup (pa_cons pe_str (pa_cons (pe_tup (pa_cons (pe_ix ix_tup (pv 3) pe_int (fun _ _ => rfl)) (pa_cons (pv 2) pa_nil))) pa_nil))) rfl)))))))))))))), ?_⟩
  walk_at "go"
  have lxr : xs.length = us.length := hd.len
  refine list_open ?_
  walk_at "go"
  refine ⟨lr, rfl, ⟨_, SqL.of (hB _ _ hlr).1⟩, ?_⟩
  refine for_list (K := K) (a := lr) (xs := xs) (fun (j : Nat) σ H' => ∃ (o3 o4 : Option V) (x' : Rs), σ = [some (.ref lr), some (.ref W), some (.int k), o3, o4] ∧ GX [W, l, cd] H H' ∧ Tabs TT H' ∧ GoneO H' W l cd ad il rs al x' ∧ GoodCl rs x'.2.2 ∧ x'.2.2.length ≤ x'.2.1.length ∧ goneR rs al us k x = goneR rs al (us.drop j) k x')
    ⟨none, none, x, rfl, GX.refl, hT, hG, good, lec, rfl⟩ (fun j σ H' _ ⟨_, _, _, _, g, _⟩ => SqL.of (hB.gx g _ _ hlr).1) ?_ ?_
  · rintro j v σ H2 hj ⟨o3, o4, ⟨e, sp, cl⟩, rfl, g2, t2, hG2, good2, le2, eq2⟩
    obtain ⟨r, hjr, hdr⟩ := hd.getA hj
    obtain ⟨dr, cr, tr, trs, dq⟩ := rws_at hjr cds wt
    have hB2 := hB.gx g2
    obtain ⟨t, ys, wv, rfl, hty, hlast, hDW⟩ := drLast hdr
    rw [dq] at eq2 trs
    unfold WTs at trs
    obtain ⟨⟨ev, hW, hev⟩, _⟩ := id hG2
    walk_at "go"
    refine ⟨W, _, rfl, dget5 hW w5_end, ?_⟩
    cases e with
    | some e =>
      rw [show decide (ev = V.non) = false by obtain ⟨_, _, z, _⟩ := hev; rw [z]; exact decide_eq_false fun z => nomatch z]
      walk_at "go"
      exact q H2 g2 t2 (by rw [eq2, goneR_some rfl]; exact hG2)
    | none =>
      obtain rfl : ev = .non := hev
      rw [decide_eq_true rfl]
      walk_at "go"
      unfold tLamH
      walk_at "go"
      refine ⟨1, rfl, ?_⟩
      refine w_ixT (SqT.of (hB2 _ _ hty).1) hlast ?_
      refine ⟨t2, fun H3 c' e3 t3 hc3 => ⟨W, k, wv, r.wh, rs, cl, rfl, rfl, hDW.same (hB.gx (g2.trans (GX.xn e3))).same, ?_, fun c hc => fit_of good2 (wt_wh tr hc), (hG2.xn e3).st, fun H4 e4 => ?_⟩⟩
      · cases hc : r.wh with
        | none => exact hD0
        | some c => exact cds_wh cr hc
      have g4 := g2.trans ((GX.xn e3).trans (GX.of e4))
      have t4 := tabs_same t3 e4
      have hG4 := (hG2.xn e3).same e4
      have hB4 := hB.gx g4
      refine ⟨_, rfl, ?_⟩
      cases hw : whF rs cl k r.wh with
      | false =>
        walk_at "go"
        exact ⟨_, _, (none, sp, cl), rfl, g4, t4, hG4, good2, le2, eq2.trans (goneR_skip hw)⟩
      | true =>
        have eq4 := eq2.trans (goneR_go hw)
        have sF := step_row (al := al) tr k sp cl
        have fwr : (wRow rs al r k sp cl).2.1.length ≤ 9000 := by
          rw [eq4] at few
          exact Nat.le_trans (goneR_step trs.2).up few
        walk_at "go"
        have hdr0 := hdr
        cases hdr with
        | @check t n mv m w2 wv2 h hm hw2 =>
          have hh := (hB4 _ _ h).1
          walk_at "go"
          refine w_ixT (SqT.of hh) rfl ?_
          walk_at "go"
          refine w_sEA true (by decide +kernel) ?_
          refine ⟨_, rfl, ?_⟩
          rw [if_pos rfl]
          walk_at "go"
          refine w_ixT (SqT.of hh) rfl ?_
          have hcm : WTc rs m := by unfold WTr at tr; exact tr.2
          have cm : m.dep < D := by unfold Rw.cds at cr; exact cr.1
          refine ⟨t4, fun H5 c5 e5 t5 hc5 => ⟨W, k, mv, some m, rs, cl, rfl, rfl, .some (hm.same (hB.gx (g4.trans (GX.xn e5))).same), cm, fun c z => by cases z; exact fit_of good2 hcm, (hG4.xn e5).st, fun H6 e6 => ?_⟩⟩
          have g6 := g4.trans ((GX.xn e5).trans (GX.of e6))
          have t6 := tabs_same t5 e6
          have hG6 := (hG4.xn e5).same e6
          have ew : wRow rs al (.check n m w2) k sp cl = ((if evC rs cl k m = true then none else some (("barred", (n, k)) : Str × Spot), sp, cl) : Rs) := by unfold wRow; rfl
          rw [ew] at eq4
          refine ⟨_, rfl, ?_⟩
          cases hm2 : whF rs cl k (some m) with
          | true =>
            rw [if_pos (show evC rs cl k m = true from hm2)] at eq4
            walk_at "go"
            exact ⟨_, _, (none, sp, cl), rfl, g6, t6, hG6, good2, le2, eq4⟩
          | false =>
            rw [if_neg (show ¬ evC rs cl k m = true from fun z => by rw [show evC rs cl k m = false from hm2] at z; cases z)] at eq4
            walk_at "go"
            refine w_ixT (SqT.of ((hB.gx g6) _ _ h).1) rfl ?_
            walk_at "go"
            refine ⟨(by show 2 ≤ sizeLine; decide), fun p hp => ?_⟩
            have e7 := Same.new hp (.tup [V.str n, V.int k])
            have p7 : (upd H6 p (.tup [V.str n, V.int k])) p = some (.tup [V.str n, V.int k]) := upd_same
            generalize upd H6 p (.tup [V.str n, V.int k]) = H7 at e7 p7 ⊢
            walk_at "go"
            refine ⟨(by show 2 ≤ sizeLine; decide), fun p2 hp2 => ?_⟩
            have e8 := Same.new hp2 (.tup [V.str "barred", V.ref p])
            have p8 : (upd H7 p2 (.tup [V.str "barred", V.ref p])) p2 = some (.tup [V.str "barred", V.ref p]) := upd_same
            generalize upd H7 p2 (.tup [V.str "barred", V.ref p]) = H8 at e8 p8 ⊢
            have hG8 := (hG6.same e7).same e8
            obtain ⟨⟨ev8, hW8, _⟩, _⟩ := id hG8
            walk_at "go"
            refine ⟨W, _, rfl, DPut.k (k := Sum.inr "end") hW8 (show 5 < sizeLine by decide), ?_⟩
            rw [w5_put]
            exact ⟨_, _, (some (("barred", (n, k)) : Str × Spot), sp, cl), rfl, (g6.trans (GX.of (e7.trans e8))).trans (GX.upd (List.mem_cons_self ..) _), tabs_upd (tabs_same t6 (e7.trans e8)) hW8 (fun _ z => nomatch z) (fun _ z => nomatch z) _, hG8.fin ⟨p2, p, rfl, p8, e8 _ _ p7⟩, good2, le2, eq4⟩
        | @sect t l2 zs vs w2 wv2 h hl2 hrs hw2 =>
          have hh := (hB4 _ _ h).1
          walk_at "go"
          refine w_ixT (SqT.of hh) rfl ?_
          walk_at "go"
          refine w_sEA false (by decide +kernel) ?_
          refine ⟨_, rfl, ?_⟩
          rw [if_neg Bool.false_ne_true]
          walk_at "go"
          refine w_ixT (SqT.of hh) rfl ?_
          walk_at "go"
          refine w_sEA true (by decide +kernel) ?_
          refine ⟨_, rfl, ?_⟩
          rw [if_pos rfl]
          walk_at "go"
          refine w_ixT (SqT.of hh) rfl ?_
          walk_at "go"
          have ew : wRow rs al (.sect vs w2) k sp cl = goneR rs al vs k (none, sp, cl) := by unfold wRow; exact goneR_none.symm
          rw [ew] at eq4 sF fwr
          unfold Rw.dep at dr
          unfold Rw.cds at cr
          unfold WTr at tr
          refine ⟨l2, W, l, cd, ad, il, k, zs, vs, rs, al, (none, sp, cl), B0, rfl, hl2, hrs, hB4, by omega, cr.1, tr.2, oo, hG4, t4, good2, le2, fwr, fun H5 g5 t5 hG5 => ?_⟩
          exact ⟨_, _, _, rfl, g4.trans g5, t5, hG5, sF.good good2, sF.le le2, eq4⟩
        | @rounds t l2 n zs vs w2 wv2 h hl2 hrs hw2 =>
          have hh := (hB4 _ _ h).1
          walk_at "go"
          refine w_ixT (SqT.of hh) rfl ?_
          walk_at "go"
          refine w_sEA false (by decide +kernel) ?_
          refine ⟨_, rfl, ?_⟩
          rw [if_neg Bool.false_ne_true]
          walk_at "go"
          refine w_ixT (SqT.of hh) rfl ?_
          walk_at "go"
          refine w_sEA false (by decide +kernel) ?_
          refine ⟨_, rfl, ?_⟩
          rw [if_neg Bool.false_ne_true]
          walk_at "go"
          refine w_ixT (SqT.of hh) rfl ?_
          walk_at "go"
          refine w_sEA true (by decide +kernel) ?_
          refine ⟨_, rfl, ?_⟩
          rw [if_pos rfl]
          walk_at "go"
          have wn : ∀ r, formQ rs n = some r → ∃ m lo hi w', r = .number m lo hi w' ∧ 0 ≤ lo ∧ hi ≤ 4 := by unfold WTr at tr; exact tr.2.2
          have wv : WTs rs vs := by unfold WTr at tr; exact tr.2.1
          have ew : wRow rs al (.rounds n vs w2) k sp cl = goneI (fun k x => goneR rs al vs k x) (timesF cl n) 1 (none, sp, cl) := by unfold wRow; exact (goneI_iter _ _ _ _).symm
          rw [ew] at eq4 sF fwr
          unfold Rw.dep at dr
          unfold Rw.cds at cr
          refine rng_open ?_
          walk_at "go"
          obtain ⟨⟨ev4, hW4, _⟩, _, ⟨kc4, hcd4, hC4⟩, _⟩ := id hG4
          refine ⟨W, _, rfl, dget5 hW4 w5_counted, cd, rfl, .inr ⟨_, .inl hcd4⟩, ?_⟩
          walk_at "go"
          refine w_ixT (SqT.of hh) rfl ?_
          walk_at "go"
          refine ⟨(by show 2 ≤ sizeLine; decide), fun p hp => ?_⟩
          have e5 := Same.new hp (.tup [V.str n, V.int 0])
          have p5 : (upd H4 p (.tup [V.str n, V.int 0])) p = some (.tup [V.str n, V.int 0]) := upd_same
          generalize upd H4 p (.tup [V.str n, V.int 0]) = H5 at e5 p5 ⊢
          obtain ⟨o, ho, han⟩ := look_opt (s := (n, 0)) (hC4.nt (Same.nt e5))
          walk_at "go"
          refine ⟨o, ho ▸ DGet.t (k := keyOf (n, 0)) (e5 _ _ hcd4) p5, ?_⟩
          obtain ⟨i, hoi, htm, i0, i1⟩ := times_of good2 wn han (fun hz => by
            have := en_val (s := (n, 0)) hC4.ents
            rw [hz] at this
            exact ho.symm.trans this)
          rw [hoi]
          walk_at "go"
          refine ⟨i, rfl, by omega, by omega, ?_⟩
          rw [← htm]
          generalize hM : timesF cl n = M at eq4 sF fwr ⊢
          generalize hF : (fun (k : Int) (x : Rs) => goneR rs al vs k x) = F at eq4 sF fwr
          have hFa : ∀ k x, F k x = goneR rs al vs k x := fun k x => by rw [← hF]
          have stI : ∀ (n : Nat) (k : Int) (x : Rs), Step rs x.2.1 x.2.2 (goneI F n k x) := fun n k x => by rw [← hF]; exact goneI_step wv n k x
          refine for_range (lo := 0) (n := M) (fun (jj : Nat) σ H' => ∃ (o4 : Option V) (x' : Rs), σ = [some (.ref lr), some (.ref W), some (.int k), some (.ref t), o4] ∧ GX [W, l, cd] H H' ∧ Tabs TT H' ∧ GoneO H' W l cd ad il rs al x' ∧ GoodCl rs x'.2.2 ∧ x'.2.2.length ≤ x'.2.1.length ∧ goneI F M 1 (none, sp, cl) = goneI F (M - jj) (1 + (jj : Int)) x')
            ⟨o4, (none, sp, cl), rfl, g4.trans (GX.of e5), tabs_same t4 e5, hG4.same e5, good2, le2, rfl⟩ ?_ ?_
          · rintro jj σ H6 hj6 ⟨o6, x6, rfl, g6, t6, hG6, good6, le6, eq6⟩
            rw [show M - jj = (M - (jj + 1)) + 1 by omega] at eq6
            rw [goneI_succ, hFa] at eq6
            have s6 := goneR_step (rs := rs) (al := al) (us := vs) (k := 1 + (jj : Int)) (x := x6) wv
            have few6 : (goneR rs al vs (1 + (jj : Int)) x6).2.1.length ≤ 9000 := by
              rw [eq6] at fwr
              exact Nat.le_trans (stI _ _ _).up fwr
            have hB6 := hB.gx g6
            walk_at "go"
            refine w_ixT (SqT.of (hB6 _ _ h).1) rfl ?_
            walk_at "go"
            rw [show ((0 : Int) + (jj : Int) + 1) = 1 + (jj : Int) by omega]
            refine ⟨l2, W, l, cd, ad, il, 1 + (jj : Int), zs, vs, rs, al, x6, B0, rfl, hl2, hrs, hB6, by omega, cr.1, wv, oo, hG6, t6, good6, le6, few6, fun H7 g7 t7 hG7 => ?_⟩
            exact ⟨_, _, rfl, g6.trans g7, t7, hG7, s6.good good6, s6.le le6, by rw [eq6, show (1 + (jj : Int)) + 1 = 1 + ((jj + 1 : Nat) : Int) by omega]⟩
          · rintro σ H6 ⟨o6, x6, rfl, g6, t6, hG6, good6, le6, eq6⟩
            rw [Nat.sub_self] at eq6
            rw [goneI_zero] at eq6
            walk_at "go"
            exact ⟨_, _, x6, rfl, g6, t6, hG6, good6, le6, by rw [eq4, eq6]⟩
        | @one t l2 n os w2 wv2 h hl2 hw2 =>
          have hh := (hB4 _ _ h).1
          walk_at "go"
          refine w_ixT (SqT.of hh) rfl ?_
          walk_at "go"
          refine w_sEA false (by decide +kernel) ?_
          refine ⟨_, rfl, ?_⟩
          rw [if_neg Bool.false_ne_true]
          walk_at "go"
          refine w_ixT (SqT.of hh) rfl ?_
          walk_at "go"
          refine w_sEA false (by decide +kernel) ?_
          refine ⟨_, rfl, ?_⟩
          rw [if_neg Bool.false_ne_true]
          walk_at "go"
          refine w_ixT (SqT.of hh) rfl ?_
          walk_at "go"
          refine w_sEA false (by decide +kernel) ?_
          refine ⟨_, rfl, ?_⟩
          rw [if_neg Bool.false_ne_true]
          walk_at "go"
          have ew : wRow rs al (Rw.one n os w2) k sp cl = wQ al (Rw.one n os w2) k sp cl := by unfold wRow; rfl
          rw [ew] at eq4 sF fwr
          have hfq : formQ rs n = some (Rw.one n os w2) := by unfold WTr at tr; exact tr.2
          obtain ⟨olen, ook⟩ := oo _ _ hfq
          have sp9 : sp.length ≤ 9000 := Nat.le_trans sF.up fwr
          obtain ⟨⟨ev4, hW4, _⟩, ⟨ps, hl4, hps4⟩, ⟨kc4, hcd4, hC4⟩, ⟨ka4, had4, hA4⟩, _, n1, n2⟩ := id hG4
          refine ⟨_, rfl, W, _, rfl, dget5 hW4 w5_asked, .inl ⟨rfl, _, SqL.of hl4⟩, ?_⟩
          walk_at "go"
          refine w_ixT (SqT.of hh) rfl ?_
          walk_at "go"
          refine ⟨(by show 2 ≤ sizeLine; decide), fun p hp => ?_⟩
          have e5 := Same.new hp (.tup [V.str n, V.int k])
          have p5 : (upd H4 p (.tup [V.str n, V.int k])) p = some (.tup [V.str n, V.int k]) := upd_same
          generalize upd H4 p (.tup [V.str n, V.int k]) = H5 at e5 p5 ⊢
          have hG5 := hG4.same e5
          walk_at "go"
          refine ⟨l, _, .ref p, rfl, rfl, e5 _ _ hl4, by rw [List.length_map, hps4.length]; exact Nat.lt_of_le_of_lt sp9 (by decide), ?_⟩
          have t6 := tabs_upd (tabs_same t4 e5) (e5 _ _ hl4) (fun _ z => nomatch z) (fun _ z => nomatch z) (.lst (ps.map V.ref ++ [V.ref p]))
          have g6 : GX [W, l, cd] H _ := (g4.trans (GX.of e5)).trans (GX.upd (List.mem_cons_of_mem _ (List.mem_cons_self ..)) (.lst (ps.map V.ref ++ [V.ref p])))
          have hG6 : GoneO (upd H5 l (.lst (ps.map V.ref ++ [V.ref p]))) W l cd ad il rs al (none, sp ++ [(n, k)], cl) := hG5.ask (e5 _ _ hl4) p5
          generalize upd H5 l (.lst (ps.map V.ref ++ [V.ref p])) = H6 at t6 g6 hG6 ⊢
          have hB6 := hB.gx g6
          obtain ⟨⟨ev6, hW6, _⟩, _, ⟨kc6, hcd6, hC6⟩, ⟨ka6, had6, hA6⟩, _⟩ := id hG6
          walk_at "go"
          refine ⟨W, _, rfl, dget5 hW6 w5_answers, ad, rfl, .inr ⟨_, .inl had6⟩, ?_⟩
          walk_at "go"
          refine w_ixT (SqT.of (hB6 _ _ h).1) rfl ?_
          walk_at "go"
          refine ⟨(by show 2 ≤ sizeLine; decide), fun p2 hp2 => ?_⟩
          have e7 := Same.new hp2 (.tup [V.str n, V.int k])
          have p7 : (upd H6 p2 (.tup [V.str n, V.int k])) p2 = some (.tup [V.str n, V.int k]) := upd_same
          generalize upd H6 p2 (.tup [V.str n, V.int k]) = H7 at e7 p7 ⊢
          obtain ⟨o, ho, han⟩ := look_opt (s := (n, k)) (hA6.nt (Same.nt e7))
          refine ⟨o, ho ▸ DGet.t (k := keyOf (n, k)) (e7 _ _ had6) p7, ?_⟩
          have hx : AnO H7 (o.getD .non) ((lookA al (n, k)).getD .non) ∧ ((lookA al (n, k)).getD .non).ok := by
            cases hk : lookA al (n, k) with
            | none => rw [hk] at han; have han : o.getD .non = .non := han; rw [han]; exact ⟨.non, trivial⟩
            | some x => rw [hk] at han; exact han
          have ewq : wQ al (Rw.one n os w2) k sp cl = if (Rw.one n os w2).ans ((lookA al (n, k)).getD .non) = true then (none, sp ++ [(n, k)], putA cl (n, k) ((lookA al (n, k)).getD .non)) else (some (("open", (n, k)) : Str × Spot), sp ++ [(n, k)], cl) := rfl
          rw [ewq] at eq4 sF
          refine ⟨_, o.getD .non, Rw.one n os w2, (lookA al (n, k)).getD .non, rfl, hdr0.same (hB.gx (g6.trans (GX.of e7))).same, rfl, hx.1, hx.2, olen, ook, fun H8 e8 => ?_⟩
          refine ⟨_, rfl, ?_⟩
          have g8 := g6.trans (GX.of (e7.trans e8))
          have t8 := tabs_same t6 (e7.trans e8)
          have hG8 := hG6.same (e7.trans e8)
          have hB8 := hB.gx g8
          obtain ⟨⟨ev8, hW8, _⟩, _, ⟨kc8, hcd8, hC8⟩, ⟨ka8, had8, hA8⟩, _⟩ := id hG8
          cases hb : (Rw.one n os w2).ans ((lookA al (n, k)).getD .non) with
          | false =>
            rw [hb, if_neg Bool.false_ne_true] at eq4 sF
            walk_at "go"
            refine w_ixT (SqT.of (hB8 _ _ h).1) rfl ?_
            walk_at "go"
            refine ⟨(by show 2 ≤ sizeLine; decide), fun p9 hp9 => ?_⟩
            have e9 := Same.new hp9 (.tup [V.str n, V.int k])
            have p9' : (upd H8 p9 (.tup [V.str n, V.int k])) p9 = some (.tup [V.str n, V.int k]) := upd_same
            generalize upd H8 p9 (.tup [V.str n, V.int k]) = H9 at e9 p9' ⊢
            walk_at "go"
            refine ⟨(by show 2 ≤ sizeLine; decide), fun p10 hp10 => ?_⟩
            have e10 := Same.new hp10 (.tup [V.str "open", V.ref p9])
            have p10' : (upd H9 p10 (.tup [V.str "open", V.ref p9])) p10 = some (.tup [V.str "open", V.ref p9]) := upd_same
            generalize upd H9 p10 (.tup [V.str "open", V.ref p9]) = H10 at e10 p10' ⊢
            have hG10 := (hG8.same e9).same e10
            obtain ⟨⟨ev10, hW10, _⟩, _⟩ := id hG10
            walk_at "go"
            refine ⟨W, _, rfl, DPut.k (k := Sum.inr "end") hW10 (show 5 < sizeLine by decide), ?_⟩
            rw [w5_put]
            exact ⟨_, _, (some (("open", (n, k)) : Str × Spot), sp ++ [(n, k)], cl), rfl, (g8.trans (GX.of (e9.trans e10))).trans (GX.upd (List.mem_cons_self ..) _), tabs_upd (tabs_same t8 (e9.trans e10)) hW10 (fun _ z => nomatch z) (fun _ z => nomatch z) _, hG10.fin ⟨p10, p9, rfl, p10', e10 _ _ p9'⟩, sF.good good2, sF.le le2, eq4⟩
          | true =>
            rw [hb, if_pos rfl] at eq4 sF
            walk_at "go"
            cases hk : lookA al (n, k) with
            | none =>
              rw [hk] at hb
              exact absurd (show false = true from hb) Bool.false_ne_true
            | some a =>
              rw [hk] at eq4 sF
              obtain ⟨v9, hv9, hav, hao⟩ : ∃ v, valV ka8 (keyOf (n, k)) = some v ∧ AnO H8 v a ∧ a.ok := by
                have := en_val (s := (n, k)) hA8.ents
                rw [hk] at this
                exact this
              refine ⟨W, _, rfl, dget5 hW8 w5_answers, ?_⟩
              walk_at "go"
              refine w_ixT (SqT.of (hB8 _ _ h).1) rfl ?_
              walk_at "go"
              refine ⟨(by show 2 ≤ sizeLine; decide), fun p9 hp9 => ?_⟩
              have e9 := Same.new hp9 (.tup [V.str n, V.int k])
              have p9' : (upd H8 p9 (.tup [V.str n, V.int k])) p9 = some (.tup [V.str n, V.int k]) := upd_same
              generalize upd H8 p9 (.tup [V.str n, V.int k]) = H9 at e9 p9' ⊢
              refine ⟨ad, v9, rfl, hv9 ▸ DGet.t (k := keyOf (n, k)) (e9 _ _ had8) p9', ?_⟩
              walk_at "go"
              refine ⟨W, _, rfl, dget5 (e9 _ _ hW8) w5_counted, ?_⟩
              walk_at "go"
              refine w_ixT (SqT.of (e9 _ _ (hB8 _ _ h).1)) rfl ?_
              walk_at "go"
              refine ⟨(by show 2 ≤ sizeLine; decide), fun p10 hp10 => ?_⟩
              have e10 := Same.new hp10 (.tup [V.str n, V.int k])
              have p10' : (upd H9 p10 (.tup [V.str n, V.int k])) p10 = some (.tup [V.str n, V.int k]) := upd_same
              generalize upd H9 p10 (.tup [V.str n, V.int k]) = H10 at e10 p10' ⊢
              have e8' := e9.trans e10
              have hG10 := hG8.same e8'
              have lms : kc8.length < sizeLine := by
                have := hC8.ents.length
                exact Nat.lt_of_le_of_lt (show kc8.length ≤ 9000 from this ▸ Nat.le_trans le2 sp9) (by decide)
              refine ⟨cd, _, rfl, DPut.t (k := keyOf (n, k)) (e8' _ _ hcd8) p10' lms, ?_⟩
              exact ⟨_, _, (none, sp ++ [(n, k)], putA cl (n, k) a), rfl, (g8.trans (GX.of e8')).trans (GX.upd (List.mem_cons_of_mem _ (List.mem_cons_of_mem _ (List.mem_cons_self ..))) _), tabs_upd (tabs_same t8 e8') (e8' _ _ hcd8) (fun _ z => nomatch z) (fun _ z => nomatch z) _, hG10.put (e8' _ _ hcd8) (hav.same e8') hao, sF.good good2, sF.le le2, eq4⟩
        | @some t l2 n os w2 wv2 h hl2 hw2 =>
          have hh := (hB4 _ _ h).1
          walk_at "go"
          refine w_ixT (SqT.of hh) rfl ?_
          walk_at "go"
          refine w_sEA false (by decide +kernel) ?_
          refine ⟨_, rfl, ?_⟩
          rw [if_neg Bool.false_ne_true]
          walk_at "go"
          refine w_ixT (SqT.of hh) rfl ?_
          walk_at "go"
          refine w_sEA false (by decide +kernel) ?_
          refine ⟨_, rfl, ?_⟩
          rw [if_neg Bool.false_ne_true]
          walk_at "go"
          refine w_ixT (SqT.of hh) rfl ?_
          walk_at "go"
          refine w_sEA false (by decide +kernel) ?_
          refine ⟨_, rfl, ?_⟩
          rw [if_neg Bool.false_ne_true]
          walk_at "go"
          have ew : wRow rs al (Rw.some n os w2) k sp cl = wQ al (Rw.some n os w2) k sp cl := by unfold wRow; rfl
          rw [ew] at eq4 sF fwr
          have hfq : formQ rs n = some (Rw.some n os w2) := by unfold WTr at tr; exact tr.2
          obtain ⟨olen, ook⟩ := oo _ _ hfq
          have sp9 : sp.length ≤ 9000 := Nat.le_trans sF.up fwr
          obtain ⟨⟨ev4, hW4, _⟩, ⟨ps, hl4, hps4⟩, ⟨kc4, hcd4, hC4⟩, ⟨ka4, had4, hA4⟩, _, n1, n2⟩ := id hG4
          refine ⟨_, rfl, W, _, rfl, dget5 hW4 w5_asked, .inl ⟨rfl, _, SqL.of hl4⟩, ?_⟩
          walk_at "go"
          refine w_ixT (SqT.of hh) rfl ?_
          walk_at "go"
          refine ⟨(by show 2 ≤ sizeLine; decide), fun p hp => ?_⟩
          have e5 := Same.new hp (.tup [V.str n, V.int k])
          have p5 : (upd H4 p (.tup [V.str n, V.int k])) p = some (.tup [V.str n, V.int k]) := upd_same
          generalize upd H4 p (.tup [V.str n, V.int k]) = H5 at e5 p5 ⊢
          have hG5 := hG4.same e5
          walk_at "go"
          refine ⟨l, _, .ref p, rfl, rfl, e5 _ _ hl4, by rw [List.length_map, hps4.length]; exact Nat.lt_of_le_of_lt sp9 (by decide), ?_⟩
          have t6 := tabs_upd (tabs_same t4 e5) (e5 _ _ hl4) (fun _ z => nomatch z) (fun _ z => nomatch z) (.lst (ps.map V.ref ++ [V.ref p]))
          have g6 : GX [W, l, cd] H _ := (g4.trans (GX.of e5)).trans (GX.upd (List.mem_cons_of_mem _ (List.mem_cons_self ..)) (.lst (ps.map V.ref ++ [V.ref p])))
          have hG6 : GoneO (upd H5 l (.lst (ps.map V.ref ++ [V.ref p]))) W l cd ad il rs al (none, sp ++ [(n, k)], cl) := hG5.ask (e5 _ _ hl4) p5
          generalize upd H5 l (.lst (ps.map V.ref ++ [V.ref p])) = H6 at t6 g6 hG6 ⊢
          have hB6 := hB.gx g6
          obtain ⟨⟨ev6, hW6, _⟩, _, ⟨kc6, hcd6, hC6⟩, ⟨ka6, had6, hA6⟩, _⟩ := id hG6
          walk_at "go"
          refine ⟨W, _, rfl, dget5 hW6 w5_answers, ad, rfl, .inr ⟨_, .inl had6⟩, ?_⟩
          walk_at "go"
          refine w_ixT (SqT.of (hB6 _ _ h).1) rfl ?_
          walk_at "go"
          refine ⟨(by show 2 ≤ sizeLine; decide), fun p2 hp2 => ?_⟩
          have e7 := Same.new hp2 (.tup [V.str n, V.int k])
          have p7 : (upd H6 p2 (.tup [V.str n, V.int k])) p2 = some (.tup [V.str n, V.int k]) := upd_same
          generalize upd H6 p2 (.tup [V.str n, V.int k]) = H7 at e7 p7 ⊢
          obtain ⟨o, ho, han⟩ := look_opt (s := (n, k)) (hA6.nt (Same.nt e7))
          refine ⟨o, ho ▸ DGet.t (k := keyOf (n, k)) (e7 _ _ had6) p7, ?_⟩
          have hx : AnO H7 (o.getD .non) ((lookA al (n, k)).getD .non) ∧ ((lookA al (n, k)).getD .non).ok := by
            cases hk : lookA al (n, k) with
            | none => rw [hk] at han; have han : o.getD .non = .non := han; rw [han]; exact ⟨.non, trivial⟩
            | some x => rw [hk] at han; exact han
          have ewq : wQ al (Rw.some n os w2) k sp cl = if (Rw.some n os w2).ans ((lookA al (n, k)).getD .non) = true then (none, sp ++ [(n, k)], putA cl (n, k) ((lookA al (n, k)).getD .non)) else (some (("open", (n, k)) : Str × Spot), sp ++ [(n, k)], cl) := rfl
          rw [ewq] at eq4 sF
          refine ⟨_, o.getD .non, Rw.some n os w2, (lookA al (n, k)).getD .non, rfl, hdr0.same (hB.gx (g6.trans (GX.of e7))).same, rfl, hx.1, hx.2, olen, ook, fun H8 e8 => ?_⟩
          refine ⟨_, rfl, ?_⟩
          have g8 := g6.trans (GX.of (e7.trans e8))
          have t8 := tabs_same t6 (e7.trans e8)
          have hG8 := hG6.same (e7.trans e8)
          have hB8 := hB.gx g8
          obtain ⟨⟨ev8, hW8, _⟩, _, ⟨kc8, hcd8, hC8⟩, ⟨ka8, had8, hA8⟩, _⟩ := id hG8
          cases hb : (Rw.some n os w2).ans ((lookA al (n, k)).getD .non) with
          | false =>
            rw [hb, if_neg Bool.false_ne_true] at eq4 sF
            walk_at "go"
            refine w_ixT (SqT.of (hB8 _ _ h).1) rfl ?_
            walk_at "go"
            refine ⟨(by show 2 ≤ sizeLine; decide), fun p9 hp9 => ?_⟩
            have e9 := Same.new hp9 (.tup [V.str n, V.int k])
            have p9' : (upd H8 p9 (.tup [V.str n, V.int k])) p9 = some (.tup [V.str n, V.int k]) := upd_same
            generalize upd H8 p9 (.tup [V.str n, V.int k]) = H9 at e9 p9' ⊢
            walk_at "go"
            refine ⟨(by show 2 ≤ sizeLine; decide), fun p10 hp10 => ?_⟩
            have e10 := Same.new hp10 (.tup [V.str "open", V.ref p9])
            have p10' : (upd H9 p10 (.tup [V.str "open", V.ref p9])) p10 = some (.tup [V.str "open", V.ref p9]) := upd_same
            generalize upd H9 p10 (.tup [V.str "open", V.ref p9]) = H10 at e10 p10' ⊢
            have hG10 := (hG8.same e9).same e10
            obtain ⟨⟨ev10, hW10, _⟩, _⟩ := id hG10
            walk_at "go"
            refine ⟨W, _, rfl, DPut.k (k := Sum.inr "end") hW10 (show 5 < sizeLine by decide), ?_⟩
            rw [w5_put]
            exact ⟨_, _, (some (("open", (n, k)) : Str × Spot), sp ++ [(n, k)], cl), rfl, (g8.trans (GX.of (e9.trans e10))).trans (GX.upd (List.mem_cons_self ..) _), tabs_upd (tabs_same t8 (e9.trans e10)) hW10 (fun _ z => nomatch z) (fun _ z => nomatch z) _, hG10.fin ⟨p10, p9, rfl, p10', e10 _ _ p9'⟩, sF.good good2, sF.le le2, eq4⟩
          | true =>
            rw [hb, if_pos rfl] at eq4 sF
            walk_at "go"
            cases hk : lookA al (n, k) with
            | none =>
              rw [hk] at hb
              exact absurd (show false = true from hb) Bool.false_ne_true
            | some a =>
              rw [hk] at eq4 sF
              obtain ⟨v9, hv9, hav, hao⟩ : ∃ v, valV ka8 (keyOf (n, k)) = some v ∧ AnO H8 v a ∧ a.ok := by
                have := en_val (s := (n, k)) hA8.ents
                rw [hk] at this
                exact this
              refine ⟨W, _, rfl, dget5 hW8 w5_answers, ?_⟩
              walk_at "go"
              refine w_ixT (SqT.of (hB8 _ _ h).1) rfl ?_
              walk_at "go"
              refine ⟨(by show 2 ≤ sizeLine; decide), fun p9 hp9 => ?_⟩
              have e9 := Same.new hp9 (.tup [V.str n, V.int k])
              have p9' : (upd H8 p9 (.tup [V.str n, V.int k])) p9 = some (.tup [V.str n, V.int k]) := upd_same
              generalize upd H8 p9 (.tup [V.str n, V.int k]) = H9 at e9 p9' ⊢
              refine ⟨ad, v9, rfl, hv9 ▸ DGet.t (k := keyOf (n, k)) (e9 _ _ had8) p9', ?_⟩
              walk_at "go"
              refine ⟨W, _, rfl, dget5 (e9 _ _ hW8) w5_counted, ?_⟩
              walk_at "go"
              refine w_ixT (SqT.of (e9 _ _ (hB8 _ _ h).1)) rfl ?_
              walk_at "go"
              refine ⟨(by show 2 ≤ sizeLine; decide), fun p10 hp10 => ?_⟩
              have e10 := Same.new hp10 (.tup [V.str n, V.int k])
              have p10' : (upd H9 p10 (.tup [V.str n, V.int k])) p10 = some (.tup [V.str n, V.int k]) := upd_same
              generalize upd H9 p10 (.tup [V.str n, V.int k]) = H10 at e10 p10' ⊢
              have e8' := e9.trans e10
              have hG10 := hG8.same e8'
              have lms : kc8.length < sizeLine := by
                have := hC8.ents.length
                exact Nat.lt_of_le_of_lt (show kc8.length ≤ 9000 from this ▸ Nat.le_trans le2 sp9) (by decide)
              refine ⟨cd, _, rfl, DPut.t (k := keyOf (n, k)) (e8' _ _ hcd8) p10' lms, ?_⟩
              exact ⟨_, _, (none, sp ++ [(n, k)], putA cl (n, k) a), rfl, (g8.trans (GX.of e8')).trans (GX.upd (List.mem_cons_of_mem _ (List.mem_cons_of_mem _ (List.mem_cons_self ..))) _), tabs_upd (tabs_same t8 e8') (e8' _ _ hcd8) (fun _ z => nomatch z) (fun _ z => nomatch z) _, hG10.put (e8' _ _ hcd8) (hav.same e8') hao, sF.good good2, sF.le le2, eq4⟩
        | @number t n lo hi w2 wv2 h hw2 =>
          have hh := (hB4 _ _ h).1
          walk_at "go"
          refine w_ixT (SqT.of hh) rfl ?_
          walk_at "go"
          refine w_sEA false (by decide +kernel) ?_
          refine ⟨_, rfl, ?_⟩
          rw [if_neg Bool.false_ne_true]
          walk_at "go"
          refine w_ixT (SqT.of hh) rfl ?_
          walk_at "go"
          refine w_sEA false (by decide +kernel) ?_
          refine ⟨_, rfl, ?_⟩
          rw [if_neg Bool.false_ne_true]
          walk_at "go"
          refine w_ixT (SqT.of hh) rfl ?_
          walk_at "go"
          refine w_sEA false (by decide +kernel) ?_
          refine ⟨_, rfl, ?_⟩
          rw [if_neg Bool.false_ne_true]
          walk_at "go"
          have ew : wRow rs al (Rw.number n lo hi w2) k sp cl = wQ al (Rw.number n lo hi w2) k sp cl := by unfold wRow; rfl
          rw [ew] at eq4 sF fwr
          have hfq : formQ rs n = some (Rw.number n lo hi w2) := by unfold WTr at tr; exact tr.2
          obtain ⟨olen, ook⟩ := oo _ _ hfq
          have sp9 : sp.length ≤ 9000 := Nat.le_trans sF.up fwr
          obtain ⟨⟨ev4, hW4, _⟩, ⟨ps, hl4, hps4⟩, ⟨kc4, hcd4, hC4⟩, ⟨ka4, had4, hA4⟩, _, n1, n2⟩ := id hG4
          refine ⟨_, rfl, W, _, rfl, dget5 hW4 w5_asked, .inl ⟨rfl, _, SqL.of hl4⟩, ?_⟩
          walk_at "go"
          refine w_ixT (SqT.of hh) rfl ?_
          walk_at "go"
          refine ⟨(by show 2 ≤ sizeLine; decide), fun p hp => ?_⟩
          have e5 := Same.new hp (.tup [V.str n, V.int k])
          have p5 : (upd H4 p (.tup [V.str n, V.int k])) p = some (.tup [V.str n, V.int k]) := upd_same
          generalize upd H4 p (.tup [V.str n, V.int k]) = H5 at e5 p5 ⊢
          have hG5 := hG4.same e5
          walk_at "go"
          refine ⟨l, _, .ref p, rfl, rfl, e5 _ _ hl4, by rw [List.length_map, hps4.length]; exact Nat.lt_of_le_of_lt sp9 (by decide), ?_⟩
          have t6 := tabs_upd (tabs_same t4 e5) (e5 _ _ hl4) (fun _ z => nomatch z) (fun _ z => nomatch z) (.lst (ps.map V.ref ++ [V.ref p]))
          have g6 : GX [W, l, cd] H _ := (g4.trans (GX.of e5)).trans (GX.upd (List.mem_cons_of_mem _ (List.mem_cons_self ..)) (.lst (ps.map V.ref ++ [V.ref p])))
          have hG6 : GoneO (upd H5 l (.lst (ps.map V.ref ++ [V.ref p]))) W l cd ad il rs al (none, sp ++ [(n, k)], cl) := hG5.ask (e5 _ _ hl4) p5
          generalize upd H5 l (.lst (ps.map V.ref ++ [V.ref p])) = H6 at t6 g6 hG6 ⊢
          have hB6 := hB.gx g6
          obtain ⟨⟨ev6, hW6, _⟩, _, ⟨kc6, hcd6, hC6⟩, ⟨ka6, had6, hA6⟩, _⟩ := id hG6
          walk_at "go"
          refine ⟨W, _, rfl, dget5 hW6 w5_answers, ad, rfl, .inr ⟨_, .inl had6⟩, ?_⟩
          walk_at "go"
          refine w_ixT (SqT.of (hB6 _ _ h).1) rfl ?_
          walk_at "go"
          refine ⟨(by show 2 ≤ sizeLine; decide), fun p2 hp2 => ?_⟩
          have e7 := Same.new hp2 (.tup [V.str n, V.int k])
          have p7 : (upd H6 p2 (.tup [V.str n, V.int k])) p2 = some (.tup [V.str n, V.int k]) := upd_same
          generalize upd H6 p2 (.tup [V.str n, V.int k]) = H7 at e7 p7 ⊢
          obtain ⟨o, ho, han⟩ := look_opt (s := (n, k)) (hA6.nt (Same.nt e7))
          refine ⟨o, ho ▸ DGet.t (k := keyOf (n, k)) (e7 _ _ had6) p7, ?_⟩
          have hx : AnO H7 (o.getD .non) ((lookA al (n, k)).getD .non) ∧ ((lookA al (n, k)).getD .non).ok := by
            cases hk : lookA al (n, k) with
            | none => rw [hk] at han; have han : o.getD .non = .non := han; rw [han]; exact ⟨.non, trivial⟩
            | some x => rw [hk] at han; exact han
          have ewq : wQ al (Rw.number n lo hi w2) k sp cl = if (Rw.number n lo hi w2).ans ((lookA al (n, k)).getD .non) = true then (none, sp ++ [(n, k)], putA cl (n, k) ((lookA al (n, k)).getD .non)) else (some (("open", (n, k)) : Str × Spot), sp ++ [(n, k)], cl) := rfl
          rw [ewq] at eq4 sF
          refine ⟨_, o.getD .non, Rw.number n lo hi w2, (lookA al (n, k)).getD .non, rfl, hdr0.same (hB.gx (g6.trans (GX.of e7))).same, rfl, hx.1, hx.2, olen, ook, fun H8 e8 => ?_⟩
          refine ⟨_, rfl, ?_⟩
          have g8 := g6.trans (GX.of (e7.trans e8))
          have t8 := tabs_same t6 (e7.trans e8)
          have hG8 := hG6.same (e7.trans e8)
          have hB8 := hB.gx g8
          obtain ⟨⟨ev8, hW8, _⟩, _, ⟨kc8, hcd8, hC8⟩, ⟨ka8, had8, hA8⟩, _⟩ := id hG8
          cases hb : (Rw.number n lo hi w2).ans ((lookA al (n, k)).getD .non) with
          | false =>
            rw [hb, if_neg Bool.false_ne_true] at eq4 sF
            walk_at "go"
            refine w_ixT (SqT.of (hB8 _ _ h).1) rfl ?_
            walk_at "go"
            refine ⟨(by show 2 ≤ sizeLine; decide), fun p9 hp9 => ?_⟩
            have e9 := Same.new hp9 (.tup [V.str n, V.int k])
            have p9' : (upd H8 p9 (.tup [V.str n, V.int k])) p9 = some (.tup [V.str n, V.int k]) := upd_same
            generalize upd H8 p9 (.tup [V.str n, V.int k]) = H9 at e9 p9' ⊢
            walk_at "go"
            refine ⟨(by show 2 ≤ sizeLine; decide), fun p10 hp10 => ?_⟩
            have e10 := Same.new hp10 (.tup [V.str "open", V.ref p9])
            have p10' : (upd H9 p10 (.tup [V.str "open", V.ref p9])) p10 = some (.tup [V.str "open", V.ref p9]) := upd_same
            generalize upd H9 p10 (.tup [V.str "open", V.ref p9]) = H10 at e10 p10' ⊢
            have hG10 := (hG8.same e9).same e10
            obtain ⟨⟨ev10, hW10, _⟩, _⟩ := id hG10
            walk_at "go"
            refine ⟨W, _, rfl, DPut.k (k := Sum.inr "end") hW10 (show 5 < sizeLine by decide), ?_⟩
            rw [w5_put]
            exact ⟨_, _, (some (("open", (n, k)) : Str × Spot), sp ++ [(n, k)], cl), rfl, (g8.trans (GX.of (e9.trans e10))).trans (GX.upd (List.mem_cons_self ..) _), tabs_upd (tabs_same t8 (e9.trans e10)) hW10 (fun _ z => nomatch z) (fun _ z => nomatch z) _, hG10.fin ⟨p10, p9, rfl, p10', e10 _ _ p9'⟩, sF.good good2, sF.le le2, eq4⟩
          | true =>
            rw [hb, if_pos rfl] at eq4 sF
            walk_at "go"
            cases hk : lookA al (n, k) with
            | none =>
              rw [hk] at hb
              exact absurd (show false = true from hb) Bool.false_ne_true
            | some a =>
              rw [hk] at eq4 sF
              obtain ⟨v9, hv9, hav, hao⟩ : ∃ v, valV ka8 (keyOf (n, k)) = some v ∧ AnO H8 v a ∧ a.ok := by
                have := en_val (s := (n, k)) hA8.ents
                rw [hk] at this
                exact this
              refine ⟨W, _, rfl, dget5 hW8 w5_answers, ?_⟩
              walk_at "go"
              refine w_ixT (SqT.of (hB8 _ _ h).1) rfl ?_
              walk_at "go"
              refine ⟨(by show 2 ≤ sizeLine; decide), fun p9 hp9 => ?_⟩
              have e9 := Same.new hp9 (.tup [V.str n, V.int k])
              have p9' : (upd H8 p9 (.tup [V.str n, V.int k])) p9 = some (.tup [V.str n, V.int k]) := upd_same
              generalize upd H8 p9 (.tup [V.str n, V.int k]) = H9 at e9 p9' ⊢
              refine ⟨ad, v9, rfl, hv9 ▸ DGet.t (k := keyOf (n, k)) (e9 _ _ had8) p9', ?_⟩
              walk_at "go"
              refine ⟨W, _, rfl, dget5 (e9 _ _ hW8) w5_counted, ?_⟩
              walk_at "go"
              refine w_ixT (SqT.of (e9 _ _ (hB8 _ _ h).1)) rfl ?_
              walk_at "go"
              refine ⟨(by show 2 ≤ sizeLine; decide), fun p10 hp10 => ?_⟩
              have e10 := Same.new hp10 (.tup [V.str n, V.int k])
              have p10' : (upd H9 p10 (.tup [V.str n, V.int k])) p10 = some (.tup [V.str n, V.int k]) := upd_same
              generalize upd H9 p10 (.tup [V.str n, V.int k]) = H10 at e10 p10' ⊢
              have e8' := e9.trans e10
              have hG10 := hG8.same e8'
              have lms : kc8.length < sizeLine := by
                have := hC8.ents.length
                exact Nat.lt_of_le_of_lt (show kc8.length ≤ 9000 from this ▸ Nat.le_trans le2 sp9) (by decide)
              refine ⟨cd, _, rfl, DPut.t (k := keyOf (n, k)) (e8' _ _ hcd8) p10' lms, ?_⟩
              exact ⟨_, _, (none, sp ++ [(n, k)], putA cl (n, k) a), rfl, (g8.trans (GX.of e8')).trans (GX.upd (List.mem_cons_of_mem _ (List.mem_cons_of_mem _ (List.mem_cons_self ..))) _), tabs_upd (tabs_same t8 e8') (e8' _ _ hcd8) (fun _ z => nomatch z) (fun _ z => nomatch z) _, hG10.put (e8' _ _ hcd8) (hav.same e8') hao, sF.good good2, sF.le le2, eq4⟩
  · rintro σ H2 ⟨o3, o4, x', rfl, g2, t2, hG2, good2, le2, eq2⟩
    rw [lxr, List.drop_length, goneR_nil] at eq2
    walk_at "go"
    exact q H2 g2 t2 (by rw [eq2]; exact hG2)
end
end K3
end WK4_part
section WK5_part
set_option Elab.async false
set_option linter.all false
set_option maxRecDepth 100000
set_option maxHeartbeats 1000000
set_option pp.deepTerms true
open PySem PySem.Spec PyProof.Rows L2
/-- go on as far as nothing is open -/
local macro_rules | `(tactic| walk_at "go") => `(tactic| repeat (first
  | with_reducible refine w_seq ?_ | with_reducible refine w_next ?_ | with_reducible refine w_set ?_ | with_reducible refine w_drop ?_ | with_reducible refine w_ret ?_ | with_reducible refine w_retN ?_
  | with_reducible refine w_if ?_ | ((with_reducible refine' w_var ?hv ?_); (case hv => exact rfl)) | with_reducible refine w_c ?_ | with_reducible refine w_nil ?_ | with_reducible refine w_cons ?_ | with_reducible refine w_op ?_ | with_reducible refine w_un ?_
  | with_reducible refine w_test ?_ | with_reducible refine w_tB ?_ | with_reducible refine w_not ?_ | with_reducible refine w_and ?_ | with_reducible refine w_or ?_ | with_reducible refine w_bl ?_
  | with_reducible refine w_andV ?_ | with_reducible refine w_orV ?_ | with_reducible refine w_notV ?_ | with_reducible refine w_ifE ?_ | with_reducible refine w_chain ?_ | with_reducible refine w_i0 ?_
  | with_reducible refine w_call ?_ | with_reducible refine w_callS ?_ | with_reducible refine w_cB ?_ | with_reducible refine w_tup ?_ | with_reducible refine w_lst ?_ | with_reducible refine w_fldV ?_
  | with_reducible refine w_neF ?_ | with_reducible refine w_neT ?_ | with_reducible refine w_notN ?_ | with_reducible refine w_isN ?_ | with_reducible refine w_gname ?_ | with_reducible refine w_gsub ?_ | with_reducible refine w_asg ?_ | with_reducible refine w_sl ?_ | with_reducible refine w_noP ?_ | with_reducible refine w_int1 ?_ | with_reducible refine w_part ?_ | with_reducible refine w_meth ?_ | with_reducible refine w_din ?_ | with_reducible refine w_dnotin ?_ | with_reducible refine w_dgt ?_ | with_reducible refine w_dget1 ?_ | with_reducible refine w_dget2 ?_ | with_reducible refine w_dput ?_ | with_reducible refine w_yes ?_ | with_reducible refine w_nT ?_ | with_reducible refine w_nF ?_ | with_reducible refine w_iteT ?_ | with_reducible refine w_iteF ?_))
namespace K3
open LamX NdefX LamP
/-! ### the names that stand in rounds -/
mutual
def Rw.insF : Rw → Bool → List Str
  | .one n _ _, b => if b = true then [n] else []
  | .some n _ _, b => if b = true then [n] else []
  | .number n _ _ _, b => if b = true then [n] else []
  | .check n _ _, b => if b = true then [n] else []
  | .sect us _, b => Rws.insF us b
  | .rounds _ us _, _ => Rws.insF us true
def Rws.insF : List Rw → Bool → List Str
  | [], _ => []
  | r :: us, b => Rw.insF r b ++ Rws.insF us b
end
mutual
def Rw.nck : Rw → Bool → Prop
  | .check _ _ _, b => b = false
  | .sect us _, b => Rws.nck us b
  | .rounds _ us _, _ => Rws.nck us true
  | _, _ => True
def Rws.nck : List Rw → Bool → Prop
  | [], _ => True
  | r :: us, b => Rw.nck r b ∧ Rws.nck us b
end
theorem insF_app : ∀ (us vs : List Rw) (b : Bool), Rws.insF (us ++ vs) b = Rws.insF us b ++ Rws.insF vs b
  | [], vs, b => by rw [List.nil_append, Rws.insF, List.nil_append]
  | r :: us, vs, b => by rw [List.cons_append, Rws.insF, Rws.insF, insF_app us vs, List.append_assoc]
theorem insF_one (r : Rw) (b : Bool) : Rws.insF [r] b = Rw.insF r b := by rw [Rws.insF, Rws.insF, List.append_nil]
theorem nck_app : ∀ (us vs : List Rw) (b : Bool), Rws.nck (us ++ vs) b ↔ Rws.nck us b ∧ Rws.nck vs b
  | [], vs, b => by rw [List.nil_append, Rws.nck]; exact ⟨fun h => ⟨trivial, h⟩, fun h => h.2⟩
  | r :: us, vs, b => by rw [List.cons_append, Rws.nck, Rws.nck, nck_app us vs]; exact ⟨fun ⟨a, b, c⟩ => ⟨⟨a, b⟩, c⟩, fun ⟨⟨a, b⟩, c⟩ => ⟨a, b, c⟩⟩
mutual
theorem Rw.insF_len : ∀ (r : Rw) (b : Bool), (Rw.insF r b).length ≤ r.cnt
  | .one n _ _, b => by rw [Rw.insF]; unfold Rw.cnt; split <;> simp
  | .some n _ _, b => by rw [Rw.insF]; unfold Rw.cnt; split <;> simp
  | .number n _ _ _, b => by rw [Rw.insF]; unfold Rw.cnt; split <;> simp
  | .check n _ _, b => by rw [Rw.insF]; unfold Rw.cnt; split <;> simp
  | .sect us _, b => by rw [Rw.insF, Rw.cnt]; have := Rws.insF_len us b; omega
  | .rounds _ us _, b => by rw [Rw.insF, Rw.cnt]; have := Rws.insF_len us true; omega
theorem Rws.insF_len : ∀ (us : List Rw) (b : Bool), (Rws.insF us b).length ≤ Rws.cnt us
  | [], b => by rw [Rws.insF]; exact Nat.zero_le _
  | r :: us, b => by rw [Rws.insF, Rws.cnt, List.length_append]; have := Rw.insF_len r b; have := Rws.insF_len us b; omega
end
theorem rep_app {F G : List (Rw × Option Nat)} {z : Str} : repB (F ++ G) z = (repB F z || repB G z) := List.any_append
theorem rep_one {r : Rw} {ar : Option Nat} {z : Str} : repB [(r, ar)] z = (r.isQ && (ar.isSome && decide (r.name = z))) := by
  unfold repB
  rw [List.any_cons, List.any_nil, Bool.or_false]
theorem mem_ifN {n z : Str} {b : Bool} : decide (z ∈ (if b = true then [n] else [])) = (b && decide (n = z)) := by
  cases b with
  | false => rfl
  | true =>
    rw [if_pos rfl, Bool.true_and]
    simp [eq_comm]
mutual
theorem Rw.ins_rep {z : Str} : ∀ (r : Rw) (b : Bool) (ar : Option Nat) (k : Nat), ar.isSome = b → Rw.nck r b → decide (z ∈ Rw.insF r b) = repB (r.flat ar k) z
  | .one n _ _, b, ar, k, h, c => by rw [Rw.insF, Rw.flat, rep_one, mem_ifN, h]; rfl
  | .some n _ _, b, ar, k, h, c => by rw [Rw.insF, Rw.flat, rep_one, mem_ifN, h]; rfl
  | .number n _ _ _, b, ar, k, h, c => by rw [Rw.insF, Rw.flat, rep_one, mem_ifN, h]; rfl
  | .check n _ _, b, ar, k, h, c => by rw [Rw.nck] at c; rw [Rw.insF, Rw.flat, rep_one, mem_ifN, c]; rfl
  | .sect us _, b, ar, k, h, c => by
    rw [Rw.nck] at c
    rw [Rw.insF, Rw.flat, Rws.ins_rep us b ar (k + 1) h c, show ∀ (x : Rw × Option Nat) l, x :: l = [x] ++ l from fun _ _ => rfl, rep_app, rep_one]
    rfl
  | .rounds _ us _, b, ar, k, h, c => by
    rw [Rw.nck] at c
    rw [Rw.insF, Rw.flat, Rws.ins_rep us true (some k) (k + 1) rfl c, show ∀ (x : Rw × Option Nat) l, x :: l = [x] ++ l from fun _ _ => rfl, rep_app, rep_one]
    rfl
theorem Rws.ins_rep {z : Str} : ∀ (us : List Rw) (b : Bool) (ar : Option Nat) (k : Nat), ar.isSome = b → Rws.nck us b → decide (z ∈ Rws.insF us b) = repB (Rws.flat us ar k) z
  | [], b, ar, k, h, c => by rw [Rws.insF, Rws.flat]; rfl
  | r :: us, b, ar, k, h, c => by
    rw [Rws.nck] at c
    rw [Rws.insF, Rws.flat, rep_app, ← Rw.ins_rep r b ar k h c.1, ← Rws.ins_rep us b ar (k + r.cnt) h c.2]
    simp
end
theorem ins_rd {rs : List Rw} (c : Rws.nck rs false) (z : Str) : decide (z ∈ Rws.insF rs false) = inRd rs z := Rws.ins_rep rs false none 0 rfl c
def spInside (n : Nat) (K : PySem.W.Frag) : Sp := fun vs H Q _ => ∃ (l : Addr) (xs : List V) (rs : List Rw) (b : Bool) (B : Hp), vs = [.ref l, .bl b] ∧ Same B H ∧ B l = some (.lst xs) ∧ DRs B xs rs ∧ Rws.dep rs < n ∧ Rws.cnt rs ≤ 1000 ∧ ∀ D H', H D = none → Same H H' → H' D = some (.lst ((Rws.insF rs b).map V.str)) → Q (.ref D) H'
section
variable {P : Program} {w : World} {K : PySem.W.Frag} {mg : Str → Option Value} {base : Heap}
theorem sc_inside : FnScope ["_law_rows", "_law_rounds", "_law_found", "_law_row"] ["_law_rows", "_law_rounds"] (defScope s__law_inside) := ⟨rfl, rfl, rfl, by decide +kernel, rfl, by decide +kernel, by decide +kernel⟩
theorem ok_inside (T : Tx K mg) (n : Nat) : Ok P w K mg base (n + 1) (He.ga K "_law_inside") ["_law_rows", "_law_rounds"] (spInside n K) := by
  obtain ⟨fd, F⟩ := T.f__law_inside
  have b : Binds K fd ["_law_rows", "_law_rounds"] [] := F.bindsN fun _ _ _ _ _ _ us hl => match us, hl with | [_, _], _ => rfl
  induction n with
  | zero => exact ⟨fd, ok_noneS fun vs H Q E ⟨_, _, _, _, _, _, _, _, _, h, _⟩ => absurd h (Nat.not_lt_zero _), b, F.kp⟩
  | succ n O_law_inside =>
    refine ⟨fd, F.ok (k := n + 1) sc_inside (fun vs H Q E h => ?_) (fun cdv A outer s_ H vs Q E hr h => ?_), b, F.kp⟩
    · obtain ⟨l, xs, rs, b, B, rfl, _⟩ := h
      rfl
    obtain ⟨l, xs, rs, bb, B, rfl, eB, hl, hd, hn, hc, q⟩ := h
    have r_law_inside := hr
    refine ⟨_, pss_cons (ps_set (i := 2) sc_inside.nd rfl (Or.inl rfl) (pe_lst pa_nil))
      (pss_cons (ps_for (passes_of rfl) (by rfl) (pi_list (pv 0)) (pg_name (i := 3) sc_inside.nd rfl (Or.inl rfl)) (pss_one (ps_if (pt_cmpR op_eq (pe_ix ix_tup (pv 3) pe_int (fun _ _ => rfl)) pe_str (nomark _)) (pss_one (ps_set (i := 2) sc_inside.nd rfl (Or.inl rfl) (pe_op op_cat (pv 2) (pe_f O_law_inside r_law_inside T.g__law_inside (pa_cons (pe_ix ix_tup (pv 3) pe_int (fun _ _ => rfl)) (pa_cons (pv 1) pa_nil)))))) (pss_one (ps_if (pt_cmpR op_eq (pe_ix ix_tup (pv 3) pe_int (fun _ _ => rfl)) pe_str (nomark _)) (pss_one (ps_set (i := 2) sc_inside.nd rfl (Or.inl rfl) (pe_op op_cat (pv 2) (pe_f O_law_inside r_law_inside T.g__law_inside (pa_cons (pe_ix ix_tup (pv 3) pe_int (fun _ _ => rfl)) (pa_cons pe_bl pa_nil)))))) (pss_one (ps_if (pt_val (pv 1)) (pss_one (ps_expr (pe_bm PySem.F.plainAttrs_list PySem.F.slot_list_append PySem.F.type_list_append mt_append (pv 2) (pa_cons (pe_ix ix_tup (pv 3) pe_int (fun _ _ => rfl)) pa_nil)))) pss_nil)))))))
      (pss_one (ps_ret (pv 2)))), ?_⟩
    walk_at "go"
    refine ⟨Nat.zero_le _, fun D hD => ?_⟩
    have e0 := Same.new hD (.lst [])
    have g0 : (upd H D (.lst [])) D = some (.lst []) := upd_same
    generalize upd H D (.lst []) = H0 at e0 g0 ⊢
    walk_at "go"
    refine list_open ?_
    walk_at "go"
    refine ⟨l, rfl, ⟨_, SqL.of (e0 _ _ (eB _ _ hl))⟩, ?_⟩
    refine for_list (K := K) (a := l) (xs := xs) (fun (i : Nat) σ H' => ∃ (D : Addr) (o2 : Option V), σ = [some (.ref l), some (.bl bb), some (.ref D), o2] ∧ Same H H' ∧ H D = none ∧ H' D = some (.lst ((Rws.insF (rs.take i) bb).map V.str)))
      ⟨D, none, rfl, e0, hD, by rw [List.take_zero, Rws.insF]; exact g0⟩ (fun i σ H' _ ⟨_, _, _, e, _⟩ => SqL.of (e _ _ (eB _ _ hl))) ?_ ?_
    · rintro i x σ H1 hx ⟨D, o2, rfl, e1, hD, g1⟩
      obtain ⟨r, hr1, hdr⟩ := hd.getA hx
      have rm := List.mem_of_getElem? hr1
      have tk : Rws.insF (rs.take (i + 1)) bb = Rws.insF (rs.take i) bb ++ Rw.insF r bb := by
        rw [List.take_add_one, hr1, insF_app]
        show _ ++ Rws.insF [r] bb = _
        rw [insF_one]
      have lys : (Rws.insF (rs.take i) bb).length ≤ 1000 := Nat.le_trans (Rws.insF_len _ _) (Nat.le_trans (cnt_takeA _ _) hc)
      rw [tk]
      walk_at "go"
      cases hdr with
      | @sect t l2 us ws w' wv h hl2 hrs hw =>
        have hh := e1 _ _ (eB _ _ h)
        refine w_ixT (SqT.of hh) rfl ?_
        walk_at "go"
        refine w_sEA true (by decide +kernel) ?_
        refine ⟨_, rfl, ?_⟩
        rw [if_pos rfl]
        walk_at "go"
        refine w_ixT (SqT.of hh) rfl ?_
        have hdp := dep_memA rm
        have hcm := cnt_memA rm
        rw [Rw.dep] at hdp
        rw [Rw.cnt] at hcm
        walk_at "go"
        refine ⟨l2, us, ws, bb, B, rfl, eB.trans e1, hl2, hrs, by omega, by omega, fun D3 H3 hD3 e3 g3 => ?_⟩
        have lz : (Rws.insF ws bb).length ≤ 1000 := by
          have := Rws.insF_len ws bb
          omega
        refine ⟨D, D3, _, _, rfl, rfl, e3 _ _ g1, g3, by rw [List.length_map, List.length_map]; exact Nat.le_trans (Nat.add_le_add lys lz) (by decide), fun D4 hD4 => ?_⟩
        have e13 := e1.trans e3
        refine ⟨D4, _, rfl, e13.trans (Same.new hD4 _), Same.freeA e13 hD4, ?_⟩
        rw [upd_same, Rw.insF, List.map_append]
      | @rounds t l2 n us ws w' wv h hl2 hrs hw =>
        have hh := e1 _ _ (eB _ _ h)
        refine w_ixT (SqT.of hh) rfl ?_
        walk_at "go"
        refine w_sEA false (by decide +kernel) ?_
        refine ⟨_, rfl, ?_⟩
        rw [if_neg Bool.false_ne_true]
        walk_at "go"
        refine w_ixT (SqT.of hh) rfl ?_
        walk_at "go"
        refine w_sEA true (by decide +kernel) ?_
        refine ⟨_, rfl, ?_⟩
        rw [if_pos rfl]
        walk_at "go"
        refine w_ixT (SqT.of hh) rfl ?_
        have hdp := dep_memA rm
        have hcm := cnt_memA rm
        rw [Rw.dep] at hdp
        rw [Rw.cnt] at hcm
        walk_at "go"
        refine ⟨l2, us, ws, true, B, rfl, eB.trans e1, hl2, hrs, by omega, by omega, fun D3 H3 hD3 e3 g3 => ?_⟩
        have lz : (Rws.insF ws true).length ≤ 1000 := by
          have := Rws.insF_len ws true
          omega
        refine ⟨D, D3, _, _, rfl, rfl, e3 _ _ g1, g3, by rw [List.length_map, List.length_map]; exact Nat.le_trans (Nat.add_le_add lys lz) (by decide), fun D4 hD4 => ?_⟩
        have e13 := e1.trans e3
        refine ⟨D4, _, rfl, e13.trans (Same.new hD4 _), Same.freeA e13 hD4, ?_⟩
        rw [upd_same, Rw.insF, List.map_append]
      | @one t l2 n os w' wv h hl2 hw =>
        have hh := e1 _ _ (eB _ _ h)
        refine w_ixT (SqT.of hh) rfl ?_
        walk_at "go"
        refine w_sEA false (by decide +kernel) ?_
        refine ⟨_, rfl, ?_⟩
        rw [if_neg Bool.false_ne_true]
        walk_at "go"
        refine w_ixT (SqT.of hh) rfl ?_
        walk_at "go"
        refine w_sEA false (by decide +kernel) ?_
        refine ⟨_, rfl, ?_⟩
        rw [if_neg Bool.false_ne_true]
        walk_at "go"
        cases bb with
        | false =>
          walk_at "go"
          refine ⟨D, _, rfl, e1, hD, ?_⟩
          rw [g1, Rw.insF, if_neg Bool.false_ne_true, List.append_nil]
        | true =>
          walk_at "go"
          refine ⟨_, rfl, .inl ⟨rfl, _, SqL.of g1⟩, ?_⟩
          walk_at "go"
          refine w_ixT (SqT.of hh) rfl ?_
          walk_at "go"
          refine ⟨D, _, _, rfl, rfl, g1, by rw [List.length_map]; exact Nat.lt_of_le_of_lt lys (by decide), ?_⟩
          refine ⟨D, _, rfl, e1.mut hD, hD, ?_⟩
          rw [upd_same, Rw.insF, if_pos rfl, List.map_append]
          rfl
      | @some t l2 n os w' wv h hl2 hw =>
        have hh := e1 _ _ (eB _ _ h)
        refine w_ixT (SqT.of hh) rfl ?_
        walk_at "go"
        refine w_sEA false (by decide +kernel) ?_
        refine ⟨_, rfl, ?_⟩
        rw [if_neg Bool.false_ne_true]
        walk_at "go"
        refine w_ixT (SqT.of hh) rfl ?_
        walk_at "go"
        refine w_sEA false (by decide +kernel) ?_
        refine ⟨_, rfl, ?_⟩
        rw [if_neg Bool.false_ne_true]
        walk_at "go"
        cases bb with
        | false =>
          walk_at "go"
          refine ⟨D, _, rfl, e1, hD, ?_⟩
          rw [g1, Rw.insF, if_neg Bool.false_ne_true, List.append_nil]
        | true =>
          walk_at "go"
          refine ⟨_, rfl, .inl ⟨rfl, _, SqL.of g1⟩, ?_⟩
          walk_at "go"
          refine w_ixT (SqT.of hh) rfl ?_
          walk_at "go"
          refine ⟨D, _, _, rfl, rfl, g1, by rw [List.length_map]; exact Nat.lt_of_le_of_lt lys (by decide), ?_⟩
          refine ⟨D, _, rfl, e1.mut hD, hD, ?_⟩
          rw [upd_same, Rw.insF, if_pos rfl, List.map_append]
          rfl
      | @number t n lo hi w' wv h hw =>
        have hh := e1 _ _ (eB _ _ h)
        refine w_ixT (SqT.of hh) rfl ?_
        walk_at "go"
        refine w_sEA false (by decide +kernel) ?_
        refine ⟨_, rfl, ?_⟩
        rw [if_neg Bool.false_ne_true]
        walk_at "go"
        refine w_ixT (SqT.of hh) rfl ?_
        walk_at "go"
        refine w_sEA false (by decide +kernel) ?_
        refine ⟨_, rfl, ?_⟩
        rw [if_neg Bool.false_ne_true]
        walk_at "go"
        cases bb with
        | false =>
          walk_at "go"
          refine ⟨D, _, rfl, e1, hD, ?_⟩
          rw [g1, Rw.insF, if_neg Bool.false_ne_true, List.append_nil]
        | true =>
          walk_at "go"
          refine ⟨_, rfl, .inl ⟨rfl, _, SqL.of g1⟩, ?_⟩
          walk_at "go"
          refine w_ixT (SqT.of hh) rfl ?_
          walk_at "go"
          refine ⟨D, _, _, rfl, rfl, g1, by rw [List.length_map]; exact Nat.lt_of_le_of_lt lys (by decide), ?_⟩
          refine ⟨D, _, rfl, e1.mut hD, hD, ?_⟩
          rw [upd_same, Rw.insF, if_pos rfl, List.map_append]
          rfl
      | @check t n mv m w' wv h hm hw =>
        have hh := e1 _ _ (eB _ _ h)
        refine w_ixT (SqT.of hh) rfl ?_
        walk_at "go"
        refine w_sEA false (by decide +kernel) ?_
        refine ⟨_, rfl, ?_⟩
        rw [if_neg Bool.false_ne_true]
        walk_at "go"
        refine w_ixT (SqT.of hh) rfl ?_
        walk_at "go"
        refine w_sEA false (by decide +kernel) ?_
        refine ⟨_, rfl, ?_⟩
        rw [if_neg Bool.false_ne_true]
        walk_at "go"
        cases bb with
        | false =>
          walk_at "go"
          refine ⟨D, _, rfl, e1, hD, ?_⟩
          rw [g1, Rw.insF, if_neg Bool.false_ne_true, List.append_nil]
        | true =>
          walk_at "go"
          refine ⟨_, rfl, .inl ⟨rfl, _, SqL.of g1⟩, ?_⟩
          walk_at "go"
          refine w_ixT (SqT.of hh) rfl ?_
          walk_at "go"
          refine ⟨D, _, _, rfl, rfl, g1, by rw [List.length_map]; exact Nat.lt_of_le_of_lt lys (by decide), ?_⟩
          refine ⟨D, _, rfl, e1.mut hD, hD, ?_⟩
          rw [upd_same, Rw.insF, if_pos rfl, List.map_append]
          rfl
    · rintro σ H1 ⟨D, o2, rfl, e1, hD, g1⟩
      rw [hd.len, List.take_length] at g1
      walk_at "go"
      exact q D H1 hD e1 g1
end
end K3
end WK5_part
section B20_part
set_option Elab.async false
set_option linter.all false
set_option maxRecDepth 100000
set_option maxHeartbeats 1000000
set_option pp.deepTerms true
open PySem PySem.Spec PyProof.Rows L2
/-- go on as far as nothing is open -/
local macro_rules | `(tactic| walk_at "go") => `(tactic| repeat (first
  | with_reducible refine w_seq ?_ | with_reducible refine w_next ?_ | with_reducible refine w_set ?_ | with_reducible refine w_drop ?_ | with_reducible refine w_ret ?_ | with_reducible refine w_retN ?_
  | with_reducible refine w_if ?_ | ((with_reducible refine' w_var ?hv ?_); (case hv => exact rfl)) | with_reducible refine w_c ?_ | with_reducible refine w_nil ?_ | with_reducible refine w_cons ?_ | with_reducible refine w_op ?_ | with_reducible refine w_un ?_
  | with_reducible refine w_test ?_ | with_reducible refine w_tB ?_ | with_reducible refine w_not ?_ | with_reducible refine w_and ?_ | with_reducible refine w_or ?_ | with_reducible refine w_bl ?_
  | with_reducible refine w_andV ?_ | with_reducible refine w_orV ?_ | with_reducible refine w_notV ?_ | with_reducible refine w_ifE ?_ | with_reducible refine w_chain ?_ | with_reducible refine w_i0 ?_
  | with_reducible refine w_call ?_ | with_reducible refine w_callS ?_ | with_reducible refine w_cB ?_ | with_reducible refine w_tup ?_ | with_reducible refine w_lst ?_ | with_reducible refine w_fldV ?_
  | with_reducible refine w_neF ?_ | with_reducible refine w_neT ?_ | with_reducible refine w_notN ?_ | with_reducible refine w_isN ?_ | with_reducible refine w_gname ?_ | with_reducible refine w_gsub ?_ | with_reducible refine w_asg ?_ | with_reducible refine w_sl ?_ | with_reducible refine w_noP ?_ | with_reducible refine w_int1 ?_ | with_reducible refine w_part ?_ | with_reducible refine w_yes ?_ | with_reducible refine w_nT ?_ | with_reducible refine w_nF ?_ | with_reducible refine w_iteT ?_ | with_reducible refine w_iteF ?_))
namespace L2
open PySem PySem.Spec PyProof.Rows
/-! ### tuples compared, item by item, in this very world -/
def EqP (prog : Program) (w : World) (A : Around) (s : Shared) (y x : Value) (b : Bool) : Prop := ∀ (E : Value → Shared → Prop) (Q : Bool → Shared → Prop), Q b s → wpAny (model prog w) A (eqBool y x) Q E s
theorem EqP.of {prog : Program} {w : World} {A : Around} {s : Shared} {y x : Value} {b : Bool} (h : SeqAt.EqAt A s y x b) : EqP prog w A s y x b := fun E Q hq => h prog w E Q hq
section
variable {prog : Program} {w : World} {A : Around} {E : Value → Shared → Prop} {s : Shared}
theorem tup_ne {a b : Addr} {xs ys : Array Value} {pairs : List ((Value × Value) × Bool)} {Q : Value → Shared → Prop} (hx : IsTup s.heap a xs) (hy : IsTup s.heap b ys) (hz : xs.toList.zip ys.toList = pairs.map (·.1)) (hl : xs.size = ys.size) (hu : A.units < cLine)
    (he : ∀ p ∈ pairs, EqP prog w A.in1 s p.1.1 p.1.2 p.2) (h : Q (.bool (!(pairs.all (·.2)))) s) : wpAny (model prog w) A (compareOp .NotEq (.ref a) (.ref b)) Q E s := by
  refine wpAny_richCompare_same_room (op := .NotEq) hx.typeIs hy.typeIs PySem.F.slot_tuple_ne (wpAny_call_entry PySem.F.slot_tuple_ne hx.typeIs PySem.F.entry_tuple_ne ?_ (PySem.F.args_tuple_ne_2 _ _)) hu
  show wpAny _ _ (isInstance (.ref b) (.type "tuple") >>= _) _ _ s
  refine wpAny_bind (wpAny_isInstance hy.typeIs isSubtype_tuple_tuple ?_)
  simp only [Bool.not_true, Bool.false_eq_true, if_false]
  refine wpAny_bind (tupleItemsOf_ hx (wpAny_bind (tupleItemsOf_ hy (wpAny_bind ?_))))
  refine wpAny_forIn_list _ (fun rest r s' => r.1 = none ∧ s' = s ∧ ∃ ps, rest = ps.map (·.1) ∧ (∀ p ∈ ps, p ∈ pairs) ∧ ps.all (·.2) = pairs.all (·.2)) _ ?_ ?_ _ _ ⟨rfl, rfl, pairs, hz, fun _ z => z, rfl⟩
  · rintro ⟨u, v⟩ rest r s' ⟨hr, rfl, ps, hps, sub, hall⟩
    cases ps with
    | nil => cases hps
    | cons p ps =>
      rw [List.map_cons] at hps
      obtain ⟨e1, e2⟩ := List.cons.inj hps
      have hp := he p (sub p (List.mem_cons_self ..))
      rw [← e1] at hp
      refine wpAny_bind (hp _ _ ?_)
      rw [List.all_cons] at hall
      cases hb : p.2 with
      | true =>
        simp only [Bool.not_true, Bool.false_eq_true, if_false]
        rw [hb, Bool.true_and] at hall
        exact wpAny_pure ⟨rfl, rfl, ps, e2, fun q hq => sub q (List.mem_cons_of_mem _ hq), hall⟩
      | false =>
        simp only [Bool.not_false, if_true]
        rw [hb, Bool.false_and] at hall
        rw [← hall] at h
        exact wpAny_bind (wpAny_pure (wpAny_pure (wpAny_pure ⟨_, rfl, (fun z => nomatch z), h⟩)))
  · rintro ⟨r1, r2⟩ s' ⟨hr, rfl, ps, hps, sub, hall⟩
    simp only at hr
    subst hr
    have hnil : ps = [] := List.map_eq_nil_iff.mp hps.symm
    subst hnil
    rw [← hall] at h
    refine wpAny_pure ⟨_, rfl, (fun z => nomatch z), ?_⟩
    show Q (.bool (xs.size != ys.size)) s'
    rw [hl]
    simpa using h
end
section
variable {X : Cx} {pins : List (Addr × Obj)} {σ : St} {H : Hp} {s : Shared}
theorem dict_pairB (B : Around) (hu : B.units + 1 + 64 < cLine) (I : Inv X pins σ H s) {a b : Addr} {ks ls : List (List Key × V)} {xs ys : List (List Key × PyData)} (ea : H a = some (.dT ks)) (eb : H b = some (.dT ls)) (ha : KD X.K H ks xs) (hb : KD X.K H ls ys) :
    ∃ us vs e, s.heap.DictOfH (tupleKind (mixKind X.prog X.w)) a us ∧ s.heap.DictOfH (tupleKind (mixKind X.prog X.w)) b vs ∧ (a == sysModules) = false ∧ (b == sysModules) = false ∧
      (∀ x ∈ us, ∀ p, atKey vs x.1 = some p → SeqAt.EqAt B.in1 s x.2.2 p.2 (e x.1)) ∧ (us.length == vs.length && us.all (chkH vs e)) = dSame xs ys := by
  obtain ⟨_, sa, us, ka, da⟩ := dt_of I.hok ea
  obtain ⟨_, sb, vs, kb, db⟩ := dt_of I.hok eb
  have pa := ents_at I ka ha
  have pb := ents_at I kb hb
  have ndu : (us.map (·.1)).Nodup := let ⟨_, _, _, _, _, _, _, _, n⟩ := da; n
  have la := pa.length
  have lb := pb.length
  let e : List Key → Bool := fun k => match lookD xs k, lookD ys k with
    | some d, some d' => PyData.eqv d d'
    | _, _ => false
  have self : ∀ x ∈ us, atKey us x.1 = some x.2 := fun x hx => by
    obtain ⟨i, hi⟩ := List.mem_iff_getElem?.mp hx
    exact atKey_of_get ndu hi
  refine ⟨us, vs, e, da, db, sa, sb, fun x hx p hp => ?_, ?_⟩
  · rcases ents_look pa x.1 with ⟨z, _⟩ | ⟨q, d, hq, hd, ⟨_, r1⟩, s1⟩
    · rw [self x hx] at z; cases z
    · rcases ents_look pb x.1 with ⟨z, _⟩ | ⟨q', d', hq', hd', ⟨_, r2⟩, s2⟩
      · rw [hp] at z; cases z
      · rw [self x hx] at hq
        rw [hp] at hq'
        cases hq
        cases hq'
        have : e x.1 = PyData.eqv d d' := by show (match lookD xs x.1, lookD ys x.1 with | some d, some d' => PyData.eqv d d' | _, _ => false) = _; rw [hd, hd']
        rw [this]
        exact PySem.W.keq_at r1 r2 s1 s2 (by omega)
  · unfold dSame
    rw [la, lb]
    congr 1
    have go : ∀ {us' : List (List Key × Addr × Value)} {xs' : List (List Key × PyData)}, Paired (EntAt X s) us' xs' → (∀ x ∈ us', x ∈ us) → (∀ y ∈ xs', y ∈ xs) → us'.all (chkH vs e) = xs'.all fun x => match lookD ys x.1 with
        | some d => PyData.eqv x.2 d
        | none => false := by
      intro us' xs' pq
      induction pq with
      | nil => intro _ _; rfl
      | @cons x y us' xs' h t ih =>
        intro sub sub2
        rw [List.all_cons, List.all_cons, ih (fun z hz => sub z (List.mem_cons_of_mem _ hz)) fun z hz => sub2 z (List.mem_cons_of_mem _ hz)]
        congr 1
        have hx := self x (sub x (List.mem_cons_self ..))
        unfold chkH
        rw [← h.key]
        rcases ents_look pb x.1 with ⟨z1, z2⟩ | ⟨q', d', hq', hd', _, _⟩
        · rw [z1, z2]; rfl
        · rw [hq', hd']
          have : e x.1 = PyData.eqv y.2 d' := by
            have hl : lookD xs x.1 = some y.2 := by rw [h.key]; exact lookD_mem (ents_keys pa ▸ ndu) (sub2 y (List.mem_cons_self ..))
            show (match lookD xs x.1, lookD ys x.1 with | some d, some d' => PyData.eqv d d' | _, _ => false) = _
            rw [hl, hd']
          rw [this]
          rfl
    exact go pa (fun _ h => h) fun _ h => h
end
end L2
namespace K3
/-! ### dicts of answers compared -/
def dataA (al : Ans) : List (List Key × PyData) := al.map fun y => (keyOf y.1, y.2.data)
theorem en_kd {K : PySem.W.Frag} {H : Hp} : ∀ {kvs : List (List Key × V)} {al : Ans}, Paired (EN H) kvs al → KD K H kvs (dataA al)
  | _, _, .nil => .nil
  | _, _, .cons h t => .cons ⟨h.1, h.2.1.dp, An.shaped h.2.2⟩ (en_kd t)
theorem eqvAll_refl : ∀ {zs : List Str}, PyData.eqvAll (zs.map PyData.str) (zs.map PyData.str) = true := by
  intro zs
  rw [eqv_strs]
  exact decide_eq_true rfl
theorem an_refl (x : An) : PyData.eqv x.data x.data = true := by
  cases x with
  | str z => simp [An.data, PyData.eqv]
  | int i => simp [An.data, PyData.eqv]
  | bl b => cases b <;> rfl
  | non => rfl
  | tup zs => simp only [An.data, PyData.eqv]; exact eqvAll_refl
theorem same_refl {al : Ans} (nd : (al.map (·.1)).Nodup) : dSame (dataA al) (dataA al) = true := by
  unfold dSame
  rw [beq_self_eq_true, Bool.true_and, List.all_eq_true]
  intro x hx
  have nd2 : ((dataA al).map (·.1)).Nodup := by
    have e : (dataA al).map (·.1) = (al.map (·.1)).map keyOf := by unfold dataA; rw [List.map_map, List.map_map]; rfl
    rw [e]
    exact List.Pairwise.map _ (fun a b n z => n (keyOf_inj z)) nd
  rw [lookD_mem nd2 hx]
  obtain ⟨y, _, rfl⟩ := List.mem_map.mp hx
  exact an_refl y.2
def sameA (al bl : Ans) : Bool := dSame (dataA al) (dataA bl)
section
variable {X : Cx} {pins : List (Addr × Obj)} {σ : L2.St} {H : Hp} {s : Shared}
theorem an_one {v : V} {x y : An} (hx : AnO H v x) (hy : AnO H v y) : x = y := by
  cases hx with
  | str z => cases hy; rfl
  | int i => cases hy; rfl
  | bl b => cases hy; rfl
  | non => cases hy; rfl
  | tup h =>
    cases hy with
    | tup h' =>
      rw [h] at h'
      have e := HO.tup.inj (Option.some.inj h')
      have inj : ∀ {as bs : List Str}, as.map V.str = bs.map V.str → as = bs := by
        intro as
        induction as with
        | nil => intro bs e; cases bs with
          | nil => rfl
          | cons => cases e
        | cons a as ih => intro bs e; cases bs with
          | nil => cases e
          | cons b bs =>
            rw [List.map_cons, List.map_cons] at e
            obtain ⟨e1, e2⟩ := List.cons.inj e
            rw [V.str.inj e1, ih e2]
      rw [inj e]
theorem ents_one : ∀ {kvs : List (List Key × V)} {al bl : Ans}, Paired (EN H) kvs al → Paired (EN H) kvs bl → al = bl
  | _, _, _, .nil, .nil => rfl
  | _, _, _, .cons h t, .cons h' t' => by
    rw [ents_one t t']
    congr 1
    exact Prod.ext (keyOf_inj (h.1.symm.trans h'.1)) (an_one h.2.1 h'.2.1)
/-- two dicts of answers -/
theorem eqP_AD (I : Inv X pins σ H s) (A : Around) (hu : A.units + 70 < cLine) {a b : Addr} {ks ls : List (List Key × V)} {al bl : Ans} (ha : H a = some (.dT ks)) (hb : H b = some (.dT ls)) (A1 : AD H a ks al) (A2 : AD H b ls bl) :
    L2.EqP X.prog X.w A s (.ref a) (.ref b) (sameA al bl) := by
  intro E Q hq
  unfold eqBool
  try with_reducible refine wpAny_holding ?_
  show wpAny _ _ (if (Value.ref a == Value.ref b) = true then _ else _) Q E s
  by_cases hab : (Value.ref a == Value.ref b) = true
  · rw [if_pos hab]
    have e : a = b := by have := eq_of_beq hab; injection this
    subst e
    rw [ha] at hb
    cases hb
    have e2 := ents_one A1.ents A2.ents
    subst e2
    rw [show sameA al al = true from same_refl A1.nd] at hq
    exact wpAny_bind (wpAny_rule (wpAny_pure hq))
  · rw [if_neg hab]
    obtain ⟨us, vs, e, da, db, sa, sb, he, hv⟩ := L2.dict_pairB (X := X) A (show A.units + 1 + 64 < cLine by omega) I ha hb (en_kd (K := X.K) A1.ents) (en_kd (K := X.K) A2.ents)
    refine wpAny_bind (L2.eq_heap (show (tupleKind (mixKind X.prog X.w)).room A.in1 from (show A.units + 1 < cLine by omega)) (by omega) sa sb da db he ?_)
    rw [hv]
    exact wpAny_truthy_bool hq
end
end K3
end B20_part
section B21_part
set_option Elab.async false
set_option linter.all false
set_option maxRecDepth 100000
set_option maxHeartbeats 1000000
set_option pp.deepTerms true
open PySem PySem.Spec PyProof.Rows L2
/-- go on as far as nothing is open -/
local macro_rules | `(tactic| walk_at "go") => `(tactic| repeat (first
  | with_reducible refine w_seq ?_ | with_reducible refine w_next ?_ | with_reducible refine w_set ?_ | with_reducible refine w_drop ?_ | with_reducible refine w_ret ?_ | with_reducible refine w_retN ?_
  | with_reducible refine w_if ?_ | ((with_reducible refine' w_var ?hv ?_); (case hv => exact rfl)) | with_reducible refine w_c ?_ | with_reducible refine w_nil ?_ | with_reducible refine w_cons ?_ | with_reducible refine w_op ?_ | with_reducible refine w_un ?_
  | with_reducible refine w_test ?_ | with_reducible refine w_tB ?_ | with_reducible refine w_not ?_ | with_reducible refine w_and ?_ | with_reducible refine w_or ?_ | with_reducible refine w_bl ?_
  | with_reducible refine w_andV ?_ | with_reducible refine w_orV ?_ | with_reducible refine w_notV ?_ | with_reducible refine w_ifE ?_ | with_reducible refine w_chain ?_ | with_reducible refine w_i0 ?_
  | with_reducible refine w_call ?_ | with_reducible refine w_callS ?_ | with_reducible refine w_cB ?_ | with_reducible refine w_tup ?_ | with_reducible refine w_lst ?_ | with_reducible refine w_fldV ?_
  | with_reducible refine w_neF ?_ | with_reducible refine w_neT ?_ | with_reducible refine w_notN ?_ | with_reducible refine w_isN ?_ | with_reducible refine w_gname ?_ | with_reducible refine w_gsub ?_ | with_reducible refine w_asg ?_ | with_reducible refine w_sl ?_ | with_reducible refine w_noP ?_ | with_reducible refine w_int1 ?_ | with_reducible refine w_part ?_ | with_reducible refine w_yes ?_ | with_reducible refine w_nT ?_ | with_reducible refine w_nF ?_ | with_reducible refine w_iteT ?_ | with_reducible refine w_iteF ?_))
namespace K3
/-! ### t != u, the items data or dicts of answers -/
def ItemEq (K : PySem.W.Frag) (H : Hp) (x y : V) (k : Bool) : Prop :=
  (∃ d d', Dp K H x d ∧ Dp K H y d' ∧ PySem.W.alike d d' = true ∧ d.depth ≤ 10 ∧ k = PyData.eqv d d') ∨
  ∃ a b ks ls al bl, x = .ref a ∧ y = .ref b ∧ H a = some (.dT ks) ∧ H b = some (.dT ls) ∧ AD H a ks al ∧ AD H b ls bl ∧ k = sameA al bl
section
variable {X : Cx} {pins : List (Addr × Obj)} {σ : L2.St} {H : Hp} {s : Shared}
theorem item_eqP (I : Inv X pins σ H s) (hu : X.A.units + 75 < cLine) {x y : V} {u v : Value} {k : Bool} (rx : RelV x u) (ry : RelV y v) (h : ItemEq X.K H x y k) : L2.EqP X.prog X.w X.A.in1 s u v k := by
  rcases h with ⟨d, d', h1, h2, h3, h4, rfl⟩ | ⟨a, b, ks, ls, al, bl, rfl, rfl, ha, hb, A1, A2, rfl⟩
  · obtain ⟨as, r1⟩ := Dp.reads I _ _ _ h1 rx
    obtain ⟨bs, r2⟩ := Dp.reads I _ _ _ h2 ry
    have : min d.depth d'.depth ≤ 10 := Nat.le_trans (Nat.min_le_left _ _) h4
    exact .of (PySem.W.eqAt_alike d d' X.A.in1 s u v as bs r1 r2 h3 (show X.A.units + 1 + min d.depth d'.depth < cLine by omega))
  · cases rx
    cases ry
    exact eqP_AD I X.A.in1 (show X.A.units + 1 + 70 < cLine by omega) ha hb A1 A2
theorem items_eqP (I : Inv X pins σ H s) (hu : X.A.units + 75 < cLine) : ∀ {its : List ((V × V) × Bool)} {us vs : List Value}, Vals (its.map (·.1.1)) us → Vals (its.map (·.1.2)) vs → (∀ i ∈ its, ItemEq X.K H i.1.1 i.1.2 i.2) →
    ∃ pairs : List ((Value × Value) × Bool), us.zip vs = pairs.map (·.1) ∧ (∀ p ∈ pairs, L2.EqP X.prog X.w X.A.in1 s p.1.1 p.1.2 p.2) ∧ pairs.all (·.2) = its.all (·.2) ∧ us.length = vs.length
  | [], _, _, .nil, .nil, _ => ⟨[], rfl, (fun _ z => nomatch z), rfl, rfl⟩
  | i :: its, u :: us, v :: vs, .cons r1 t1, .cons r2 t2, h => by
    obtain ⟨pairs, e1, e2, e3, e4⟩ := items_eqP I hu t1 t2 fun j hj => h j (List.mem_cons_of_mem _ hj)
    refine ⟨((u, v), i.2) :: pairs, by rw [List.zip_cons_cons, e1]; rfl, fun p hp => ?_, by rw [List.all_cons, List.all_cons, e3], by rw [List.length_cons, List.length_cons, e4]⟩
    rcases List.mem_cons.mp hp with rfl | hp
    · exact item_eqP I hu r1 r2 (h i (List.mem_cons_self ..))
    · exact e2 p hp
def rNeTup (K : PySem.W.Frag) : R2 := fun x y H Q => ∃ (a b : Addr) (its : List ((V × V) × Bool)), x = .ref a ∧ y = .ref b ∧ H a = some (.tup (its.map (·.1.1))) ∧ H b = some (.tup (its.map (·.1.2))) ∧ (∀ i ∈ its, ItemEq K H i.1.1 i.1.2 i.2) ∧ Q (.bl (!(its.all (·.2)))) H
theorem op_neTup (hu : X.A.units + 75 < cLine) : OpR X (compareOp .NotEq) (rNeTup X.K) := by
  intro pins s σ H x y v u Q I rx ry ⟨a, b, its, ex, ey, ha, hb, hi, q⟩
  subst ex ey
  cases rx
  cases ry
  obtain ⟨us, r1, t1, _⟩ := I.tuple (SqT.of (K := X.K) ha)
  obtain ⟨vs, r2, t2, _⟩ := I.tuple (SqT.of (K := X.K) hb)
  obtain ⟨pairs, e1, e2, e3, e4⟩ := items_eqP I hu r1 r2 hi
  refine L2.tup_ne t1 t2 (pairs := pairs) (by simpa using e1) (by simpa using e4) (by omega) e2 ?_
  rw [e3]
  exact ⟨.bl _, H, I, rfl, q⟩
end
end K3
end B21_part
section WK6_part
set_option Elab.async false
set_option linter.all false
set_option maxRecDepth 100000
set_option maxHeartbeats 1000000
set_option pp.deepTerms true
open PySem PySem.Spec PyProof.Rows L2
/-- go on as far as nothing is open -/
local macro_rules | `(tactic| walk_at "go") => `(tactic| repeat (first
  | with_reducible refine w_seq ?_ | with_reducible refine w_next ?_ | with_reducible refine w_set ?_ | with_reducible refine w_drop ?_ | with_reducible refine w_ret ?_ | with_reducible refine w_retN ?_
  | with_reducible refine w_if ?_ | ((with_reducible refine' w_var ?hv ?_); (case hv => exact rfl)) | with_reducible refine w_c ?_ | with_reducible refine w_nil ?_ | with_reducible refine w_cons ?_ | with_reducible refine w_op ?_ | with_reducible refine w_un ?_
  | with_reducible refine w_test ?_ | with_reducible refine w_tB ?_ | with_reducible refine w_not ?_ | with_reducible refine w_and ?_ | with_reducible refine w_or ?_ | with_reducible refine w_bl ?_
  | with_reducible refine w_andV ?_ | with_reducible refine w_orV ?_ | with_reducible refine w_notV ?_ | with_reducible refine w_ifE ?_ | with_reducible refine w_chain ?_ | with_reducible refine w_i0 ?_
  | with_reducible refine w_call ?_ | with_reducible refine w_callS ?_ | with_reducible refine w_cB ?_ | with_reducible refine w_tup ?_ | with_reducible refine w_lst ?_ | with_reducible refine w_fldV ?_
  | with_reducible refine w_neF ?_ | with_reducible refine w_neT ?_ | with_reducible refine w_notN ?_ | with_reducible refine w_isN ?_ | with_reducible refine w_gname ?_ | with_reducible refine w_gsub ?_ | with_reducible refine w_asg ?_ | with_reducible refine w_sl ?_ | with_reducible refine w_noP ?_ | with_reducible refine w_int1 ?_ | with_reducible refine w_part ?_ | with_reducible refine w_meth ?_ | with_reducible refine w_din ?_ | with_reducible refine w_dnotin ?_ | with_reducible refine w_dgt ?_ | with_reducible refine w_dget1 ?_ | with_reducible refine w_dget2 ?_ | with_reducible refine w_dput ?_ | with_reducible refine w_yes ?_ | with_reducible refine w_nT ?_ | with_reducible refine w_nF ?_ | with_reducible refine w_iteT ?_ | with_reducible refine w_iteF ?_))
namespace K3
open LamX NdefX LamP
/-! ### what a walk told, as a tuple -/
theorem u75_of {k : Nat} {A : Around} (h : Room k A) : A.units + 75 < cLine := Nat.lt_of_le_of_lt (by omega) h.un
/-- the word, the spot, what was asked, what counts: a tuple -/
structure FctO (H : Hp) (p : Addr) (x : Rs) : Prop where
  at_ : ∃ (l cd : Addr) (wd : Str) (sv : V) (ps : List Addr) (kvs : List (List Key × V)), H p = some (.tup [.str wd, sv, .ref l, .ref cd]) ∧
    (match x.1 with
    | none => wd = "done" ∧ sv = .non
    | some (w', s) => wd = w' ∧ ∃ p, sv = .ref p ∧ H p = some (.tup [.str s.1, .int s.2])) ∧
    H l = some (.lst (ps.map V.ref)) ∧ Paired (SpO H) ps x.2.1 ∧ H cd = some (.dT kvs) ∧ AD H cd kvs x.2.2
theorem FctO.xn {H H' : Hp} {p : Addr} {x : Rs} (h : FctO H p x) (e : ExtN H H') : FctO H' p x := by
  obtain ⟨l, cd, wd, sv, ps, kvs, h1, h2, h3, h4, h5, h6⟩ := h
  have k : ∀ c xs, H c = some (.tup xs) → H' c = some (.tup xs) := fun c xs q => e _ _ q fun _ z => nomatch z
  refine ⟨l, cd, wd, sv, ps, kvs, k _ _ h1, ?_, e _ _ h3 (fun _ z => nomatch z), L2.Paired.mapP h4 fun _ _ z => k _ _ z, e _ _ h5 (fun _ z => nomatch z), h6.keep k⟩
  revert h2
  cases x.1 with
  | none => exact id
  | some e => exact fun ⟨a, p, b, c⟩ => ⟨a, p, b, k _ _ c⟩
theorem sp_dp {K : PySem.W.Frag} {H : Hp} : ∀ {ps : List Addr} {sp : List Spot}, Paired (SpO H) ps sp → DpAll K H (ps.map V.ref) (sp.map fun s => PyData.tuple [.str s.1, .int s.2])
  | _, _, .nil => .nil
  | _, _, .cons h t => .cons (.tup (SqT.of h) (.cons (.str _) (.cons (.int _) .nil))) (sp_dp t)
theorem sp_eqv : ∀ l : List Spot, PyData.eqvAll (l.map fun s => PyData.tuple [.str s.1, .int s.2]) (l.map fun s => PyData.tuple [.str s.1, .int s.2]) = true
  | [] => rfl
  | s :: l => by simp [PyData.eqvAll, PyData.eqv, sp_eqv l]
theorem sp_alike : ∀ l : List Spot, PySem.W.alikeAll (l.map fun s => PyData.tuple [.str s.1, .int s.2]) (l.map fun s => PyData.tuple [.str s.1, .int s.2]) = true
  | [] => rfl
  | s :: l => by simp [PySem.W.alikeAll, PySem.W.alike, sp_alike l]
theorem sp_deep (l : List Spot) : PyData.depthAll (l.map fun s => PyData.tuple [.str s.1, .int s.2]) ≤ 3 := by
  induction l with
  | nil => simp [PyData.depthAll]
  | cons s l ih => simp [PyData.depthAll, PyData.depth]; omega
/-- two tellings of one walk are not unlike -/
theorem fct_ne {K : PySem.W.Frag} {H : Hp} {p q : Addr} {x : Rs} {Q : VK} (h : FctO H p x) (h' : FctO H q x) (k : Q (.bl false) H) : rNeTup K (.ref p) (.ref q) H Q := by
  obtain ⟨l, cd, wd, sv, ps, kvs, h1, h2, h3, h4, h5, h6⟩ := h
  obtain ⟨l', cd', wd', sv', ps', kvs', k1, k2, k3, k4, k5, k6⟩ := h'
  have ew : wd' = wd := by
    revert h2 k2
    cases x.1 with
    | none => exact fun a b => b.1.trans a.1.symm
    | some e => exact fun a b => b.1.trans a.1.symm
  subst ew
  have es : ∃ d, Dp K H sv d ∧ Dp K H sv' d ∧ PySem.W.alike d d = true ∧ d.depth ≤ 10 ∧ PyData.eqv d d = true := by
    revert h2 k2
    cases x.1 with
    | none => exact fun b a => ⟨.none, a.2 ▸ .non, b.2 ▸ .non, rfl, by simp [PyData.depth], by simp [PyData.eqv]⟩
    | some e =>
      rintro ⟨_, p2, rfl, g2⟩ ⟨_, p1, rfl, g1⟩
      exact ⟨.tuple [.str e.2.1, .int e.2.2], .tup (SqT.of g1) (.cons (.str _) (.cons (.int _) .nil)), .tup (SqT.of g2) (.cons (.str _) (.cons (.int _) .nil)), by simp [PySem.W.alike, PySem.W.alikeAll], by simp [PyData.depth, PyData.depthAll], by simp [PyData.eqv, PyData.eqvAll]⟩
  obtain ⟨d, d1, d2, d3, d4, d5⟩ := es
  refine ⟨p, q, [((.str wd', .str wd'), true), ((sv, sv'), true), ((.ref l, .ref l'), true), ((.ref cd, .ref cd'), true)], rfl, rfl, h1, k1, fun i hi => ?_, k⟩
  simp only [List.mem_cons, List.not_mem_nil, or_false] at hi
  rcases hi with rfl | rfl | rfl | rfl
  · exact .inl ⟨_, _, .str _, .str _, rfl, by simp [PyData.depth], by simp [PyData.eqv]⟩
  · exact .inl ⟨d, d, d1, d2, d3, d4, d5.symm⟩
  · exact .inl ⟨_, _, .lst (SqL.of h3) (sp_dp h4), .lst (SqL.of k3) (sp_dp k4), by simp only [PySem.W.alike]; exact sp_alike _, by simp only [PyData.depth]; have := sp_deep x.2.1; omega, by simp only [PyData.eqv]; exact (sp_eqv _).symm⟩
  · exact .inr ⟨cd, cd', kvs, kvs', _, _, rfl, rfl, h5, k5, h6, k6, (same_refl h6.nd).symm⟩
theorem w_orT {K : PySem.W.Frag} {ta tb : TE} {σ : L2.St} {H : Hp} {Q : VK} (h : ta σ H fun x H1 => ∃ k, TruV K x H1 k ∧ if k = true then Q x H1 else tb σ H1 Q) : tOrT K ta tb σ H Q := h
theorem w_dispK {trs : List (TE × TE)} {σ : L2.St} {H : Hp} {Q : VK} (h : ∀ p, H p = none → tPairs trs σ (L2.upd H p (.dK [])) fun ps H2 => H2 p = some (.dK []) ∧ ∃ kvs : List (Key × V), ps = kvs.map (fun kv => (kV kv.1, kv.2)) ∧ kvs.length ≤ 15 ∧ Q (.ref p) (L2.upd H2 p (.dK (mergeK [] kvs)))) : tDisp trs σ H Q := h
theorem w_pairsK {tk tv : TE} {r : List (TE × TE)} {σ : L2.St} {H : Hp} {Q : List (V × V) → Hp → Prop} (h : tk σ H fun x H1 => tv σ H1 fun y H2 => tPairs r σ H2 fun ps H3 => Q ((x, y) :: ps) H3) : tPairs ((tk, tv) :: r) σ H Q := h
theorem w_pairs0 {σ : L2.St} {H : Hp} {Q : List (V × V) → Hp → Prop} (h : Q [] H) : tPairs [] σ H Q := h
def spFactsL (K : PySem.W.Frag) : Sp := fun vs H Q _ => ∃ (a : Addr) (x : Rs), vs = [.ref a] ∧ WalkO K H a x ∧ ∀ p H', Same H H' → FctO H' p x → Q (.ref p) H'
def spWalkL (TT : List (Addr × Str)) (D N : Nat) (K : PySem.W.Frag) : Sp := fun vs H Q _ => ∃ (lr ad : Addr) (xs : List V) (rs : List Rw) (al : Ans) (ka : List (List Key × V)) (B : Hp), vs = [.ref lr, .ref ad] ∧ B lr = some (.lst xs) ∧ DRs B xs rs ∧ Bs B [] H ∧ Rws.dep rs < N ∧ Rws.cnt rs ≤ 1000 ∧ Rws.cds D rs ∧ WTs rs rs ∧ OptOk rs ∧ Rws.nck rs false ∧
  H ad = some (.dT ka) ∧ AD H ad ka al ∧ Tabs TT H ∧ (wRows rs al rs 0 [] []).2.1.length ≤ 9000 ∧ ∀ p H', ExtN H H' → Tabs TT H' → FctO H' p (wRows rs al rs 0 [] []) → Q (.ref p) H'
section
variable {P : Program} {w : World} {K : PySem.W.Frag} {mg : Str → Option Value} {base : Heap}
theorem sc_facts : FnScope ["_law_walk_here"] ["_law_walk_here"] (defScope s__law_facts) := ⟨rfl, rfl, rfl, by decide +kernel, rfl, by decide +kernel, by decide +kernel⟩
theorem ok_facts (T : Tx K mg) : Ok P w K mg base 1 (He.ga K "_law_facts") ["_law_walk_here"] (spFactsL K) := by
  obtain ⟨fd, F⟩ := T.f__law_facts
  refine ⟨fd, F.ok (k := 0) sc_facts (fun vs H Q E h => ?_) (fun cdv A outer s_ H vs Q E hr h => ?_), F.bindsN fun _ _ _ _ _ _ us hl => match us, hl with | [_], _ => rfl, F.kp⟩
  · obtain ⟨a, x, rfl, h, q⟩ := h
    rfl
  obtain ⟨a, x, rfl, h, q⟩ := h
  have hu65 := K3.Room.units65 hr
  have hu70 := K3.Room.units70 hr
  have hu4 := K3.Room.units4 hr
  have hu64 := Nat.lt_of_succ_lt hu65
  have hu0 := Nat.lt_of_le_of_lt (Nat.le_add_right _ 65) hu65
  have hu1 := Nat.lt_of_le_of_lt (Nat.add_le_add_left (show 1 ≤ 65 by decide) _) hu65
  refine ⟨_, pss_one (ps_ret (pe_tup (pa_cons (pe_fld (pv 0) rfl) (pa_cons (pe_fld (pv 0) rfl) (pa_cons (pe_fld (pv 0) rfl) (pa_cons (pe_fld (pv 0) rfl) pa_nil)))))), ?_⟩
  obtain ⟨dx, l, cd, wd, sv, ps, kvs, h1, h2, h3, h4, h5, h6⟩ := h
  walk_at "go"
  refine ⟨a, _, dx, _, _, rfl, h1, T.cl_Walk, T.n_Walk_word, rfl, ?_⟩
  walk_at "go"
  refine ⟨a, _, dx, _, _, rfl, h1, T.cl_Walk, T.n_Walk_spot, rfl, ?_⟩
  walk_at "go"
  refine ⟨a, _, dx, _, _, rfl, h1, T.cl_Walk, T.n_Walk_asked, rfl, ?_⟩
  walk_at "go"
  refine ⟨a, _, dx, _, _, rfl, h1, T.cl_Walk, T.n_Walk_counted, rfl, ?_⟩
  walk_at "go"
  refine ⟨(by show 4 ≤ sizeLine; decide), fun p hp => ?_⟩
  have e := Same.new hp (.tup [.str wd, sv, .ref l, .ref cd])
  refine q p _ e ⟨l, cd, wd, sv, ps, kvs, upd_same, ?_, e _ _ h3, L2.Paired.mapP h4 fun _ _ z => e _ _ z, e _ _ h5, h6.nt (Same.nt e)⟩
  revert h2
  cases x.1 with
  | none => exact id
  | some y => exact fun ⟨a, p, b, c⟩ => ⟨a, p, b, e _ _ c⟩
theorem sc_walkL : FnScope ["_law_rows", "_law_answers", "_law_w", "_law_word", "_law_spot"] ["_law_rows", "_law_answers"] (defScope s__law_walk) := ⟨rfl, rfl, rfl, by decide +kernel, rfl, by decide +kernel, by decide +kernel⟩
theorem ok_walkL {cG PG : Addr} {TT : List (Addr × Str)} (T : Tx K mg) (B : Told K mg base "_law_gone" cG PG TT) (D : Nat) (hD0 : 0 < D) (N : Nat) : Ok P w K mg base (D + 4 + N + 1) (He.ga K "_law_walk") ["_law_rows", "_law_answers"] (spWalkL TT D N K) := by
  obtain ⟨fd, F⟩ := T.f__law_walk
  have O_law_gone := ok_gone (P := P) (w := w) (base := base) T B D hD0 N
  have O_law_inside := ok_inside (P := P) (w := w) (base := base) T N
  refine ⟨fd, F.ok (k := D + 4 + N) sc_walkL (fun vs H Q E h => ?_) (fun cdv A outer s_ H vs Q E hr h => ?_), F.bindsN fun _ _ _ _ _ _ us hl => match us, hl with | [_, _], _ => rfl, F.kp⟩
  · obtain ⟨lr, ad, xs, rs, al, ka, B0, rfl, _⟩ := h
    rfl
  obtain ⟨lr, ad, xs, rs, al, ka, B0, rfl, hlr, hd, hB, dep, cnt, cds, wt, oo, nck, had, hA, hT, few, q⟩ := h
  have hu65 := K3.Room.units65 hr
  have hu0 := Nat.lt_of_le_of_lt (Nat.le_add_right _ 65) hu65
  have hu1 := Nat.lt_of_le_of_lt (Nat.add_le_add_left (show 1 ≤ 65 by decide) _) hu65
  have r_law_gone : Room (D + 4 + N) _ := hr
  have r_law_inside : Room (N + 1) _ := hr.mono (by omega)
  refine ⟨_, pss_cons (ps_set (i := 2) sc_walkL.nd rfl (Or.inl rfl) (pe_disp (pps_cons pe_str (pe_lst pa_nil) (pps_cons pe_str pe_dnewT (pps_cons pe_str pe_non (pps_cons pe_str (pv 1) (pps_cons pe_str (pe_f O_law_inside r_law_inside T.g__law_inside (pa_cons (pv 0) (pa_cons pe_bl pa_nil))) pps_nil))))) rfl rfl (fun z => nomatch z) (by decide)))
      (pss_cons (ps_expr (pe_f O_law_gone r_law_gone T.g__law_gone (pa_cons (pv 0) (pa_cons (pv 2) (pa_cons pe_int pa_nil)))))
      (pss_cons (ps_asg (pe_orT (pe_dget hu1 (pv 2) pe_str (fun _ _ => rfl)) (pe_one (pe_tup (pa_cons pe_str (pa_cons pe_non pa_nil))))) (pg_tup (by rfl) (pgs_cons (pg_name (i := 3) sc_walkL.nd rfl (Or.inl rfl)) (pgs_cons (pg_name (i := 4) sc_walkL.nd rfl (Or.inl rfl)) pgs_nil))))
      (pss_one (ps_ret (pe_tup (pa_cons (pv 3) (pa_cons (pv 4) (pa_cons (pe_dget hu1 (pv 2) pe_str (fun _ _ => rfl)) (pa_cons (pe_dget hu1 (pv 2) pe_str (fun _ _ => rfl)) pa_nil))))))))), ?_⟩
  walk_at "go"
  refine w_dispK fun W hW => ?_
  have e1 := Same.new hW (.dK [])
  have gW : (upd H W (.dK [])) W = some (.dK []) := upd_same
  generalize upd H W (.dK []) = H1 at e1 gW ⊢
  refine w_pairsK ?_
  walk_at "go"
  refine ⟨Nat.zero_le _, fun l hl => ?_⟩
  have e2 := Same.new hl (.lst [])
  have gl : (upd H1 l (.lst [])) l = some (.lst []) := upd_same
  generalize upd H1 l (.lst []) = H2 at e2 gl ⊢
  refine w_pairsK ?_
  walk_at "go"
  intro cd hcd
  have e3 := Same.new hcd (.dT [])
  have gcd : (upd H2 cd (.dT [])) cd = some (.dT []) := upd_same
  generalize upd H2 cd (.dT []) = H3 at e3 gcd ⊢
  refine w_pairsK ?_
  walk_at "go"
  refine w_pairsK ?_
  walk_at "go"
  refine w_pairsK ?_
  walk_at "go"
  have e13 := e1.trans (e2.trans e3)
  refine ⟨lr, xs, rs, false, B0, rfl, hB.same.trans e13, hlr, hd, dep, cnt, fun il H4 hil e4 gil => ?_⟩
  refine w_pairs0 ?_
  have e14 := e13.trans e4
  refine ⟨e4 _ _ (e3 _ _ (e2 _ _ gW)), [(Sum.inr "asked", .ref l), (Sum.inr "counted", .ref cd), (Sum.inr "end", .non), (Sum.inr "answers", .ref ad), (Sum.inr "inside", .ref il)], rfl, (show 5 ≤ 15 by decide), ?_⟩
  rw [show mergeK [] ([(Sum.inr "asked", .ref l), (Sum.inr "counted", .ref cd), (Sum.inr "end", .non), (Sum.inr "answers", .ref ad), (Sum.inr "inside", .ref il)] : List (Key × V)) = w5 l cd .non ad il from rfl]
  have gW4 := e4 _ _ (e3 _ _ (e2 _ _ gW))
  have e5 : Same H (upd H4 W (.dK (w5 l cd .non ad il))) := e14.mut hW
  have off : ∀ {c o}, H4 c = some o → (∀ ms, o ≠ .dK ms) → (upd H4 W (.dK (w5 l cd .non ad il))) c = some o := fun {c o} g n => by
    rw [upd_ne (fun z => by rw [z, gW4] at g; exact n _ (Option.some.inj g).symm)]; exact g
  have g5 : (upd H4 W (.dK (w5 l cd .non ad il))) W = some (.dK (w5 l cd .non ad il)) := upd_same
  have gl5 := off (e4 _ _ (e3 _ _ gl)) (fun _ z => nomatch z)
  have gcd5 := off (e4 _ _ gcd) (fun _ z => nomatch z)
  have gil5 := off gil (fun _ z => nomatch z)
  generalize upd H4 W (.dK (w5 l cd .non ad il)) = H5 at e5 g5 gl5 gcd5 gil5 ⊢
  have nac : ad ≠ cd := fun z => by rw [z] at had; have := (e1.trans e2) _ _ had; rw [hcd] at this; cases this
  have nil' : il ≠ l := fun z => by have := e4 _ _ (e3 _ _ gl); rw [← z] at this; have h3 := e3 _ _ gl; rw [← z, hil] at h3; cases h3
  have hG5 : GoneO H5 W l cd ad il rs al (none, [], []) := ⟨⟨.non, g5, rfl⟩, ⟨[], gl5, .nil⟩, ⟨[], gcd5, ⟨.nil, List.nodup_nil⟩⟩, ⟨ka, e5 _ _ had, hA.nt (Same.nt e5)⟩, ⟨_, gil5, fun n => ins_rd nck n⟩, nac, nil'⟩
  have new : ∀ c ∈ [W, l, cd], H c = none := by
    intro c hc
    simp only [List.mem_cons, List.not_mem_nil, or_false] at hc
    rcases hc with rfl | rfl | rfl
    · exact hW
    · exact Same.freeA e1 hl
    · exact Same.freeA (e1.trans e2) hcd
  have hB5 : Bs B0 [W, l, cd] H5 := fun b o g => ⟨e5 _ _ (hB b o g).1, (fun z => by have h0 := (hB b o g).1; rw [new b z] at h0; exact (nomatch h0)), (hB b o g).2.2⟩
  have hgr : goneR rs al rs 0 (none, [], []) = wRows rs al rs 0 [] [] := goneR_none
  walk_at "go"
  refine ⟨lr, W, l, cd, ad, il, 0, xs, rs, rs, al, (none, [], []), B0, rfl, hlr, hd, hB5, dep, cds, wt, oo, hG5, tabs_same hT e5, good_nil, Nat.le_refl _, by rw [hgr]; exact few, fun H6 g6 t6 hG6 => ?_⟩
  rw [hgr] at hG6
  have x6 : ExtN H H6 := GX.new (ExtN.of e5) g6 new
  obtain ⟨⟨ev, hW6, hev⟩, ⟨ps, hl6, hps⟩, ⟨kc, hcd6, hC6⟩, _, _, _, _⟩ := id hG6
  walk_at "go"
  refine w_orT ?_
  walk_at "go"
  refine ⟨W, _, rfl, dget5 hW6 w5_end, ?_⟩
  have fin : ∀ (wd : Str) (sv : V) (H7 : Hp), Same H6 H7 → (match (wRows rs al rs 0 [] []).1 with
      | none => wd = "done" ∧ sv = .non
      | some (w', s) => wd = w' ∧ ∃ p, sv = .ref p ∧ H7 p = some (.tup [.str s.1, .int s.2])) → ∀ p, H7 p = none → Q (.ref p) (upd H7 p (.tup [.str wd, sv, .ref l, .ref cd])) := fun wd sv H7 e7 hm p hp => by
    have e8 := Same.new hp (.tup [.str wd, sv, .ref l, .ref cd])
    have e78 := e7.trans e8
    refine q p _ (x6.trans (ExtN.of e78)) (tabs_same t6 e78) ⟨l, cd, wd, sv, ps, kc, upd_same, ?_, e78 _ _ hl6, L2.Paired.mapP hps fun _ _ z => e78 _ _ z, e78 _ _ hcd6, hC6.nt (Same.nt e78)⟩
    revert hm
    cases (wRows rs al rs 0 [] []).1 with
    | none => exact id
    | some e => exact fun ⟨a, p', b, c⟩ => ⟨a, p', b, e8 _ _ c⟩
  cases hx : (wRows rs al rs 0 [] []).1 with
  | none =>
    rw [hx] at hev fin
    obtain rfl : ev = .non := hev
    refine ⟨false, rfl, ?_⟩
    rw [if_neg Bool.false_ne_true]
    walk_at "go"
    refine ⟨(by show 2 ≤ sizeLine; decide), fun t0 ht0 => ?_⟩
    have e7 := Same.new ht0 (.tup [V.str "done", V.non])
    have g7 : (upd H6 t0 (.tup [V.str "done", V.non])) t0 = some (.tup [V.str "done", V.non]) := upd_same
    generalize upd H6 t0 (.tup [V.str "done", V.non]) = H7 at e7 g7 ⊢
    refine w_gtup (SqT.of g7) rfl (w_gn2 ?_)
    dsimp only
    walk_at "go"
    refine ⟨W, _, rfl, dget5 (e7 _ _ hW6) w5_asked, ?_⟩
    walk_at "go"
    refine ⟨W, _, rfl, dget5 (e7 _ _ hW6) w5_counted, ?_⟩
    walk_at "go"
    exact ⟨(by show 4 ≤ sizeLine; decide), fun p hp => fin "done" .non H7 e7 ⟨rfl, rfl⟩ p hp⟩
  | some e =>
    rw [hx] at hev fin
    obtain ⟨te, pe, rfl, hte, hpe⟩ := hev
    refine ⟨true, .inr (.inl ⟨_, SqT.of hte, rfl⟩), ?_⟩
    rw [if_pos rfl]
    refine w_gtup (SqT.of hte) rfl (w_gn2 ?_)
    dsimp only
    walk_at "go"
    refine ⟨W, _, rfl, dget5 hW6 w5_asked, ?_⟩
    walk_at "go"
    refine ⟨W, _, rfl, dget5 hW6 w5_counted, ?_⟩
    walk_at "go"
    exact ⟨(by show 4 ≤ sizeLine; decide), fun p hp => fin e.1 (.ref pe) H6 (Same.refl _) ⟨rfl, pe, rfl, hpe⟩ p hp⟩
end
end K3
end WK6_part
section A2s_part
set_option Elab.async false
set_option linter.all false
set_option maxRecDepth 100000
set_option maxHeartbeats 1000000
set_option pp.deepTerms true
open PySem PySem.Spec PyProof.Rows L2
/-- go on as far as nothing is open -/
local macro_rules | `(tactic| walk_at "go") => `(tactic| repeat (first
  | with_reducible refine w_seq ?_ | with_reducible refine w_next ?_ | with_reducible refine w_set ?_ | with_reducible refine w_drop ?_ | with_reducible refine w_ret ?_ | with_reducible refine w_retN ?_
  | with_reducible refine w_if ?_ | ((with_reducible refine' w_var ?hv ?_); (case hv => exact rfl)) | with_reducible refine w_c ?_ | with_reducible refine w_nil ?_ | with_reducible refine w_cons ?_ | with_reducible refine w_op ?_ | with_reducible refine w_un ?_
  | with_reducible refine w_test ?_ | with_reducible refine w_tB ?_ | with_reducible refine w_not ?_ | with_reducible refine w_and ?_ | with_reducible refine w_or ?_ | with_reducible refine w_bl ?_
  | with_reducible refine w_andV ?_ | with_reducible refine w_orV ?_ | with_reducible refine w_notV ?_ | with_reducible refine w_ifE ?_ | with_reducible refine w_chain ?_ | with_reducible refine w_i0 ?_
  | with_reducible refine w_call ?_ | with_reducible refine w_callS ?_ | with_reducible refine w_cB ?_ | with_reducible refine w_tup ?_ | with_reducible refine w_lst ?_ | with_reducible refine w_fldV ?_
  | with_reducible refine w_neF ?_ | with_reducible refine w_neT ?_ | with_reducible refine w_notN ?_ | with_reducible refine w_isN ?_ | with_reducible refine w_gname ?_ | with_reducible refine w_gsub ?_ | with_reducible refine w_asg ?_ | with_reducible refine w_sl ?_ | with_reducible refine w_noP ?_ | with_reducible refine w_int1 ?_ | with_reducible refine w_part ?_ | with_reducible refine w_meth ?_ | with_reducible refine w_din ?_ | with_reducible refine w_dnotin ?_ | with_reducible refine w_dgt ?_ | with_reducible refine w_dget1 ?_ | with_reducible refine w_dget2 ?_ | with_reducible refine w_dput ?_ | with_reducible refine w_yes ?_ | with_reducible refine w_nT ?_ | with_reducible refine w_nF ?_ | with_reducible refine w_iteT ?_ | with_reducible refine w_iteF ?_))
namespace K3
/-! ### names by a stem and a number -/
theorem len_cps (z : Str) : z.length = z.cps.toList.length := (Array.length_toList).symm
def nmA : List Nat → Bool
  | [] => false
  | c :: r => decide (c ∈ lets.cps.toList) && (c :: r).all fun c => decide (c ∈ lets.cps.toList) || decide (c ∈ figs.cps.toList)
theorem nmA_app {cs ds : List Nat} (h : nmA cs = true) (k : ∀ d ∈ ds, d ∈ lets.cps.toList ∨ d ∈ figs.cps.toList) : nmA (cs ++ ds) = true := by
  cases cs with
  | nil => cases h
  | cons c r =>
    obtain ⟨h1, h2⟩ := Bool.and_eq_true_iff.mp (show (decide (c ∈ lets.cps.toList) && _) = true from h)
    refine Bool.and_eq_true_iff.mpr ⟨h1, ?_⟩
    refine (show ((c :: r) ++ ds).all _ = true from ?_)
    rw [List.all_append, h2, Bool.true_and]
    refine List.all_eq_true.mpr fun d hd => ?_
    rcases k d hd with z | z
    · rw [decide_eq_true z]; rfl
    · rw [decide_eq_true z, Bool.or_true]
theorem nmA_one {d : Nat} (k : d ∈ lets.cps.toList) : nmA [d] = true := by
  show (decide (d ∈ lets.cps.toList) && [d].all _) = true
  rw [List.all_cons, decide_eq_true k]
  rfl
theorem nameA {z : Str} (h : nmA z.cps.toList = true) (l : z.length ≤ 8) : isName z = true := by
  have l1 : 1 ≤ z.length := by
    rw [len_cps]
    cases hz : z.cps.toList with
    | nil => rw [hz] at h; cases h
    | cons c r => rw [List.length_cons]; omega
  unfold isName
  rw [decide_eq_true l1, decide_eq_true l, Bool.true_and, Bool.true_and]
  cases hz : z.cps.toList with
  | nil => rw [hz] at h; cases h
  | cons c r => rw [hz] at h; exact h
end K3
end A2s_part
section WK7_part
set_option Elab.async false
set_option linter.all false
set_option maxRecDepth 100000
set_option maxHeartbeats 1000000
set_option pp.deepTerms true
open PySem PySem.Spec PyProof.Rows L2
/-- go on as far as nothing is open -/
local macro_rules | `(tactic| walk_at "go") => `(tactic| repeat (first
  | with_reducible refine w_seq ?_ | with_reducible refine w_next ?_ | with_reducible refine w_set ?_ | with_reducible refine w_drop ?_ | with_reducible refine w_ret ?_ | with_reducible refine w_retN ?_
  | with_reducible refine w_if ?_ | ((with_reducible refine' w_var ?hv ?_); (case hv => exact rfl)) | with_reducible refine w_c ?_ | with_reducible refine w_nil ?_ | with_reducible refine w_cons ?_ | with_reducible refine w_op ?_ | with_reducible refine w_un ?_
  | with_reducible refine w_test ?_ | with_reducible refine w_tB ?_ | with_reducible refine w_not ?_ | with_reducible refine w_and ?_ | with_reducible refine w_or ?_ | with_reducible refine w_bl ?_
  | with_reducible refine w_andV ?_ | with_reducible refine w_orV ?_ | with_reducible refine w_notV ?_ | with_reducible refine w_ifE ?_ | with_reducible refine w_chain ?_ | with_reducible refine w_i0 ?_
  | with_reducible refine w_call ?_ | with_reducible refine w_callS ?_ | with_reducible refine w_cB ?_ | with_reducible refine w_tup ?_ | with_reducible refine w_lst ?_ | with_reducible refine w_fldV ?_
  | with_reducible refine w_neF ?_ | with_reducible refine w_neT ?_ | with_reducible refine w_notN ?_ | with_reducible refine w_isN ?_ | with_reducible refine w_gname ?_ | with_reducible refine w_gsub ?_ | with_reducible refine w_asg ?_ | with_reducible refine w_sl ?_ | with_reducible refine w_noP ?_ | with_reducible refine w_int1 ?_ | with_reducible refine w_part ?_ | with_reducible refine w_meth ?_ | with_reducible refine w_din ?_ | with_reducible refine w_dnotin ?_ | with_reducible refine w_dgt ?_ | with_reducible refine w_dget1 ?_ | with_reducible refine w_dget2 ?_ | with_reducible refine w_dput ?_ | with_reducible refine w_yes ?_ | with_reducible refine w_nT ?_ | with_reducible refine w_nF ?_ | with_reducible refine w_iteT ?_ | with_reducible refine w_iteF ?_))
namespace K3
open LamX NdefX LamP
/-! ### what the law draws: names, conditions, questions -/
def ltsL : Str := "abcdefghijklmnopqrstuvwxyz"
theorem ltsL_cps : ltsL.cps.toList = (List.range 26).map (97 + ·) := by decide +kernel
theorem lts_at {i : Nat} (h : i < 26) : ltsL.cps.toList[i]? = some (97 + i) := by
  rw [ltsL_cps, List.getElem?_map, List.getElem?_range h]
  rfl
def tgL (k r : Nat) : List Nat := [113, 97 + k / 26, 97 + k % 26, 97 + r]
def TagOf (k : Nat) (z : Str) : Prop := ∃ r, r < 26 ∧ z.cps.toList = tgL k r
theorem TagOf.inj {k j : Nat} {z : Str} (a : TagOf k z) (b : TagOf j z) : k = j := by
  obtain ⟨r, _, h⟩ := a
  obtain ⟨q, _, h'⟩ := b
  rw [h] at h'
  unfold tgL at h'
  simp only [List.cons.injEq, and_true] at h'
  have := Nat.div_add_mod k 26
  have := Nat.div_add_mod j 26
  omega
theorem let_mem {c : Nat} (h1 : 97 ≤ c) (h2 : c < 123) : c ∈ lets.cps.toList := by
  have e : lets.cps.toList = ltsL.cps.toList := rfl
  rw [e, ltsL_cps]
  exact List.mem_map.mpr ⟨c - 97, List.mem_range.mpr (by omega), by omega⟩
theorem TagOf.name {k : Nat} {z : Str} (a : TagOf k z) (hk : k < 100) : isName z = true := by
  obtain ⟨r, hr, h⟩ := a
  have hm := Nat.mod_lt k (show 0 < 26 by decide)
  refine nameA ?_ (by rw [len_cps, h]; show 4 ≤ 8; decide)
  rw [h]
  unfold tgL
  refine nmA_app (cs := [113]) (ds := [97 + k / 26, 97 + k % 26, 97 + r]) (nmA_one (let_mem (by decide) (by decide))) fun d hd => .inl ?_
  simp only [List.mem_cons, List.not_mem_nil, or_false] at hd
  rcases hd with rfl | rfl | rfl
  · exact let_mem (by omega) (by omega)
  · exact let_mem (by omega) (by omega)
  · exact let_mem (by omega) (by omega)
def spTag (K : PySem.W.Frag) : Sp := fun vs H Q _ => ∃ (s : Addr) (k : Nat), vs = [.ref s, .int (k : Int)] ∧ Sd H s ∧ k < 100 ∧ ∀ z H', TagOf k z → BM [s] H H' → Sd H' s → Q (.str z) H'
def spWide (n : Nat) (K : PySem.W.Frag) : Sp := fun vs H Q _ => ∃ (M : List Addr) (s kn : Addr) (ks : List Kn) (many deep : Nat), vs = [.ref s, .ref kn, .int (many : Int), .int (deep : Int)] ∧ In M H ∧ Ah M H s kn ks ∧ 0 < ks.length ∧ 1 ≤ many ∧ many ≤ 1000 ∧ deep < n ∧
  ∀ v H' c, BM [s] H H' → Sd H' s → DC (less H' M) v c → CV ks c → c.dep ≤ deep → c.simp.length ≤ many → Q v H'
section
variable {P : Program} {w : World} {K : PySem.W.Frag} {mg : Str → Option Value} {base : Heap}
theorem sc_tag : FnScope ["_law_s", "_law_k", "_law_letters"] ["_law_s", "_law_k"] (defScope s__law_tag) := ⟨rfl, rfl, rfl, by decide +kernel, rfl, by decide +kernel, by decide +kernel⟩
theorem ok_tag (T : Tx K mg) : Ok P w K mg base 2 (He.ga K "_law_tag") ["_law_s", "_law_k"] (spTag K) := by
  obtain ⟨fd, F⟩ := T.f__law_tag
  have O_law_digit := ok_digit (P := P) (w := w) (base := base) T
  refine ⟨fd, F.ok (k := 1) sc_tag (fun vs H Q E h => ?_) (fun cdv A outer s_ H vs Q E hr h => ?_), F.bindsN fun _ _ _ _ _ _ us hl => match us, hl with | [_, _], _ => rfl, F.kp⟩
  · obtain ⟨s, k, rfl, hs, hk, q⟩ := h
    rfl
  obtain ⟨s, k, rfl, hs, hk, q⟩ := h
  have hu65 := K3.Room.units65 hr
  have hu70 := K3.Room.units70 hr
  have hu4 := K3.Room.units4 hr
  have hu64 := Nat.lt_of_succ_lt hu65
  have hu0 := Nat.lt_of_le_of_lt (Nat.le_add_right _ 65) hu65
  have hu1 := Nat.lt_of_le_of_lt (Nat.add_le_add_left (show 1 ≤ 65 by decide) _) hu65
  have r_law_digit : Room 1 _ := hr.mono (by decide)
  refine ⟨_, pss_cons (ps_set (i := 2) sc_tag.nd rfl (Or.inl rfl) pe_str)
      (pss_one (ps_ret (pe_op op_add_str (pe_op op_add_str (pe_op op_add_str pe_str (pe_ix ix_str (pv 2) (pe_op op_fdiv (pv 1) pe_int) (fun _ _ => rfl))) (pe_ix ix_str (pv 2) (pe_op op_mod (pv 1) pe_int) (fun _ _ => rfl))) (pe_ix ix_str (pv 2) (pe_f O_law_digit r_law_digit T.g__law_digit (pa_cons (pv 0) (pa_cons pe_int pa_nil))) (fun _ _ => rfl))))), ?_⟩
  have hm := Nat.mod_lt k (show 0 < 26 by decide)
  have hd : k / 26 < 26 := by omega
  walk_at "go"
  refine w_i ⟨by decide, by decide⟩ ?_
  rw [show ((k : Int) / 26) = ((k / 26 : Nat) : Int) by omega]
  refine ⟨ltsL, ((k / 26 : Nat) : Int), _, rfl, rfl, (by decide +kernel), atI_nat (lts_at hd), ?_⟩
  refine ⟨_, _, rfl, rfl, (by show 2 ≤ sizeLine; decide), ?_⟩
  walk_at "go"
  refine w_i (by decide) ?_
  rw [show ((k : Int) % 26) = ((k % 26 : Nat) : Int) by omega]
  refine ⟨ltsL, ((k % 26 : Nat) : Int), _, rfl, rfl, (by decide +kernel), atI_nat (lts_at hm), ?_⟩
  refine ⟨_, _, rfl, rfl, (by show 3 ≤ sizeLine; decide), ?_⟩
  walk_at "go"
  refine ⟨s, 26, rfl, hs, by decide, by decide, fun r H1 hr b1 s1 => ?_⟩
  have hr' : r < 26 := by omega
  refine ⟨ltsL, (r : Int), _, rfl, rfl, (by decide +kernel), atI_nat (lts_at hr'), ?_⟩
  refine ⟨_, _, rfl, rfl, (by show 4 ≤ sizeLine; decide), ?_⟩
  exact q _ H1 ⟨r, hr', rfl⟩ b1 s1
theorem sc_wide : FnScope ["_law_s", "_law_known", "_law_many", "_law_deep", "_law_way", "_law_left", "_law_one"] ["_law_s", "_law_known", "_law_many", "_law_deep"] (defScope s__law_wide) := ⟨rfl, rfl, rfl, by decide +kernel, rfl, by decide +kernel, by decide +kernel⟩
theorem ok_wide (T : Tx K mg) (n : Nat) : Ok P w K mg base (n + 3) (He.ga K "_law_wide") ["_law_s", "_law_known", "_law_many", "_law_deep"] (spWide n K) := by
  obtain ⟨fd, F⟩ := T.f__law_wide
  have b : Binds K fd ["_law_s", "_law_known", "_law_many", "_law_deep"] [] := F.bindsN fun _ _ _ _ _ _ us hl => match us, hl with | [_, _, _, _], _ => rfl
  have O_law_digit := ok_digit (P := P) (w := w) (base := base) T
  have O_law_simple := ok_simple (P := P) (w := w) (base := base) T
  induction n with
  | zero => exact ⟨fd, ok_noneS fun vs H Q E ⟨_, _, _, _, _, _, _, _, _, _, _, _, h, _⟩ => absurd h (Nat.not_lt_zero _), b, F.kp⟩
  | succ n O_law_wide =>
    refine ⟨fd, F.ok (k := n + 3) sc_wide (fun vs H Q E h => ?_) (fun cdv A outer s_ H vs Q E hr h => ?_), b, F.kp⟩
    · obtain ⟨M, s, kn, ks, many, deep, rfl, _⟩ := h
      rfl
    obtain ⟨M, s, kn, ks, many, deep, rfl, hM, hA, hk, m1, m2, hd, q⟩ := h
    have r_law_digit : Room 1 _ := hr.mono (by omega)
    have r_law_simple : Room 2 _ := hr.mono (by omega)
    have r_law_wide := hr
    refine ⟨_, pss_cons (ps_if (PW.pt (pw_or (pt_cmpR op_eq (pv 2) pe_int (nomark _)) (pw_or1 (pt_cmpR op_eq (pv 3) pe_int (nomark _))))) (pss_one (ps_ret (pe_f O_law_simple r_law_simple T.g__law_simple (pa_cons (pv 0) (pa_cons (pv 1) pa_nil))))) pss_nil)
      (pss_cons (ps_set (i := 4) sc_wide.nd rfl (Or.inl rfl) (pe_f O_law_digit r_law_digit T.g__law_digit (pa_cons (pv 0) (pa_cons pe_int pa_nil))))
      (pss_cons (ps_if (pt_cmpR op_eq (pv 4) pe_int (nomark _)) (pss_one (ps_ret (pe_tup (pa_cons pe_str (pa_cons (pe_f O_law_wide r_law_wide T.g__law_wide (pa_cons (pv 0) (pa_cons (pv 1) (pa_cons (pv 2) (pa_cons (pe_op op_sub (pv 3) pe_int) pa_nil))))) pa_nil))))) pss_nil)
      (pss_cons (ps_set (i := 5) sc_wide.nd rfl (Or.inl rfl) (pe_op op_add pe_int (pe_f O_law_digit r_law_digit T.g__law_digit (pa_cons (pv 0) (pa_cons (pe_op op_sub (pv 2) pe_int) pa_nil)))))
      (pss_cons (ps_set (i := 6) sc_wide.nd rfl (Or.inl rfl) (pe_f O_law_wide r_law_wide T.g__law_wide (pa_cons (pv 0) (pa_cons (pv 1) (pa_cons (pv 5) (pa_cons (pe_op op_sub (pv 3) pe_int) pa_nil))))))
      (pss_one (ps_ret (pe_tup (pa_cons (pe_ix ix_list (pe_lst (pa_cons pe_str (pa_cons pe_str pa_nil))) (pe_op op_mod (pv 4) pe_int) (fun _ _ => rfl)) (pa_cons (pv 6) (pa_cons (pe_f O_law_wide r_law_wide T.g__law_wide (pa_cons (pv 0) (pa_cons (pv 1) (pa_cons (pe_op op_sub (pv 2) (pv 5)) (pa_cons (pe_op op_sub (pv 3) pe_int) pa_nil))))) pa_nil)))))))))), ?_⟩
    have simp0 : spSimple K ([.ref s, .ref kn] ++ []) H Q E0 := ⟨M, s, kn, ks, rfl, hM, hA, hk, fun v H' c e1 s1 d1 c1 c2 c3 => q v H' c e1 s1 d1 c1 (by omega) (Nat.le_trans c3 m1)⟩
    have lessM : ∀ {G G' : Hp}, BM [s] G G' → Same (less G M) (less G' M) := fun e => (e.mono fun b hb => by rw [List.mem_singleton.mp hb]; exact hA.sm).less
    walk_at "go"
    refine ⟨rfl, _, rfl, ?_⟩
    rw [decV]
    by_cases cm : (many : Int) = 1
    · rw [decide_eq_true cm]
      walk_at "go"
      exact simp0
    rw [decide_eq_false cm]
    walk_at "go"
    refine ⟨rfl, _, rfl, ?_⟩
    rw [decV]
    by_cases cd : (deep : Int) = 0
    · rw [decide_eq_true cd]
      walk_at "go"
      exact simp0
    rw [decide_eq_false cd]
    walk_at "go"
    refine ⟨s, 5, rfl, hA.src, by decide, by decide, fun r1 H1 hr1 e1 s1 => ?_⟩
    have hA1 := hA.bm e1 s1
    have hM1 := hM.bm e1
    walk_at "go"
    refine ⟨rfl, _, rfl, ?_⟩
    rw [decV]
    have dpp : ((deep : Int) - 1) = ((deep - 1 : Nat) : Int) := by omega
    by_cases cw : (r1 : Int) = 0
    · rw [decide_eq_true cw]
      walk_at "go"
      rw [dpp]
      refine ⟨M, s, kn, ks, many, deep - 1, rfl, hM1, hA1, hk, m1, m2, by omega, fun v H2 c e2 s2 d2 v2 dp2 sm2 => ?_⟩
      refine ⟨(by show 2 ≤ sizeLine; decide), fun t ht => ?_⟩
      have e3 := Same.new ht (.tup [.str "not", v])
      exact q _ _ (.no c) ((e1.trans e2).same e3) (s2.same e3) (.no (less_of upd_same ((hM1.bm e2).new ht)) (d2.same (lessM (BM.of e3)))) v2 (by show c.dep + 1 ≤ deep; omega) sm2
    rw [decide_eq_false cw]
    walk_at "go"
    refine ⟨s, (many : Int) - 1, rfl, s1, by omega, by omega, fun r2 H2 hr2 e2 s2 => ?_⟩
    have hA2 := hA1.bm e2 s2
    have hM2 := hM1.bm e2
    walk_at "go"
    rw [dpp, show ((1 : Int) + (r2 : Int)) = ((1 + r2 : Nat) : Int) by omega]
    refine ⟨M, s, kn, ks, 1 + r2, deep - 1, rfl, hM2, hA2, hk, by omega, by omega, by omega, fun v H3 c e3 s3 d3 v3 dp3 sm3 => ?_⟩
    have hA3 := hA2.bm e3 s3
    have hM3 := hM2.bm e3
    walk_at "go"
    refine ⟨(by show 2 ≤ sizeLine; decide), fun l hl => ?_⟩
    have e4 := Same.new hl (.lst [.str "both", .str "either"])
    have g4 : (upd H3 l (.lst [.str "both", .str "either"])) l = some (.lst [.str "both", .str "either"]) := upd_same
    generalize upd H3 l (.lst [.str "both", .str "either"]) = H4 at e4 g4 ⊢
    walk_at "go"
    refine w_i (by decide) ?_
    have hA4 := hA3.same e4
    have hM4 := hM3.bm (BM.of e4 : BM [] _ _)
    have e14 := ((e1.trans e2).trans e3).same e4
    have fin : ∀ (z : Str) (C : Cd → Cd → Cd), (∀ (B : Hp) (t : Addr) (u u' : V) (a b : Cd), B t = some (.tup [.str z, u, u']) → DC B u a → DC B u' b → DC B (.ref t) (C a b)) → (∀ a b, (C a b).dep = max a.dep b.dep + 1) → (∀ a b, (C a b).simp = a.simp ++ b.simp) →
        ∀ p v5 H5 c5, H5 p = none → BM [s] H4 H5 → Sd H5 s → DC (less H5 M) v5 c5 → CV ks c5 → c5.dep ≤ deep - 1 → c5.simp.length ≤ many - (1 + r2) → Q (.ref p) (upd H5 p (.tup [.str z, v, v5])) := fun z C mk hdep hsim p v5 H5 c5 hp e5 s5 d5 cv5 dp5 sm5 => by
      have e6 := Same.new hp (.tup [.str z, v, v5])
      refine q _ _ (C c c5) ((e14.trans e5).same e6) (s5.same e6) (mk _ _ _ _ _ _ (less_of upd_same ((hM4.bm e5).new hp)) ((d3.same (lessM (BM.of e4))).same (lessM (e5.same e6))) (d5.same (lessM (BM.of e6)))) (fun x hx => ?_) (by rw [hdep]; omega) (by rw [hsim, List.length_append]; omega)
      rw [hsim] at hx
      exact (List.mem_append.mp hx).elim (v3 x) (cv5 x)
    rcases (show r1 % 2 = 0 ∨ r1 % 2 = 1 by omega) with hp | hp
    · rw [show ((r1 : Int) % 2) = ((0 : Nat) : Int) by omega]
      refine w_ixL g4 rfl ?_
      walk_at "go"
      rw [dpp, show ((many : Int) - ((1 + r2 : Nat) : Int)) = ((many - (1 + r2) : Nat) : Int) by omega]
      refine ⟨M, s, kn, ks, many - (1 + r2), deep - 1, rfl, hM4, hA4, hk, by omega, by omega, by omega, fun v5 H5 c5 e5 s5 d5 cv5 dp5 sm5 => ?_⟩
      exact ⟨(by show 3 ≤ sizeLine; decide), fun p hp => fin "both" Cd.both (fun _ _ _ _ _ _ h a b => .both h a b) (fun _ _ => rfl) (fun _ _ => rfl) p v5 H5 c5 hp e5 s5 d5 cv5 dp5 sm5⟩
    · rw [show ((r1 : Int) % 2) = ((1 : Nat) : Int) by omega]
      refine w_ixL g4 rfl ?_
      walk_at "go"
      rw [dpp, show ((many : Int) - ((1 + r2 : Nat) : Int)) = ((many - (1 + r2) : Nat) : Int) by omega]
      refine ⟨M, s, kn, ks, many - (1 + r2), deep - 1, rfl, hM4, hA4, hk, by omega, by omega, by omega, fun v5 H5 c5 e5 s5 d5 cv5 dp5 sm5 => ?_⟩
      exact ⟨(by show 3 ≤ sizeLine; decide), fun p hp => fin "either" Cd.either (fun _ _ _ _ _ _ h a b => .either h a b) (fun _ _ => rfl) (fun _ _ => rfl) p v5 H5 c5 hp e5 s5 d5 cv5 dp5 sm5⟩
/-- a question with a condition -/
def MoreOk (k : Nat) (many : Nat) (ks : List Kn) (r : Rw) : Prop := ∃ z c, TagOf k z ∧ CV ks c ∧ c.dep ≤ 9 ∧ c.simp.length ≤ many ∧ (r = .one z ["x", "y"] (some c) ∨ r = .number z 0 2 (some c))
def spMore (K : PySem.W.Frag) : Sp := fun vs H Q _ => ∃ (M : List Addr) (s kn : Addr) (ks : List Kn) (k many : Nat), vs = [.ref s, .int (k : Int), .ref kn, .int (many : Int)] ∧ In M H ∧ Ah M H s kn ks ∧ 0 < ks.length ∧ k < 100 ∧ 1 ≤ many ∧ many ≤ 1000 ∧
  ∀ v H' r, BM [s] H H' → Sd H' s → DR (less H' M) v r → MoreOk k many ks r → Q v H'
theorem sc_more : FnScope ["_law_s", "_law_k", "_law_known", "_law_many", "_law_cond"] ["_law_s", "_law_k", "_law_known", "_law_many"] (defScope s__law_more) := ⟨rfl, rfl, rfl, by decide +kernel, rfl, by decide +kernel, by decide +kernel⟩
theorem ok_more (T : Tx K mg) : Ok P w K mg base 14 (He.ga K "_law_more") ["_law_s", "_law_k", "_law_known", "_law_many"] (spMore K) := by
  obtain ⟨fd, F⟩ := T.f__law_more
  have O_law_tag := ok_tag (P := P) (w := w) (base := base) T
  have O_law_digit := ok_digit (P := P) (w := w) (base := base) T
  have O_law_wide := ok_wide (P := P) (w := w) (base := base) T 10
  refine ⟨fd, F.ok (k := 13) sc_more (fun vs H Q E h => ?_) (fun cdv A outer s_ H vs Q E hr h => ?_), F.bindsN fun _ _ _ _ _ _ us hl => match us, hl with | [_, _, _, _], _ => rfl, F.kp⟩
  · obtain ⟨M, s, kn, ks, k, many, rfl, hM, hA, hk, k1, m1, m2, q⟩ := h
    rfl
  obtain ⟨M, s, kn, ks, k, many, rfl, hM, hA, hk, k1, m1, m2, q⟩ := h
  have hu65 := K3.Room.units65 hr
  have hu70 := K3.Room.units70 hr
  have hu4 := K3.Room.units4 hr
  have hu64 := Nat.lt_of_succ_lt hu65
  have hu0 := Nat.lt_of_le_of_lt (Nat.le_add_right _ 65) hu65
  have hu1 := Nat.lt_of_le_of_lt (Nat.add_le_add_left (show 1 ≤ 65 by decide) _) hu65
  have r_law_tag : Room 2 _ := hr.mono (by decide)
  have r_law_digit : Room 1 _ := hr.mono (by decide)
  have r_law_wide : Room 13 _ := hr.mono (by decide)
  refine ⟨_, pss_cons (ps_set (i := 4) sc_more.nd rfl (Or.inl rfl) (pe_f O_law_wide r_law_wide T.g__law_wide (pa_cons (pv 0) (pa_cons (pv 2) (pa_cons (pv 3) (pa_cons pe_int pa_nil))))))
      (pss_cons (ps_if (pt_cmpR op_eq (pe_f O_law_digit r_law_digit T.g__law_digit (pa_cons (pv 0) (pa_cons pe_int pa_nil))) pe_int (nomark _)) (pss_one (ps_ret (pe_tup (pa_cons pe_str (pa_cons (pe_f O_law_tag r_law_tag T.g__law_tag (pa_cons (pv 0) (pa_cons (pv 1) pa_nil))) (pa_cons (pe_lst (pa_cons pe_str (pa_cons pe_str pa_nil))) (pa_cons (pv 4) pa_nil))))))) pss_nil)
      (pss_one (ps_ret (pe_tup (pa_cons pe_str (pa_cons (pe_f O_law_tag r_law_tag T.g__law_tag (pa_cons (pv 0) (pa_cons (pv 1) pa_nil))) (pa_cons pe_int (pa_cons pe_int (pa_cons (pv 4) pa_nil))))))))), ?_⟩
  have lessM : ∀ {G G' : Hp}, BM [s] G G' → Same (less G M) (less G' M) := fun e => (e.mono fun b hb => by rw [List.mem_singleton.mp hb]; exact hA.sm).less
  walk_at "go"
  refine ⟨M, s, kn, ks, many, 9, rfl, hM, hA, hk, m1, m2, by decide, fun v1 H1 c e1 s1 d1 cv1 dp1 sm1 => ?_⟩
  have hM1 := hM.bm e1
  walk_at "go"
  refine ⟨s, 2, rfl, s1, by decide, by decide, fun r2 H2 hr2 e2 s2 => ?_⟩
  have hM2 := hM1.bm e2
  walk_at "go"
  refine ⟨rfl, _, rfl, ?_⟩
  rw [decV]
  by_cases cw : (r2 : Int) = 0
  · rw [decide_eq_true cw]
    walk_at "go"
    refine ⟨s, k, rfl, s2, k1, fun z H3 hz e3 s3 => ?_⟩
    walk_at "go"
    refine ⟨(by show 2 ≤ sizeLine; decide), fun l hl => ?_⟩
    have e4 := Same.new hl (.lst [.str "x", .str "y"])
    have g4 : (upd H3 l (.lst [.str "x", .str "y"])) l = some (.lst [.str "x", .str "y"]) := upd_same
    have hM4 := (hM2.bm e3).bm (BM.of e4 : BM [] _ _)
    have l4 : less (upd H3 l (.lst [.str "x", .str "y"])) M l = some (.lst ((["x", "y"] : List Str).map V.str)) := less_of g4 ((hM2.bm e3).new hl)
    generalize upd H3 l (.lst [.str "x", .str "y"]) = H4 at e4 g4 hM4 l4 ⊢
    walk_at "go"
    refine ⟨(by show 4 ≤ sizeLine; decide), fun t ht => ?_⟩
    have e5 := Same.new ht (.tup [.str "one", .str z, .ref l, v1])
    have eA := ((e2.trans e3).same e4).same e5
    exact q _ _ (.one z ["x", "y"] (some c)) (e1.trans eA) ((s3.same e4).same e5) (.one (less_of upd_same (hM4.new ht)) (lessM (BM.of e5) _ _ l4) (.some (d1.same (lessM eA)))) ⟨z, c, hz, cv1, dp1, sm1, .inl rfl⟩
  · rw [decide_eq_false cw]
    walk_at "go"
    refine ⟨s, k, rfl, s2, k1, fun z H3 hz e3 s3 => ?_⟩
    walk_at "go"
    refine ⟨(by show 5 ≤ sizeLine; decide), fun t ht => ?_⟩
    have e5 := Same.new ht (.tup [.str "number", .str z, .int 0, .int 2, v1])
    have eA := (e2.trans e3).same e5
    exact q _ _ (.number z 0 2 (some c)) (e1.trans eA) (s3.same e5) (.number (less_of upd_same ((hM2.bm e3).new ht)) (.some (d1.same (lessM eA)))) ⟨z, c, hz, cv1, dp1, sm1, .inr rfl⟩
end
end K3
end WK7_part
section WK8s_part
set_option Elab.async false
set_option linter.all false
set_option maxRecDepth 100000
set_option maxHeartbeats 1000000
set_option pp.deepTerms true
open PySem PySem.Spec PyProof.Rows L2
/-- go on as far as nothing is open -/
local macro_rules | `(tactic| walk_at "go") => `(tactic| repeat (first
  | with_reducible refine w_seq ?_ | with_reducible refine w_next ?_ | with_reducible refine w_set ?_ | with_reducible refine w_drop ?_ | with_reducible refine w_ret ?_ | with_reducible refine w_retN ?_
  | with_reducible refine w_if ?_ | ((with_reducible refine' w_var ?hv ?_); (case hv => exact rfl)) | with_reducible refine w_c ?_ | with_reducible refine w_nil ?_ | with_reducible refine w_cons ?_ | with_reducible refine w_op ?_ | with_reducible refine w_un ?_
  | with_reducible refine w_test ?_ | with_reducible refine w_tB ?_ | with_reducible refine w_not ?_ | with_reducible refine w_and ?_ | with_reducible refine w_or ?_ | with_reducible refine w_bl ?_
  | with_reducible refine w_andV ?_ | with_reducible refine w_orV ?_ | with_reducible refine w_notV ?_ | with_reducible refine w_ifE ?_ | with_reducible refine w_chain ?_ | with_reducible refine w_i0 ?_
  | with_reducible refine w_call ?_ | with_reducible refine w_callS ?_ | with_reducible refine w_cB ?_ | with_reducible refine w_tup ?_ | with_reducible refine w_lst ?_ | with_reducible refine w_fldV ?_
  | with_reducible refine w_neF ?_ | with_reducible refine w_neT ?_ | with_reducible refine w_notN ?_ | with_reducible refine w_isN ?_ | with_reducible refine w_gname ?_ | with_reducible refine w_gsub ?_ | with_reducible refine w_asg ?_ | with_reducible refine w_sl ?_ | with_reducible refine w_noP ?_ | with_reducible refine w_int1 ?_ | with_reducible refine w_part ?_ | with_reducible refine w_meth ?_ | with_reducible refine w_din ?_ | with_reducible refine w_dnotin ?_ | with_reducible refine w_dgt ?_ | with_reducible refine w_dget1 ?_ | with_reducible refine w_dget2 ?_ | with_reducible refine w_dput ?_ | with_reducible refine w_yes ?_ | with_reducible refine w_nT ?_ | with_reducible refine w_nF ?_ | with_reducible refine w_iteT ?_ | with_reducible refine w_iteF ?_))
namespace K3
open LamX NdefX LamP
/-! ### the rows of the great form -/
def dl : Nat → List Nat
  | 0 => [4]
  | j + 1 => (5 + j) :: dl j
def Kn4 (t0 t1 t2 t3 : Str) : List Kn := [.one t0 ["a", "b", "c"], .some t1 ["d", "e"], .num t2 0 3, .num t3 (-3) 2]
def NB : Rw → Prop
  | .number _ lo hi _ => hi ≤ lo + 5
  | _ => True
structure InnOk (ks : List Kn) (T : List Nat) (n d : Nat) (rs : List Rw) : Prop where
  tg : Paired TagOf T (Rws.nms rs)
  vr : ∀ ls, (∀ k ∈ ks, k ∈ ls) → VRs ls false rs
  ne : rs ≠ []
  cnt : Rws.cnt rs = n
  dep : Rws.dep rs ≤ d
  ru : RUs rs
  cds : Rws.cds 11 rs
  nck : Rws.nck rs false
  nb : ∀ r ∈ Rws.qs rs, NB r
structure RowsOk (ks : List Kn) (T : List Nat) (n : Nat) (rs : List Rw) : Prop where
  tg : Paired TagOf T (Rws.nms rs)
  vr : VRs [] false rs
  kn : ∀ k ∈ ks, k ∈ Rws.kns rs
  cnt : Rws.cnt rs = n
  dep : Rws.dep rs ≤ 11
  ru : RUs rs
  cds : Rws.cds 11 rs
  nck : Rws.nck rs false
  nb : ∀ r ∈ Rws.qs rs, NB r
theorem cds_app {D : Nat} : ∀ (rs us : List Rw), Rws.cds D (rs ++ us) ↔ Rws.cds D rs ∧ Rws.cds D us
  | [], us => by rw [List.nil_append, Rws.cds]; exact ⟨fun h => ⟨trivial, h⟩, fun h => h.2⟩
  | r :: rs, us => by rw [List.cons_append, Rws.cds, Rws.cds, cds_app rs us]; exact ⟨fun ⟨a, b, c⟩ => ⟨⟨a, b⟩, c⟩, fun ⟨⟨a, b⟩, c⟩ => ⟨a, b, c⟩⟩
theorem dep_app : ∀ (rs us : List Rw), Rws.dep (rs ++ us) = max (Rws.dep rs) (Rws.dep us)
  | [], us => by rw [List.nil_append, Rws.dep]; omega
  | r :: rs, us => by rw [List.cons_append, Rws.dep, Rws.dep, dep_app rs us]; omega
theorem RowsOk.app {ks : List Kn} {T T' : List Nat} {n n' d : Nat} {rs us : List Rw} (a : RowsOk ks T n rs) (b : InnOk ks T' n' d us) (hd : d ≤ 11) : RowsOk ks (T ++ T') (n + n') (rs ++ us) where
  tg := by rw [nms_app]; exact K3.Paired.app a.tg b.tg
  vr := (VRs_app rs us).mpr ⟨a.vr, b.vr _ fun k hk => by rw [List.nil_append]; exact a.kn k hk⟩
  kn := fun k hk => by rw [kns_app]; exact List.mem_append_left _ (a.kn k hk)
  cnt := by rw [cntA_app, a.cnt, b.cnt]
  dep := by rw [dep_app]; have := a.dep; have := b.dep; omega
  ru := (RUs_app rs us).mpr ⟨a.ru, b.ru⟩
  cds := (cds_app rs us).mpr ⟨a.cds, b.cds⟩
  nck := (nck_app rs us false).mpr ⟨a.nck, b.nck⟩
  nb := fun r hr => by
    rw [qs_app] at hr
    exact (List.mem_append.mp hr).elim (a.nb r) (b.nb r)
theorem xy_ok : OsV ["x", "y"] 6 := ⟨by decide, by decide, by decide +kernel, by decide +kernel⟩
theorem abc_ok : OsV ["a", "b", "c"] 6 := ⟨by decide, by decide, by decide +kernel, by decide +kernel⟩
theorem de_ok : OsV ["d", "e"] 4 := ⟨by decide, by decide, by decide +kernel, by decide +kernel⟩
theorem wv_some {ks ls : List Kn} {c : Cd} (h : CV ks c) (e : ∀ k ∈ ks, k ∈ ls) : WV ls (some c) := fun s hs => (h.mono (KsR.sub e)) s hs
theorem wv_none {ks : List Kn} : WV ks none := fun _ h => nomatch h
/-- what is wanted of one question -/
structure QuOk (ks : List Kn) (k : Nat) (r : Rw) : Prop where
  tg : ∃ z, TagOf k z ∧ Rw.nms r = [z]
  vr : ∀ ls b, (∀ k ∈ ks, k ∈ ls) → VR ls b r
  cnt : r.cnt = 1
  dep : r.dep = 0
  ru : RU r
  cds : r.cds 11
  nck : ∀ b, Rw.nck r b
  nb : ∀ q ∈ Rw.qs r, NB q
theorem MoreOk.qu {ks : List Kn} {k many : Nat} {r : Rw} (h : MoreOk k many ks r) (m : many ≤ 100) : QuOk ks k r := by
  obtain ⟨z, c, hz, cv, dp, sm, rfl | rfl⟩ := h
  · refine ⟨⟨z, hz, by rw [Rw.nms]⟩, fun ls b e => by rw [VR]; exact ⟨xy_ok, wv_some cv e⟩, by simp [Rw.cnt], by simp [Rw.dep], by rw [RU]; exact ⟨show c.dep ≤ 10 by omega, show c.simp.length ≤ 100 by omega⟩, by rw [Rw.cds]; exact fun c' e => by cases e; omega, fun b => by simp [Rw.nck], fun q hq => by rw [Rw.qs] at hq; rw [List.mem_singleton.mp hq]; simp [NB]⟩
  · refine ⟨⟨z, hz, by rw [Rw.nms]⟩, fun ls b e => by rw [VR]; exact ⟨by decide, wv_some cv e⟩, by simp [Rw.cnt], by simp [Rw.dep], by rw [RU]; exact ⟨show c.dep ≤ 10 by omega, show c.simp.length ≤ 100 by omega⟩, by rw [Rw.cds]; exact fun c' e => by cases e; omega, fun b => by simp [Rw.nck], fun q hq => by rw [Rw.qs] at hq; rw [List.mem_singleton.mp hq]; simp [NB]⟩
theorem QuOk.inn {ks : List Kn} {k : Nat} {r : Rw} (h : QuOk ks k r) : InnOk ks [k] 1 0 [r] := by
  obtain ⟨z, hz, hn⟩ := h.tg
  exact ⟨by rw [nms_one, hn]; exact .cons hz .nil, fun ls e => (VRs_one r).mpr (h.vr ls false e), by simp, by rw [Rws.cnt, Rws.cnt, h.cnt], by rw [Rws.dep, Rws.dep, h.dep]; decide, (RUs_one r).mpr h.ru, by rw [Rws.cds, Rws.cds]; exact ⟨h.cds, trivial⟩, by rw [Rws.nck, Rws.nck]; exact ⟨h.nck _, trivial⟩, fun q hq => h.nb q (by rw [qs_one] at hq; exact hq)⟩
theorem inn_check {ks : List Kn} {z : Str} {m : Cd} (hz : TagOf 40 z) (cv : CV ks m) (dp : m.dep ≤ 9) (sm : m.simp.length ≤ 100) : InnOk ks [40] 1 0 [.check z m none] :=
  ⟨by rw [nms_one, Rw.nms]; exact .cons hz .nil, fun ls e => (VRs_one _).mpr (by rw [VR]; exact ⟨cv.mono (KsR.sub e), wv_none⟩), by simp, by simp [Rws.cnt, Rw.cnt], by simp [Rws.dep, Rw.dep], (RUs_one _).mpr (by rw [RU]; exact ⟨⟨by omega, sm⟩, show (0 : Nat) ≤ 10 by decide, show 0 ≤ 100 by decide⟩),
    by rw [Rws.cds, Rws.cds, Rw.cds]; exact ⟨⟨by omega, fun c e => nomatch e⟩, trivial⟩, by rw [Rws.nck, Rws.nck, Rw.nck]; exact ⟨rfl, trivial⟩, fun q hq => by rw [qs_one, Rw.qs] at hq; cases hq⟩
theorem inn_rounds {ks : List Kn} {t : Str} {r : Rw} (h : QuOk ks 4 r) (hk : Kn.num t 0 3 ∈ ks) : InnOk ks (dl 0) 2 1 [.rounds t [r] none] := by
  obtain ⟨z, hz, hn⟩ := h.tg
  refine ⟨by rw [nms_one, Rw.nms, nms_one, hn]; exact .cons hz .nil, fun ls e => (VRs_one _).mpr ?_, by simp, by rw [Rws.cnt, Rws.cnt, Rw.cnt, Rws.cnt, Rws.cnt, h.cnt], by rw [Rws.dep, Rws.dep, Rw.dep, Rws.dep, Rws.dep, h.dep]; decide, (RUs_one _).mpr ?_, ?_, ?_, fun q hq => h.nb q (by rw [qs_one, Rw.qs, qs_one] at hq; exact hq)⟩
  · rw [VR]
    exact ⟨rfl, by simp, ⟨3, e _ hk, by decide⟩, (VRs_one r).mpr (h.vr ls true e), wv_none⟩
  · rw [RU]
    exact ⟨(RUs_one r).mpr h.ru, show (0 : Nat) ≤ 10 by decide, show 0 ≤ 100 by decide⟩
  · rw [Rws.cds, Rws.cds, Rw.cds, Rws.cds, Rws.cds]
    exact ⟨⟨⟨h.cds, trivial⟩, fun c e => nomatch e⟩, trivial⟩
  · rw [Rws.nck, Rws.nck, Rw.nck, Rws.nck, Rws.nck]
    exact ⟨⟨h.nck _, trivial⟩, trivial⟩
theorem inn_sect {ks : List Kn} {j : Nat} {r : Rw} {us : List Rw} {w : Option Cd} (h : QuOk ks (5 + j) r) (u : InnOk ks (dl j) (2 + 2 * j) (1 + j) us) (wv : WV ks w) (wd : odep w ≤ 9) (ws : (owh w).length ≤ 100) : InnOk ks (dl (j + 1)) (2 + 2 * (j + 1)) (1 + (j + 1)) [.sect ([r] ++ us) w] := by
  obtain ⟨z, hz, hn⟩ := h.tg
  have wd' : ∀ c, w = some c → c.dep < 11 := fun c e => by rw [e] at wd; have : c.dep ≤ 9 := wd; omega
  refine ⟨by rw [nms_one, Rw.nms, nms_app, nms_one, hn]; exact .cons hz u.tg, fun ls e => (VRs_one _).mpr ?_, by simp, by rw [Rws.cnt, Rws.cnt, Rw.cnt, cntA_app, Rws.cnt, Rws.cnt, h.cnt, u.cnt]; omega, by rw [Rws.dep, Rws.dep, Rw.dep, dep_app, Rws.dep, Rws.dep, h.dep]; have := u.dep; omega, (RUs_one _).mpr ?_, ?_, ?_, fun q hq => by rw [qs_one, Rw.qs, qs_app, qs_one] at hq; exact (List.mem_append.mp hq).elim (h.nb q) (u.nb q)⟩
  · rw [VR]
    refine ⟨by simp, (VRs_app _ _).mpr ⟨(VRs_one r).mpr (h.vr ls false e), u.vr _ fun k hk => List.mem_append_left _ (e k hk)⟩, wv.mono (KsR.sub e)⟩
  · rw [RU]
    exact ⟨(RUs_app _ _).mpr ⟨(RUs_one r).mpr h.ru, u.ru⟩, Nat.le_trans wd (by decide), ws⟩
  · rw [Rws.cds, Rws.cds, Rw.cds]
    exact ⟨⟨(cds_app _ _).mpr ⟨by rw [Rws.cds, Rws.cds]; exact ⟨h.cds, trivial⟩, u.cds⟩, wd'⟩, trivial⟩
  · rw [Rws.nck, Rws.nck, Rw.nck]
    exact ⟨(nck_app _ _ _).mpr ⟨by rw [Rws.nck, Rws.nck]; exact ⟨h.nck _, trivial⟩, u.nck⟩, trivial⟩
theorem rows_four {t0 t1 t2 t3 : Str} (h0 : TagOf 0 t0) (h1 : TagOf 1 t1) (h2 : TagOf 2 t2) (h3 : TagOf 3 t3) : RowsOk (Kn4 t0 t1 t2 t3) [0, 1, 2, 3] 4 ([.one t0 ["a", "b", "c"] none, .some t1 ["d", "e"] none] ++ [.number t2 0 3 none, .number t3 (-3) 2 none]) where
  tg := by
    simp only [List.cons_append, List.nil_append, Rws.nms, Rw.nms]
    exact .cons h0 (.cons h1 (.cons h2 (.cons h3 .nil)))
  vr := by
    simp only [List.cons_append, List.nil_append, VRs, VR]
    exact ⟨⟨abc_ok, wv_none⟩, ⟨de_ok, wv_none⟩, ⟨by decide, wv_none⟩, ⟨by decide, wv_none⟩, trivial⟩
  kn := fun k hk => by
    simp only [List.cons_append, List.nil_append, Rws.kns, Rw.kns]
    exact hk
  cnt := by simp only [List.cons_append, List.nil_append, Rws.cnt, Rw.cnt]
  dep := by simp only [List.cons_append, List.nil_append, Rws.dep, Rw.dep]; decide
  ru := by
    simp only [List.cons_append, List.nil_append, RUs, RU]
    have w : WU none := ⟨show (0 : Nat) ≤ 10 by decide, show 0 ≤ 100 by decide⟩
    exact ⟨w, w, w, w, trivial⟩
  cds := by
    simp only [List.cons_append, List.nil_append, Rws.cds, Rw.cds]
    exact ⟨(fun c e => nomatch e), (fun c e => nomatch e), (fun c e => nomatch e), (fun c e => nomatch e), trivial⟩
  nck := by
    simp only [List.cons_append, List.nil_append, Rws.nck, Rw.nck]
    exact ⟨trivial, trivial, trivial, trivial, trivial⟩
  nb := fun r hr => by
    simp only [List.cons_append, List.nil_append, Rws.qs, Rw.qs, List.mem_cons, List.not_mem_nil, or_false] at hr
    rcases hr with rfl | rfl | rfl | rfl <;> simp [NB]
theorem tags_nd {T : List Nat} {zs : List Str} (h : Paired TagOf T zs) : T.Nodup → zs.Nodup := by
  induction h with
  | nil => exact fun _ => List.nodup_nil
  | @cons k z T zs hz t ih =>
    intro nd
    rw [List.nodup_cons] at nd ⊢
    refine ⟨fun hm => nd.1 ?_, ih nd.2⟩
    clear ih nd
    induction t with
    | nil => cases hm
    | @cons j y T zs hy t ih =>
      rcases List.mem_cons.mp hm with e | e
      · subst e
        rw [hz.inj hy]
        exact List.mem_cons_self ..
      · exact List.mem_cons_of_mem _ (ih e)
theorem tags_nm {T : List Nat} {zs : List Str} (h : Paired TagOf T zs) : (∀ k ∈ T, k < 100) → ∀ z ∈ zs, isName z = true := by
  induction h with
  | nil => exact fun _ _ h => nomatch h
  | cons hz t ih =>
    intro k z hm
    rcases List.mem_cons.mp hm with e | e
    · rw [e]; exact hz.name (k _ (List.mem_cons_self ..))
    · exact ih (fun j hj => k j (List.mem_cons_of_mem _ hj)) z e
def tagsL : List Nat := [0, 1, 2, 3] ++ dl 10 ++ (List.range 13).map (20 + ·) ++ [40]
theorem tagsL_ok : tagsL.Nodup ∧ ∀ k ∈ tagsL, k < 100 := by decide +kernel
/-- the great form -/
structure GreatOk (rs : List Rw) : Prop where
  vr : VRs [] false rs
  nm : ∀ z ∈ Rws.nms rs, isName z = true
  nd : (Rws.nms rs).Nodup
  cnt : Rws.cnt rs = 40
  dep : Rws.dep rs ≤ 11
  ru : RUs rs
  cds : Rws.cds 11 rs
  nck : Rws.nck rs false
  nb : ∀ r ∈ Rws.qs rs, NB r
theorem great_of {ks : List Kn} {rs : List Rw} (h : RowsOk ks tagsL 40 rs) : GreatOk rs := ⟨h.vr, tags_nm h.tg tagsL_ok.2, tags_nd h.tg tagsL_ok.1, h.cnt, h.dep, h.ru, h.cds, h.nck, h.nb⟩
theorem GreatOk.form {rs : List Rw} (h : GreatOk rs) : formF rs = none := form_V h.vr h.nm h.nd (by rw [h.cnt]; decide) (by rw [h.cnt]; decide)
/-! how much is asked -/
mutual
theorem Rw.cost_in : ∀ (r : Rw) {ks : List Kn}, VR ks true r → r.cost ≤ r.cnt
  | .one _ _ _, _, _ => by simp [Rw.cost, Rw.cnt]
  | .some _ _ _, _, _ => by simp [Rw.cost, Rw.cnt]
  | .number _ _ _ _, _, _ => by simp [Rw.cost, Rw.cnt]
  | .check _ _ _, _, _ => by simp [Rw.cost, Rw.cnt]
  | .sect us _, ks, h => by rw [VR] at h; rw [Rw.cost, Rw.cnt]; have := Rws.cost_in us h.2.1; omega
  | .rounds _ us _, ks, h => by rw [VR] at h; exact absurd h.1 (by decide)
theorem Rws.cost_in : ∀ (us : List Rw) {ks : List Kn}, VRs ks true us → Rws.cost us ≤ Rws.cnt us
  | [], _, _ => by rw [Rws.cost, Rws.cnt]; exact Nat.le_refl _
  | r :: us, ks, h => by rw [VRs] at h; rw [Rws.cost, Rws.cnt]; have := Rw.cost_in r h.1; have := Rws.cost_in us h.2; omega
end
mutual
theorem Rw.cost_4 : ∀ (r : Rw) {ks : List Kn}, VR ks false r → r.cost ≤ 4 * r.cnt
  | .one _ _ _, _, _ => by simp [Rw.cost, Rw.cnt]
  | .some _ _ _, _, _ => by simp [Rw.cost, Rw.cnt]
  | .number _ _ _ _, _, _ => by simp [Rw.cost, Rw.cnt]
  | .check _ _ _, _, _ => by simp [Rw.cost, Rw.cnt]
  | .sect us _, ks, h => by rw [VR] at h; rw [Rw.cost, Rw.cnt]; have := Rws.cost_4 us h.2.1; omega
  | .rounds _ us _, ks, h => by rw [VR] at h; rw [Rw.cost, Rw.cnt]; have := Rws.cost_in us h.2.2.2.1; omega
theorem Rws.cost_4 : ∀ (us : List Rw) {ks : List Kn}, VRs ks false us → Rws.cost us ≤ 4 * Rws.cnt us
  | [], _, _ => by rw [Rws.cost, Rws.cnt]; exact Nat.le_refl _
  | r :: us, ks, h => by rw [VRs] at h; rw [Rws.cost, Rws.cnt]; have := Rw.cost_4 r h.1; have := Rws.cost_4 us h.2; omega
end
theorem GreatOk.few {rs : List Rw} {al : Ans} (h : GreatOk rs) : (wRows rs al rs 0 [] []).2.1.length ≤ 9000 := by
  have a := rows_len (al := al) (wt_form h.form) 0 [] [] good_nil
  have b := Rws.cost_4 rs h.vr
  have c := h.cnt
  simp only [List.length_nil] at a
  omega
theorem KL.more {M : List Addr} {H : Hp} {kn p : Addr} {ks : List Kn} (h : KL M H kn ks) (hp : H p = none) (o : HO) : KL (p :: M) (upd H p o) kn ks := by
  obtain ⟨xs, h1, h2⟩ := h
  refine ⟨xs, Same.new hp o _ _ h1, L2.Paired.mapP h2 fun _ _ q => q.same fun b u hb => ?_⟩
  have nb : b ≠ p := fun z => by have := (less_at hb).1; rw [z, hp] at this; cases this
  exact less_of (Same.new hp o _ _ (less_at hb).1) fun z => by
    rcases List.mem_cons.mp z with z | z
    · exact nb z
    · exact (less_at hb).2 z
theorem In.more {M : List Addr} {H : Hp} {p : Addr} (h : In M H) (hp : H p = none) (o : HO) : In (p :: M) (upd H p o) := fun m hm => by
  rcases List.mem_cons.mp hm with z | z
  · exact ⟨o, by rw [z]; exact upd_same⟩
  · obtain ⟨u, hu⟩ := h m z
    exact ⟨u, Same.new hp o _ _ hu⟩
theorem less_more {M : List Addr} {H : Hp} {p : Addr} (hp : H p = none) (o : HO) : Same (less H M) (less (L2.upd H p o) (p :: M)) := fun b u hb => by
  have nb : b ≠ p := fun z => by have := (less_at hb).1; rw [z, hp] at this; cases this
  exact less_of (Same.new hp o _ _ (less_at hb).1) fun z => by
    rcases List.mem_cons.mp z with z | z
    · exact nb z
    · exact (less_at hb).2 z
theorem BM.cut {M : List Addr} {H H1 H2 : Hp} {p : Addr} (a : BM M H H1) (b : BM (p :: M) H1 H2) (hp : H p = none) : BM M H H2 := fun c o h => by
  obtain ⟨o1, h1, k1⟩ := a c o h
  obtain ⟨o2, h2, k2⟩ := b c o1 h1
  refine ⟨o2, h2, fun n => ?_⟩
  rw [k2 (fun z => by
    rcases List.mem_cons.mp z with z | z
    · rw [z, hp] at h; cases h
    · exact n z), k1 n]
end K3
end WK8s_part
section WK8_part
set_option Elab.async false
set_option linter.all false
set_option maxRecDepth 100000
set_option maxHeartbeats 1000000
set_option pp.deepTerms true
open PySem PySem.Spec PyProof.Rows L2
/-- go on as far as nothing is open -/
local macro_rules | `(tactic| walk_at "go") => `(tactic| repeat (first
  | with_reducible refine w_seq ?_ | with_reducible refine w_next ?_ | with_reducible refine w_set ?_ | with_reducible refine w_drop ?_ | with_reducible refine w_ret ?_ | with_reducible refine w_retN ?_
  | with_reducible refine w_if ?_ | ((with_reducible refine' w_var ?hv ?_); (case hv => exact rfl)) | with_reducible refine w_c ?_ | with_reducible refine w_nil ?_ | with_reducible refine w_cons ?_ | with_reducible refine w_op ?_ | with_reducible refine w_un ?_
  | with_reducible refine w_test ?_ | with_reducible refine w_tB ?_ | with_reducible refine w_not ?_ | with_reducible refine w_and ?_ | with_reducible refine w_or ?_ | with_reducible refine w_bl ?_
  | with_reducible refine w_andV ?_ | with_reducible refine w_orV ?_ | with_reducible refine w_notV ?_ | with_reducible refine w_ifE ?_ | with_reducible refine w_chain ?_ | with_reducible refine w_i0 ?_
  | with_reducible refine w_call ?_ | with_reducible refine w_callS ?_ | with_reducible refine w_cB ?_ | with_reducible refine w_tup ?_ | with_reducible refine w_lst ?_ | with_reducible refine w_fldV ?_
  | with_reducible refine w_neF ?_ | with_reducible refine w_neT ?_ | with_reducible refine w_notN ?_ | with_reducible refine w_isN ?_ | with_reducible refine w_gname ?_ | with_reducible refine w_gsub ?_ | with_reducible refine w_asg ?_ | with_reducible refine w_sl ?_ | with_reducible refine w_noP ?_ | with_reducible refine w_int1 ?_ | with_reducible refine w_part ?_ | with_reducible refine w_meth ?_ | with_reducible refine w_din ?_ | with_reducible refine w_dnotin ?_ | with_reducible refine w_dgt ?_ | with_reducible refine w_dget1 ?_ | with_reducible refine w_dget2 ?_ | with_reducible refine w_dput ?_ | with_reducible refine w_yes ?_ | with_reducible refine w_nT ?_ | with_reducible refine w_nF ?_ | with_reducible refine w_iteT ?_ | with_reducible refine w_iteF ?_))
namespace K3
open LamX NdefX LamP
def spGreat (K : PySem.W.Frag) : Sp := fun vs H Q _ => ∃ s : Addr, vs = [.ref s] ∧ Sd H s ∧ ∀ l H' xs rs, H l = none → BM [s] H H' → Sd H' s → H' l = some (.lst xs) → DRs (less H' [s]) xs rs → GreatOk rs → Q (.ref l) H'
theorem paired4 {zs : List Str} (h : Paired TagOf [0, 1, 2, 3] zs) : ∃ a b c d, zs = [a, b, c, d] ∧ TagOf 0 a ∧ TagOf 1 b ∧ TagOf 2 c ∧ TagOf 3 d := by
  cases h with
  | cons h0 t =>
    cases t with
    | cons h1 t =>
      cases t with
      | cons h2 t =>
        cases t with
        | cons h3 t =>
          cases t
          exact ⟨_, _, _, _, rfl, h0, h1, h2, h3⟩
section
variable {P : Program} {w : World} {K : PySem.W.Frag} {mg : Str → Option Value} {base : Heap}
theorem sc_great_rows : FnScope ["_law_s", "_law_k", "_law_tags", "_law_known", "_law_rows", "_law_inner", "_law_cond"] ["_law_s"] (defScope s__law_great_rows) := ⟨rfl, rfl, rfl, by decide +kernel, rfl, by decide +kernel, by decide +kernel⟩
theorem ok_great_rows (T : Tx K mg) : Ok P w K mg base 15 (He.ga K "_law_great_rows") ["_law_s"] (spGreat K) := by
  obtain ⟨fd, F⟩ := T.f__law_great_rows
  have O_law_digit := ok_digit (P := P) (w := w) (base := base) T
  have O_law_tag := ok_tag (P := P) (w := w) (base := base) T
  have O_law_wide := ok_wide (P := P) (w := w) (base := base) T 10
  have O_law_more := ok_more (P := P) (w := w) (base := base) T
  refine ⟨fd, F.ok (k := 14) sc_great_rows (fun vs H Q E h => ?_) (fun cdv A outer s_ H vs Q E hr h => ?_), F.bindsN fun _ _ _ _ _ _ us hl => match us, hl with | [_], _ => rfl, F.kp⟩
  · obtain ⟨s, rfl, _⟩ := h
    rfl
  obtain ⟨s, rfl, hs, q⟩ := h
  have r_law_digit : Room 1 _ := hr.mono (by decide)
  have r_law_tag : Room 2 _ := hr.mono (by decide)
  have r_law_wide : Room 13 _ := hr.mono (by decide)
  have r_law_more : Room 14 _ := hr
  refine ⟨_, pss_cons (by exact ps_setLc (i := 2) (own := [("_law_k", 1)]) (g := gName 1) (tt := tYes) (te := (tCall (spTag K) [] E0 (tCons (tVar 0) (tCons (tVar 1) tNil)))) (by rfl) sc_great_rows.nd rfl rfl (by rfl) (pi_range1 rfl T.z_range (pa_cons pe_int pa_nil)) (blkOk_by (own := [("_law_k", 1)]) (N := ["_law_s", "_law_k", "_law_tags", "_law_known", "_law_rows", "_law_inner", "_law_cond"]) (sc := defScope s__law_great_rows) (by decide +kernel)) (fun _ _ _ _ _ => (pg_name (i := 1) sc_great_rows.nd rfl (Or.inl rfl))) (fun _ _ _ _ _ => pts_nil) (fun _ _ _ _ _ => (pe_f O_law_tag r_law_tag T.g__law_tag (pa_cons (pv 0) (pa_cons (pv 1) pa_nil)))))
      (pss_cons (ps_set (i := 3) sc_great_rows.nd rfl (Or.inl rfl) (pe_lst (pa_cons (pe_tup (pa_cons (pe_ix ix_list (pv 2) pe_int (fun _ _ => rfl)) (pa_cons pe_str (pa_cons (pe_lst (pa_cons pe_str (pa_cons pe_str (pa_cons pe_str pa_nil)))) pa_nil)))) (pa_cons (pe_tup (pa_cons (pe_ix ix_list (pv 2) pe_int (fun _ _ => rfl)) (pa_cons pe_str (pa_cons (pe_lst (pa_cons pe_str (pa_cons pe_str pa_nil))) pa_nil)))) pa_nil))))
      (pss_cons (ps_set (i := 3) sc_great_rows.nd rfl (Or.inl rfl) (pe_op op_cat (pv 3) (pe_lst (pa_cons (pe_tup (pa_cons (pe_ix ix_list (pv 2) pe_int (fun _ _ => rfl)) (pa_cons pe_str (pa_cons (pe_tup (pa_cons pe_int (pa_cons pe_int pa_nil))) pa_nil)))) (pa_cons (pe_tup (pa_cons (pe_ix ix_list (pv 2) pe_int (fun _ _ => rfl)) (pa_cons pe_str (pa_cons (pe_tup (pa_cons (pe_un un_neg pe_int) (pa_cons pe_int pa_nil))) pa_nil)))) pa_nil)))))
      (pss_cons (ps_set (i := 4) sc_great_rows.nd rfl (Or.inl rfl) (pe_lst (pa_cons (pe_tup (pa_cons pe_str (pa_cons (pe_ix ix_list (pv 2) pe_int (fun _ _ => rfl)) (pa_cons (pe_lst (pa_cons pe_str (pa_cons pe_str (pa_cons pe_str pa_nil)))) (pa_cons pe_non pa_nil))))) (pa_cons (pe_tup (pa_cons pe_str (pa_cons (pe_ix ix_list (pv 2) pe_int (fun _ _ => rfl)) (pa_cons (pe_lst (pa_cons pe_str (pa_cons pe_str pa_nil))) (pa_cons pe_non pa_nil))))) pa_nil))))
      (pss_cons (ps_set (i := 4) sc_great_rows.nd rfl (Or.inl rfl) (pe_op op_cat (pv 4) (pe_lst (pa_cons (pe_tup (pa_cons pe_str (pa_cons (pe_ix ix_list (pv 2) pe_int (fun _ _ => rfl)) (pa_cons pe_int (pa_cons pe_int (pa_cons pe_non pa_nil)))))) (pa_cons (pe_tup (pa_cons pe_str (pa_cons (pe_ix ix_list (pv 2) pe_int (fun _ _ => rfl)) (pa_cons (pe_un un_neg pe_int) (pa_cons pe_int (pa_cons pe_non pa_nil)))))) pa_nil)))))
      (pss_cons (ps_set (i := 5) sc_great_rows.nd rfl (Or.inl rfl) (pe_lst (pa_cons (pe_tup (pa_cons pe_str (pa_cons (pe_ix ix_list (pv 2) pe_int (fun _ _ => rfl)) (pa_cons (pe_lst (pa_cons (pe_f O_law_more r_law_more T.g__law_more (pa_cons (pv 0) (pa_cons pe_int (pa_cons (pv 3) (pa_cons pe_int pa_nil))))) pa_nil)) (pa_cons pe_non pa_nil))))) pa_nil)))
      (pss_cons (ps_for (passes_of rfl) (by rfl) (pi_range1 rfl T.z_range (pa_cons pe_int pa_nil)) (pg_name (i := 1) sc_great_rows.nd rfl (Or.inl rfl)) (pss_cons (ps_set (i := 6) sc_great_rows.nd rfl (Or.inl rfl) (pe_ix ix_list (pe_lst (pa_cons pe_non (pa_cons (pe_f O_law_wide r_law_wide T.g__law_wide (pa_cons (pv 0) (pa_cons (pv 3) (pa_cons (pe_op op_add pe_int (pe_f O_law_digit r_law_digit T.g__law_digit (pa_cons (pv 0) (pa_cons pe_int pa_nil)))) (pa_cons pe_int pa_nil))))) pa_nil))) (pe_callTy call_int1 (by rfl) T.z_int (by decide +kernel) (pa_cons (pe_cmpR op_eq (pe_f O_law_digit r_law_digit T.g__law_digit (pa_cons (pv 0) (pa_cons pe_int pa_nil))) pe_int rfl) pa_nil)) (fun _ _ => rfl)))
      (pss_one (ps_set (i := 5) sc_great_rows.nd rfl (Or.inl rfl) (pe_lst (pa_cons (pe_tup (pa_cons pe_str (pa_cons (pe_op op_cat (pe_lst (pa_cons (pe_f O_law_more r_law_more T.g__law_more (pa_cons (pv 0) (pa_cons (pe_op op_add pe_int (pv 1)) (pa_cons (pv 3) (pa_cons (pe_op op_add pe_int (pe_f O_law_digit r_law_digit T.g__law_digit (pa_cons (pv 0) (pa_cons pe_int pa_nil)))) pa_nil))))) pa_nil)) (pv 5)) (pa_cons (pv 6) pa_nil)))) pa_nil))))))
      (pss_cons (ps_set (i := 4) sc_great_rows.nd rfl (Or.inl rfl) (pe_op op_cat (pv 4) (pv 5)))
      (pss_cons (ps_for (passes_of rfl) (by rfl) (pi_range1 rfl T.z_range (pa_cons pe_int pa_nil)) (pg_name (i := 1) sc_great_rows.nd rfl (Or.inl rfl)) (pss_one (ps_expr (pe_bm PySem.F.plainAttrs_list PySem.F.slot_list_append PySem.F.type_list_append mt_append (pv 4) (pa_cons (pe_f O_law_more r_law_more T.g__law_more (pa_cons (pv 0) (pa_cons (pe_op op_add pe_int (pv 1)) (pa_cons (pv 3) (pa_cons (pe_ix ix_list (pe_lst (pa_cons pe_int (pa_cons (pe_op op_add pe_int (pe_f O_law_digit r_law_digit T.g__law_digit (pa_cons (pv 0) (pa_cons pe_int pa_nil)))) pa_nil))) (pe_f O_law_digit r_law_digit T.g__law_digit (pa_cons (pv 0) (pa_cons pe_int pa_nil))) (fun _ _ => rfl)) pa_nil))))) pa_nil)))))
      (pss_one (ps_ret (pe_op op_cat (pv 4) (pe_lst (pa_cons (pe_tup (pa_cons pe_str (pa_cons (pe_f O_law_tag r_law_tag T.g__law_tag (pa_cons (pv 0) (pa_cons pe_int pa_nil))) (pa_cons (pe_f O_law_wide r_law_wide T.g__law_wide (pa_cons (pv 0) (pa_cons (pv 3) (pa_cons pe_int (pa_cons pe_int pa_nil))))) (pa_cons pe_non pa_nil))))) pa_nil))))))))))))), ?_⟩
  have hM : In [s] H := fun m hm => by
    obtain ⟨_, _, _, g, _⟩ := hs
    rw [List.mem_singleton.mp hm]
    exact ⟨_, g⟩
  have lessM : ∀ {G G' : Hp}, BM [s] G G' → Same (less G [s]) (less G' [s]) := fun e => e.less
  walk_at "go"
  refine lc_open (rng_open ?_)
  walk_at "go"
  refine ⟨4, rfl, by decide, by decide, fun D hD => ?_⟩
  have e0 := Same.new hD (.lst [])
  refine lc_range (lo := 0) (n := 4) (fun (j : Nat) H' => ∃ zs : List Str, BM [s] H H' ∧ Sd H' s ∧ H' D = some (.lst (zs.map V.str)) ∧ Paired TagOf (List.range j) zs) ⟨[], BM.of e0, hs.same e0, upd_same, .nil⟩ ?_ ?_
  · rintro j H1 hj ⟨zs, b1, s1, g1, p1⟩
    walk_at "go"
    refine ⟨rfl, ?_⟩
    walk_at "go"
    rw [show ((0 : Int) + (j : Int)) = (j : Int) by omega]
    refine ⟨s, j, rfl, s1, by omega, fun z H2 hz e2 s2 => ?_⟩
    have gD := e2.at g1 (by simpa using hs.ne hD)
    refine ⟨_, gD, by rw [List.length_map, ← p1.length, List.length_range]; exact Nat.lt_of_lt_of_le hj (by decide), zs ++ [z], (b1.trans e2).mut hD, s2.upd (hs.ne hD) _, by rw [upd_same, List.map_append]; rfl, ?_⟩
    rw [List.range_succ]
    exact K3.Paired.app p1 (.cons hz .nil)
  rintro G0 ⟨zs, b0, s0, gD, p1⟩
  obtain ⟨t0, t1, t2, t3, rfl, h0, h1, h2, h3⟩ := paired4 p1
  have gD : G0 D = some (.lst [.str t0, .str t1, .str t2, .str t3]) := gD
  have hM0 : In [s] G0 := hM.bm b0
  have E0' : Same G0 G0 := Same.refl _
  walk_at "go"
  refine w_ixL (E0' _ _ gD) rfl ?_
  walk_at "go"
  refine ⟨(by show 3 ≤ sizeLine; decide), fun a1 ha1 => ?_⟩
  have e1 := Same.new ha1 (.lst [.str "a", .str "b", .str "c"])
  have g1 : (upd G0 a1 (.lst [.str "a", .str "b", .str "c"])) a1 = some (.lst [.str "a", .str "b", .str "c"]) := upd_same
  have n1 := hM0.new ha1
  generalize upd G0 a1 (.lst [.str "a", .str "b", .str "c"]) = G1 at e1 g1 ⊢
  have E1 := E0'.trans e1
  have hM1 : In [s] G1 := hM0.bm (BM.of e1 : BM [] _ _)
  have l1 : less G1 [s] a1 = some (.lst [.str "a", .str "b", .str "c"]) := less_of g1 n1
  walk_at "go"
  refine ⟨(by show 3 ≤ sizeLine; decide), fun a2 ha2 => ?_⟩
  have e2 := Same.new ha2 (.tup [.str t0, .str "one", .ref a1])
  have g2 : (upd G1 a2 (.tup [.str t0, .str "one", .ref a1])) a2 = some (.tup [.str t0, .str "one", .ref a1]) := upd_same
  have n2 := hM1.new ha2
  generalize upd G1 a2 (.tup [.str t0, .str "one", .ref a1]) = G2 at e2 g2 ⊢
  have E2 := E1.trans e2
  have hM2 : In [s] G2 := hM1.bm (BM.of e2 : BM [] _ _)
  have l2 : less G2 [s] a2 = some (.tup [.str t0, .str "one", .ref a1]) := less_of g2 n2
  walk_at "go"
  refine w_ixL (E2 _ _ gD) rfl ?_
  walk_at "go"
  refine ⟨(by show 2 ≤ sizeLine; decide), fun a3 ha3 => ?_⟩
  have e3 := Same.new ha3 (.lst [.str "d", .str "e"])
  have g3 : (upd G2 a3 (.lst [.str "d", .str "e"])) a3 = some (.lst [.str "d", .str "e"]) := upd_same
  have n3 := hM2.new ha3
  generalize upd G2 a3 (.lst [.str "d", .str "e"]) = G3 at e3 g3 ⊢
  have E3 := E2.trans e3
  have hM3 : In [s] G3 := hM2.bm (BM.of e3 : BM [] _ _)
  have l3 : less G3 [s] a3 = some (.lst [.str "d", .str "e"]) := less_of g3 n3
  walk_at "go"
  refine ⟨(by show 3 ≤ sizeLine; decide), fun a4 ha4 => ?_⟩
  have e4 := Same.new ha4 (.tup [.str t1, .str "some", .ref a3])
  have g4 : (upd G3 a4 (.tup [.str t1, .str "some", .ref a3])) a4 = some (.tup [.str t1, .str "some", .ref a3]) := upd_same
  have n4 := hM3.new ha4
  generalize upd G3 a4 (.tup [.str t1, .str "some", .ref a3]) = G4 at e4 g4 ⊢
  have E4 := E3.trans e4
  have hM4 : In [s] G4 := hM3.bm (BM.of e4 : BM [] _ _)
  have l4 : less G4 [s] a4 = some (.tup [.str t1, .str "some", .ref a3]) := less_of g4 n4
  walk_at "go"
  refine ⟨(by show 2 ≤ sizeLine; decide), fun a5 ha5 => ?_⟩
  have e5 := Same.new ha5 (.lst [.ref a2, .ref a4])
  have g5 : (upd G4 a5 (.lst [.ref a2, .ref a4])) a5 = some (.lst [.ref a2, .ref a4]) := upd_same
  have n5 := hM4.new ha5
  generalize upd G4 a5 (.lst [.ref a2, .ref a4]) = G5 at e5 g5 ⊢
  have E5 := E4.trans e5
  have hM5 : In [s] G5 := hM4.bm (BM.of e5 : BM [] _ _)
  have l5 : less G5 [s] a5 = some (.lst [.ref a2, .ref a4]) := less_of g5 n5
  walk_at "go"
  refine w_ixL (E5 _ _ gD) rfl ?_
  walk_at "go"
  refine ⟨(by show 2 ≤ sizeLine; decide), fun a6 ha6 => ?_⟩
  have e6 := Same.new ha6 (.tup [.int 0, .int 3])
  have g6 : (upd G5 a6 (.tup [.int 0, .int 3])) a6 = some (.tup [.int 0, .int 3]) := upd_same
  have n6 := hM5.new ha6
  generalize upd G5 a6 (.tup [.int 0, .int 3]) = G6 at e6 g6 ⊢
  have E6 := E5.trans e6
  have hM6 : In [s] G6 := hM5.bm (BM.of e6 : BM [] _ _)
  have l6 : less G6 [s] a6 = some (.tup [.int 0, .int 3]) := less_of g6 n6
  walk_at "go"
  refine ⟨(by show 3 ≤ sizeLine; decide), fun a7 ha7 => ?_⟩
  have e7 := Same.new ha7 (.tup [.str t2, .str "number", .ref a6])
  have g7 : (upd G6 a7 (.tup [.str t2, .str "number", .ref a6])) a7 = some (.tup [.str t2, .str "number", .ref a6]) := upd_same
  have n7 := hM6.new ha7
  generalize upd G6 a7 (.tup [.str t2, .str "number", .ref a6]) = G7 at e7 g7 ⊢
  have E7 := E6.trans e7
  have hM7 : In [s] G7 := hM6.bm (BM.of e7 : BM [] _ _)
  have l7 : less G7 [s] a7 = some (.tup [.str t2, .str "number", .ref a6]) := less_of g7 n7
  walk_at "go"
  refine w_ixL (E7 _ _ gD) rfl ?_
  walk_at "go"
  refine ⟨3, rfl, ?_⟩
  walk_at "go"
  refine ⟨(by show 2 ≤ sizeLine; decide), fun a8 ha8 => ?_⟩
  have e8 := Same.new ha8 (.tup [.int (-3), .int 2])
  have g8 : (upd G7 a8 (.tup [.int (-3), .int 2])) a8 = some (.tup [.int (-3), .int 2]) := upd_same
  have n8 := hM7.new ha8
  generalize upd G7 a8 (.tup [.int (-3), .int 2]) = G8 at e8 g8 ⊢
  have E8 := E7.trans e8
  have hM8 : In [s] G8 := hM7.bm (BM.of e8 : BM [] _ _)
  have l8 : less G8 [s] a8 = some (.tup [.int (-3), .int 2]) := less_of g8 n8
  walk_at "go"
  refine ⟨(by show 3 ≤ sizeLine; decide), fun a9 ha9 => ?_⟩
  have e9 := Same.new ha9 (.tup [.str t3, .str "number", .ref a8])
  have g9 : (upd G8 a9 (.tup [.str t3, .str "number", .ref a8])) a9 = some (.tup [.str t3, .str "number", .ref a8]) := upd_same
  have n9 := hM8.new ha9
  generalize upd G8 a9 (.tup [.str t3, .str "number", .ref a8]) = G9 at e9 g9 ⊢
  have E9 := E8.trans e9
  have hM9 : In [s] G9 := hM8.bm (BM.of e9 : BM [] _ _)
  have l9 : less G9 [s] a9 = some (.tup [.str t3, .str "number", .ref a8]) := less_of g9 n9
  walk_at "go"
  refine ⟨(by show 2 ≤ sizeLine; decide), fun a10 ha10 => ?_⟩
  have e10 := Same.new ha10 (.lst [.ref a7, .ref a9])
  have g10 : (upd G9 a10 (.lst [.ref a7, .ref a9])) a10 = some (.lst [.ref a7, .ref a9]) := upd_same
  have n10 := hM9.new ha10
  generalize upd G9 a10 (.lst [.ref a7, .ref a9]) = G10 at e10 g10 ⊢
  have E10 := E9.trans e10
  have hM10 : In [s] G10 := hM9.bm (BM.of e10 : BM [] _ _)
  have l10 : less G10 [s] a10 = some (.lst [.ref a7, .ref a9]) := less_of g10 n10
  refine ⟨a5, a10, _, _, rfl, rfl, ((((e6.trans e7).trans e8).trans e9).trans e10) _ _ g5, (Same.refl _) _ _ g10, (by show 4 ≤ sizeLine; decide), fun a11 ha11 => ?_⟩
  have e11 := Same.new ha11 (.lst ([.ref a2, .ref a4] ++ [.ref a7, .ref a9]))
  have g11 : (upd G10 a11 (.lst ([.ref a2, .ref a4] ++ [.ref a7, .ref a9]))) a11 = some (.lst ([.ref a2, .ref a4] ++ [.ref a7, .ref a9])) := upd_same
  have n11 := hM10.new ha11
  generalize upd G10 a11 (.lst ([.ref a2, .ref a4] ++ [.ref a7, .ref a9])) = G11 at e11 g11 ⊢
  have E11 := E10.trans e11
  have hM11 : In [s] G11 := hM10.bm (BM.of e11 : BM [] _ _)
  have l11 : less G11 [s] a11 = some (.lst ([.ref a2, .ref a4] ++ [.ref a7, .ref a9])) := less_of g11 n11
  walk_at "go"
  refine w_ixL (E11 _ _ gD) rfl ?_
  walk_at "go"
  refine ⟨(by show 3 ≤ sizeLine; decide), fun a12 ha12 => ?_⟩
  have e12 := Same.new ha12 (.lst [.str "a", .str "b", .str "c"])
  have g12 : (upd G11 a12 (.lst [.str "a", .str "b", .str "c"])) a12 = some (.lst [.str "a", .str "b", .str "c"]) := upd_same
  have n12 := hM11.new ha12
  generalize upd G11 a12 (.lst [.str "a", .str "b", .str "c"]) = G12 at e12 g12 ⊢
  have E12 := E11.trans e12
  have hM12 : In [s] G12 := hM11.bm (BM.of e12 : BM [] _ _)
  have l12 : less G12 [s] a12 = some (.lst [.str "a", .str "b", .str "c"]) := less_of g12 n12
  walk_at "go"
  refine ⟨(by show 4 ≤ sizeLine; decide), fun a13 ha13 => ?_⟩
  have e13 := Same.new ha13 (.tup [.str "one", .str t0, .ref a12, .non])
  have g13 : (upd G12 a13 (.tup [.str "one", .str t0, .ref a12, .non])) a13 = some (.tup [.str "one", .str t0, .ref a12, .non]) := upd_same
  have n13 := hM12.new ha13
  generalize upd G12 a13 (.tup [.str "one", .str t0, .ref a12, .non]) = G13 at e13 g13 ⊢
  have E13 := E12.trans e13
  have hM13 : In [s] G13 := hM12.bm (BM.of e13 : BM [] _ _)
  have l13 : less G13 [s] a13 = some (.tup [.str "one", .str t0, .ref a12, .non]) := less_of g13 n13
  walk_at "go"
  refine w_ixL (E13 _ _ gD) rfl ?_
  walk_at "go"
  refine ⟨(by show 2 ≤ sizeLine; decide), fun a14 ha14 => ?_⟩
  have e14 := Same.new ha14 (.lst [.str "d", .str "e"])
  have g14 : (upd G13 a14 (.lst [.str "d", .str "e"])) a14 = some (.lst [.str "d", .str "e"]) := upd_same
  have n14 := hM13.new ha14
  generalize upd G13 a14 (.lst [.str "d", .str "e"]) = G14 at e14 g14 ⊢
  have E14 := E13.trans e14
  have hM14 : In [s] G14 := hM13.bm (BM.of e14 : BM [] _ _)
  have l14 : less G14 [s] a14 = some (.lst [.str "d", .str "e"]) := less_of g14 n14
  walk_at "go"
  refine ⟨(by show 4 ≤ sizeLine; decide), fun a15 ha15 => ?_⟩
  have e15 := Same.new ha15 (.tup [.str "some", .str t1, .ref a14, .non])
  have g15 : (upd G14 a15 (.tup [.str "some", .str t1, .ref a14, .non])) a15 = some (.tup [.str "some", .str t1, .ref a14, .non]) := upd_same
  have n15 := hM14.new ha15
  generalize upd G14 a15 (.tup [.str "some", .str t1, .ref a14, .non]) = G15 at e15 g15 ⊢
  have E15 := E14.trans e15
  have hM15 : In [s] G15 := hM14.bm (BM.of e15 : BM [] _ _)
  have l15 : less G15 [s] a15 = some (.tup [.str "some", .str t1, .ref a14, .non]) := less_of g15 n15
  walk_at "go"
  refine ⟨(by show 2 ≤ sizeLine; decide), fun a16 ha16 => ?_⟩
  have e16 := Same.new ha16 (.lst [.ref a13, .ref a15])
  have g16 : (upd G15 a16 (.lst [.ref a13, .ref a15])) a16 = some (.lst [.ref a13, .ref a15]) := upd_same
  have n16 := hM15.new ha16
  generalize upd G15 a16 (.lst [.ref a13, .ref a15]) = G16 at e16 g16 ⊢
  have E16 := E15.trans e16
  have hM16 : In [s] G16 := hM15.bm (BM.of e16 : BM [] _ _)
  have l16 : less G16 [s] a16 = some (.lst [.ref a13, .ref a15]) := less_of g16 n16
  walk_at "go"
  refine w_ixL (E16 _ _ gD) rfl ?_
  walk_at "go"
  refine ⟨(by show 5 ≤ sizeLine; decide), fun a17 ha17 => ?_⟩
  have e17 := Same.new ha17 (.tup [.str "number", .str t2, .int 0, .int 3, .non])
  have g17 : (upd G16 a17 (.tup [.str "number", .str t2, .int 0, .int 3, .non])) a17 = some (.tup [.str "number", .str t2, .int 0, .int 3, .non]) := upd_same
  have n17 := hM16.new ha17
  generalize upd G16 a17 (.tup [.str "number", .str t2, .int 0, .int 3, .non]) = G17 at e17 g17 ⊢
  have E17 := E16.trans e17
  have hM17 : In [s] G17 := hM16.bm (BM.of e17 : BM [] _ _)
  have l17 : less G17 [s] a17 = some (.tup [.str "number", .str t2, .int 0, .int 3, .non]) := less_of g17 n17
  walk_at "go"
  refine w_ixL (E17 _ _ gD) rfl ?_
  walk_at "go"
  refine ⟨3, rfl, ?_⟩
  walk_at "go"
  refine ⟨(by show 5 ≤ sizeLine; decide), fun a18 ha18 => ?_⟩
  have e18 := Same.new ha18 (.tup [.str "number", .str t3, .int (-3), .int 2, .non])
  have g18 : (upd G17 a18 (.tup [.str "number", .str t3, .int (-3), .int 2, .non])) a18 = some (.tup [.str "number", .str t3, .int (-3), .int 2, .non]) := upd_same
  have n18 := hM17.new ha18
  generalize upd G17 a18 (.tup [.str "number", .str t3, .int (-3), .int 2, .non]) = G18 at e18 g18 ⊢
  have E18 := E17.trans e18
  have hM18 : In [s] G18 := hM17.bm (BM.of e18 : BM [] _ _)
  have l18 : less G18 [s] a18 = some (.tup [.str "number", .str t3, .int (-3), .int 2, .non]) := less_of g18 n18
  walk_at "go"
  refine ⟨(by show 2 ≤ sizeLine; decide), fun a19 ha19 => ?_⟩
  have e19 := Same.new ha19 (.lst [.ref a17, .ref a18])
  have g19 : (upd G18 a19 (.lst [.ref a17, .ref a18])) a19 = some (.lst [.ref a17, .ref a18]) := upd_same
  have n19 := hM18.new ha19
  generalize upd G18 a19 (.lst [.ref a17, .ref a18]) = G19 at e19 g19 ⊢
  have E19 := E18.trans e19
  have hM19 : In [s] G19 := hM18.bm (BM.of e19 : BM [] _ _)
  have l19 : less G19 [s] a19 = some (.lst [.ref a17, .ref a18]) := less_of g19 n19
  refine ⟨a16, a19, _, _, rfl, rfl, ((e17.trans e18).trans e19) _ _ g16, (Same.refl _) _ _ g19, (by show 4 ≤ sizeLine; decide), fun a20 ha20 => ?_⟩
  have e20 := Same.new ha20 (.lst ([.ref a13, .ref a15] ++ [.ref a17, .ref a18]))
  have g20 : (upd G19 a20 (.lst ([.ref a13, .ref a15] ++ [.ref a17, .ref a18]))) a20 = some (.lst ([.ref a13, .ref a15] ++ [.ref a17, .ref a18])) := upd_same
  have n20 := hM19.new ha20
  generalize upd G19 a20 (.lst ([.ref a13, .ref a15] ++ [.ref a17, .ref a18])) = G20 at e20 g20 ⊢
  have E20 := E19.trans e20
  have hM20 : In [s] G20 := hM19.bm (BM.of e20 : BM [] _ _)
  have l20 : less G20 [s] a20 = some (.lst ([.ref a13, .ref a15] ++ [.ref a17, .ref a18])) := less_of g20 n20
  walk_at "go"
  have b20 := b0.same E20
  have s20 := s0.same E20
  have kl : KL [s] G20 a11 (Kn4 t0 t1 t2 t3) := ⟨_, ((((((((e12.trans e13).trans e14).trans e15).trans e16).trans e17).trans e18).trans e19).trans e20) _ _ g11, .cons (.one ((BM.of (((((((((((((((((e3.trans e4).trans e5).trans e6).trans e7).trans e8).trans e9).trans e10).trans e11).trans e12).trans e13).trans e14).trans e15).trans e16).trans e17).trans e18).trans e19).trans e20) : BM [s] _ _).less _ _ l2) ((BM.of ((((((((((((((((((e2.trans e3).trans e4).trans e5).trans e6).trans e7).trans e8).trans e9).trans e10).trans e11).trans e12).trans e13).trans e14).trans e15).trans e16).trans e17).trans e18).trans e19).trans e20) : BM [s] _ _).less _ _ l1) (by decide) (by decide)) (.cons (.some ((BM.of (((((((((((((((e5.trans e6).trans e7).trans e8).trans e9).trans e10).trans e11).trans e12).trans e13).trans e14).trans e15).trans e16).trans e17).trans e18).trans e19).trans e20) : BM [s] _ _).less _ _ l4) ((BM.of ((((((((((((((((e4.trans e5).trans e6).trans e7).trans e8).trans e9).trans e10).trans e11).trans e12).trans e13).trans e14).trans e15).trans e16).trans e17).trans e18).trans e19).trans e20) : BM [s] _ _).less _ _ l3) (by decide) (by decide)) (.cons (.num ((BM.of ((((((((((((e8.trans e9).trans e10).trans e11).trans e12).trans e13).trans e14).trans e15).trans e16).trans e17).trans e18).trans e19).trans e20) : BM [s] _ _).less _ _ l7) ((BM.of (((((((((((((e7.trans e8).trans e9).trans e10).trans e11).trans e12).trans e13).trans e14).trans e15).trans e16).trans e17).trans e18).trans e19).trans e20) : BM [s] _ _).less _ _ l6) (by decide) (by decide)) (.cons (.num ((BM.of ((((((((((e10.trans e11).trans e12).trans e13).trans e14).trans e15).trans e16).trans e17).trans e18).trans e19).trans e20) : BM [s] _ _).less _ _ l9) ((BM.of (((((((((((e9.trans e10).trans e11).trans e12).trans e13).trans e14).trans e15).trans e16).trans e17).trans e18).trans e19).trans e20) : BM [s] _ _).less _ _ l8) (by decide) (by decide)) .nil)))⟩
  have hA : Ah [s] G20 s a11 (Kn4 t0 t1 t2 t3) := ⟨s20, kl, List.mem_singleton.mpr rfl, fun z => n11 (by rw [z]; exact List.mem_singleton.mpr rfl), (show 4 ≤ 60 by decide)⟩
  have rows : DRs (less G20 [s]) ([.ref a13, .ref a15] ++ [.ref a17, .ref a18]) ([.one t0 ["a", "b", "c"] none, .some t1 ["d", "e"] none] ++ [.number t2 0 3 none, .number t3 (-3) 2 none]) := .cons (.one ((BM.of ((((((e14.trans e15).trans e16).trans e17).trans e18).trans e19).trans e20) : BM [s] _ _).less _ _ l13) ((BM.of (((((((e13.trans e14).trans e15).trans e16).trans e17).trans e18).trans e19).trans e20) : BM [s] _ _).less _ _ l12) .none) (.cons (.some ((BM.of ((((e16.trans e17).trans e18).trans e19).trans e20) : BM [s] _ _).less _ _ l15) ((BM.of (((((e15.trans e16).trans e17).trans e18).trans e19).trans e20) : BM [s] _ _).less _ _ l14) .none) (.cons (.number ((BM.of ((e18.trans e19).trans e20) : BM [s] _ _).less _ _ l17) .none) (.cons (.number ((BM.of (e19.trans e20) : BM [s] _ _).less _ _ l18) .none) .nil)))
  have rk := rows_four h0 h1 h2 h3
  have gR := g20
  refine w_ixL (E20 _ _ gD) rfl ?_
  walk_at "go"
  refine ⟨[s], s, a11, _, 4, 3, rfl, hM20, hA, (show 0 < 4 by decide), by decide, by decide, by decide, fun v X1 r21 f1 s21 d21 m21 => ?_⟩
  have MX1 := hM20.bm f1
  walk_at "go"
  refine ⟨(by show 1 ≤ sizeLine; decide), fun p1 hp1 => ?_⟩
  have ep1 := Same.new hp1 (.lst [v])
  have gp1 : (upd X1 p1 (.lst [v])) p1 = some (.lst [v]) := upd_same
  have lp1 : less (upd X1 p1 (.lst [v])) [s] p1 = some (.lst [v]) := less_of gp1 (MX1.new hp1)
  generalize upd X1 p1 (.lst [v]) = X2 at ep1 gp1 lp1 ⊢
  have MX2 : In [s] X2 := (MX1).bm (BM.of ep1 : BM [] _ _)
  walk_at "go"
  refine ⟨(by show 4 ≤ sizeLine; decide), fun p2 hp2 => ?_⟩
  have ep2 := Same.new hp2 (.tup [.str "rounds", .str t2, .ref p1, .non])
  have gp2 : (upd X2 p2 (.tup [.str "rounds", .str t2, .ref p1, .non])) p2 = some (.tup [.str "rounds", .str t2, .ref p1, .non]) := upd_same
  have lp2 : less (upd X2 p2 (.tup [.str "rounds", .str t2, .ref p1, .non])) [s] p2 = some (.tup [.str "rounds", .str t2, .ref p1, .non]) := less_of gp2 (MX2.new hp2)
  generalize upd X2 p2 (.tup [.str "rounds", .str t2, .ref p1, .non]) = X3 at ep2 gp2 lp2 ⊢
  have MX3 : In [s] X3 := (MX2).bm (BM.of ep2 : BM [] _ _)
  walk_at "go"
  refine ⟨(by show 1 ≤ sizeLine; decide), fun p3 hp3 => ?_⟩
  have ep3 := Same.new hp3 (.lst [.ref p2])
  have gp3 : (upd X3 p3 (.lst [.ref p2])) p3 = some (.lst [.ref p2]) := upd_same
  have lp3 : less (upd X3 p3 (.lst [.ref p2])) [s] p3 = some (.lst [.ref p2]) := less_of gp3 (MX3.new hp3)
  generalize upd X3 p3 (.lst [.ref p2]) = X4 at ep3 gp3 lp3 ⊢
  have MX4 : In [s] X4 := (MX3).bm (BM.of ep3 : BM [] _ _)
  have f4 : BM [s] G20 X4 := f1.same (ep1.trans (ep2.trans ep3))
  have s4 : Sd X4 s := s21.same (ep1.trans (ep2.trans ep3))
  have i0 := inn_rounds (t := t2) (m21.qu (by decide)) (by unfold Kn4; simp)
  have d4 : DRs (less X4 [s]) [.ref p2] [.rounds t2 [r21] none] := .cons (.rounds ((BM.of ep3 : BM [s] _ _).less _ _ lp2) ((BM.of (ep2.trans ep3) : BM [s] _ _).less _ _ lp1) (.cons (d21.same (BM.of (ep1.trans (ep2.trans ep3)) : BM [s] _ _).less) .nil) .none) .nil
  walk_at "go"
  refine rng_open ?_
  walk_at "go"
  refine ⟨10, rfl, by decide, by decide, ?_⟩
  refine for_range (lo := 0) (n := 10) (fun (j : Nat) σ H' => ∃ (o1 o6 : Option V) (li : Addr) (xs : List V) (us : List Rw), σ = [some (.ref s), o1, some (.ref D), some (.ref a11), some (.ref a20), some (.ref li), o6] ∧ BM [s] G20 H' ∧ Sd H' s ∧ H' li = some (.lst xs) ∧ li ≠ s ∧ xs.length = 1 ∧ DRs (less H' [s]) xs us ∧ InnOk (Kn4 t0 t1 t2 t3) (dl j) (2 + 2 * j) (1 + j) us)
    ⟨_, _, p3, [.ref p2], _, rfl, f4, s4, gp3, fun z => MX3.new hp3 (by rw [z]; exact List.mem_singleton.mpr rfl), rfl, d4, i0⟩ ?_ ?_
  · rintro j σ X5 hj ⟨o1, o6, li, xs, us, rfl, f5, s5, g5, nli, lx5, d5, i5⟩
    have hA5 := hA.bm f5 s5
    have MX5 := hM20.bm f5
    walk_at "go"
    refine ⟨s, 4, rfl, s5, by decide, by decide, fun r1 X6 hr1 f6 s6 => ?_⟩
    have MX6 := MX5.bm f6
    walk_at "go"
    rw [show ((1 : Int) + (r1 : Int)) = ((1 + r1 : Nat) : Int) by omega]
    refine ⟨[s], s, a11, _, 1 + r1, 3, rfl, MX6, hA5.bm f6 s6, (show 0 < 4 by decide), by omega, by omega, by decide, fun v7 X7 c7 f7 s7 d7 cv7 dp7 sm7 => ?_⟩
    have MX7 := MX6.bm f7
    walk_at "go"
    refine ⟨(by show 2 ≤ sizeLine; decide), fun p8 hp8 => ?_⟩
    have ep8 := Same.new hp8 (.lst [.non, v7])
    have gp8 : (upd X7 p8 (.lst [.non, v7])) p8 = some (.lst [.non, v7]) := upd_same
    have lp8 : less (upd X7 p8 (.lst [.non, v7])) [s] p8 = some (.lst [.non, v7]) := less_of gp8 (MX7.new hp8)
    generalize upd X7 p8 (.lst [.non, v7]) = X8 at ep8 gp8 lp8 ⊢
    have MX8 : In [s] X8 := (MX7).bm (BM.of ep8 : BM [] _ _)
    walk_at "go"
    refine ⟨s, 3, rfl, s7.same ep8, by decide, by decide, fun r3 X9 hr3 f9 s9 => ?_⟩
    have MX9 := MX8.bm f9
    walk_at "go"
    refine ⟨rfl, ?_⟩
    rw [decV]
    walk_at "go"
    refine .inr ⟨_, rfl, ?_⟩
    obtain ⟨wv, wc, hat, hDW, hWV, hwd, hws⟩ : ∃ (wv : V) (wc : Option Cd), atI [V.non, v7] (if decide ((r3 : Int) = 0) = true then 1 else 0) = some wv ∧ DW (less X9 [s]) wv wc ∧ WV (Kn4 t0 t1 t2 t3) wc ∧ odep wc ≤ 9 ∧ (owh wc).length ≤ 100 := by
      by_cases c : (r3 : Int) = 0
      · exact ⟨v7, some c7, by rw [decide_eq_true c]; rfl, .some (d7.same ((BM.of ep8 : BM [s] _ _).trans f9).less), fun x hx => cv7 x hx, by show c7.dep ≤ 9; omega, by show c7.simp.length ≤ 100; omega⟩
      · exact ⟨.non, none, by rw [decide_eq_false c]; rfl, .none, wv_none, Nat.zero_le _, Nat.zero_le _⟩
    walk_at "go"
    refine w_ixL (f9.at gp8 (MX7.new hp8)) hat ?_
    walk_at "go"
    refine ⟨s, 6, rfl, s9, by decide, by decide, fun r10 X10 hr10 f10 s10 => ?_⟩
    have MX10 := MX9.bm f10
    have f5_10 : BM [s] X5 X10 := (((f6.trans f7).same ep8).trans f9).trans f10
    walk_at "go"
    rw [show ((5 : Int) + (0 + (j : Int))) = ((5 + j : Nat) : Int) by omega, show ((1 : Int) + (r10 : Int)) = ((1 + r10 : Nat) : Int) by omega]
    refine ⟨[s], s, a11, _, 5 + j, 1 + r10, rfl, MX10, hA5.bm f5_10 s10, (show 0 < 4 by decide), by omega, by omega, by omega, fun v11 X11 r11 f11 s11 d11 m11 => ?_⟩
    have MX11 := MX10.bm f11
    walk_at "go"
    refine ⟨(by show 1 ≤ sizeLine; decide), fun p12 hp12 => ?_⟩
    have ep12 := Same.new hp12 (.lst [v11])
    have gp12 : (upd X11 p12 (.lst [v11])) p12 = some (.lst [v11]) := upd_same
    have lp12 : less (upd X11 p12 (.lst [v11])) [s] p12 = some (.lst [v11]) := less_of gp12 (MX11.new hp12)
    generalize upd X11 p12 (.lst [v11]) = X12 at ep12 gp12 lp12 ⊢
    have MX12 : In [s] X12 := (MX11).bm (BM.of ep12 : BM [] _ _)
    walk_at "go"
    have f5_12 : BM [s] X5 X12 := (f5_10.trans f11).same ep12
    refine ⟨p12, li, [v11], xs, rfl, rfl, gp12, f5_12.at g5 (by simpa using nli), (by rw [lx5]; exact (show 2 ≤ sizeLine by decide)), fun p13 hp13 => ?_⟩
    have ep13 := Same.new hp13 (.lst ([v11] ++ xs))
    have gp13 : (upd X12 p13 (.lst ([v11] ++ xs))) p13 = some (.lst ([v11] ++ xs)) := upd_same
    have lp13 : less (upd X12 p13 (.lst ([v11] ++ xs))) [s] p13 = some (.lst ([v11] ++ xs)) := less_of gp13 (MX12.new hp13)
    generalize upd X12 p13 (.lst ([v11] ++ xs)) = X13 at ep13 gp13 lp13 ⊢
    have MX13 : In [s] X13 := (MX12).bm (BM.of ep13 : BM [] _ _)
    walk_at "go"
    refine ⟨(by show 3 ≤ sizeLine; decide), fun p14 hp14 => ?_⟩
    have ep14 := Same.new hp14 (.tup [.str "section", .ref p13, wv])
    have gp14 : (upd X13 p14 (.tup [.str "section", .ref p13, wv])) p14 = some (.tup [.str "section", .ref p13, wv]) := upd_same
    have lp14 : less (upd X13 p14 (.tup [.str "section", .ref p13, wv])) [s] p14 = some (.tup [.str "section", .ref p13, wv]) := less_of gp14 (MX13.new hp14)
    generalize upd X13 p14 (.tup [.str "section", .ref p13, wv]) = X14 at ep14 gp14 lp14 ⊢
    have MX14 : In [s] X14 := (MX13).bm (BM.of ep14 : BM [] _ _)
    walk_at "go"
    refine ⟨(by show 1 ≤ sizeLine; decide), fun p15 hp15 => ?_⟩
    have ep15 := Same.new hp15 (.lst [.ref p14])
    have gp15 : (upd X14 p15 (.lst [.ref p14])) p15 = some (.lst [.ref p14]) := upd_same
    have lp15 : less (upd X14 p15 (.lst [.ref p14])) [s] p15 = some (.lst [.ref p14]) := less_of gp15 (MX14.new hp15)
    generalize upd X14 p15 (.lst [.ref p14]) = X15 at ep15 gp15 lp15 ⊢
    have MX15 : In [s] X15 := (MX14).bm (BM.of ep15 : BM [] _ _)
    have k12 : Same X11 X15 := ep12.trans (ep13.trans (ep14.trans ep15))
    have f5_15 : BM [s] X5 X15 := (f5_10.trans f11).same k12
    walk_at "go"
    refine ⟨_, _, p15, [.ref p14], [.sect ([r11] ++ us) wc], rfl, f5.trans f5_15, s11.same k12, gp15, fun z => MX14.new hp15 (by rw [z]; exact List.mem_singleton.mpr rfl), rfl, .cons (.sect ((BM.of ep15 : BM [s] _ _).less _ _ lp14) ((BM.of (ep14.trans ep15) : BM [s] _ _).less _ _ lp13) ((DRs.cons (d11.same (BM.of k12 : BM [s] _ _).less) .nil).app (d5.same f5_15.less)) (hDW.same ((f10.trans f11).same k12).less)) .nil, ?_⟩
    exact inn_sect (m11.qu (by omega)) i5 hWV hwd hws
  rintro σ X5 ⟨o1, o6, li, xs, us, rfl, f5, s5, g5, nli, lx5, d5, i5⟩
  have hA5 := hA.bm f5 s5
  have MX5 := hM20.bm f5
  walk_at "go"
  refine ⟨a20, li, _, xs, rfl, rfl, f5.at gR n20, g5, (by rw [lx5]; exact (show 5 ≤ sizeLine by decide)), fun R hR => ?_⟩
  have e6 := Same.new hR (.lst (([V.ref a13, V.ref a15] ++ [V.ref a17, V.ref a18]) ++ xs))
  have gR6 : (upd X5 R (.lst (([V.ref a13, V.ref a15] ++ [V.ref a17, V.ref a18]) ++ xs))) R = some (.lst (([V.ref a13, V.ref a15] ++ [V.ref a17, V.ref a18]) ++ xs)) := upd_same
  have nkR : a11 ≠ R := fun z => by obtain ⟨_, g, _⟩ := hA5.kl; rw [z, hR] at g; cases g
  have nR : R ≠ s := fun z => MX5.new hR (by rw [z]; exact List.mem_singleton.mpr rfl)
  have fH5 : BM [s] H X5 := b20.trans f5
  have hR0 : H R = none := fH5.free hR
  have kl6 := hA5.kl.more hR (.lst (([V.ref a13, V.ref a15] ++ [V.ref a17, V.ref a18]) ++ xs))
  have M6 := MX5.more hR (.lst (([V.ref a13, V.ref a15] ++ [V.ref a17, V.ref a18]) ++ xs))
  have d6 : DRs (less (upd X5 R (.lst (([V.ref a13, V.ref a15] ++ [V.ref a17, V.ref a18]) ++ xs))) (R :: [s])) (([V.ref a13, V.ref a15] ++ [V.ref a17, V.ref a18]) ++ xs) _ := ((rows.same f5.less).app d5).same (less_more hR _)
  have fH6 : BM [s] H (upd X5 R (.lst (([V.ref a13, V.ref a15] ++ [V.ref a17, V.ref a18]) ++ xs))) := fH5.mut hR0
  have s6 := s5.same e6
  have lx6 : (([V.ref a13, V.ref a15] ++ [V.ref a17, V.ref a18]) ++ xs).length = 5 := by rw [List.length_append, lx5]; rfl
  have rk6 := rk.app i5 (by decide)
  generalize upd X5 R (.lst (([V.ref a13, V.ref a15] ++ [V.ref a17, V.ref a18]) ++ xs)) = X6 at e6 gR6 kl6 M6 d6 fH6 s6 ⊢
  have hA6 : Ah [R, s] X6 s a11 (Kn4 t0 t1 t2 t3) := ⟨s6, kl6, List.mem_cons_of_mem _ (List.mem_singleton.mpr rfl), hA5.ne, hA5.len⟩
  walk_at "go"
  refine rng_open ?_
  walk_at "go"
  refine ⟨13, rfl, by decide, by decide, ?_⟩
  refine for_range (lo := 0) (n := 13) (fun (i : Nat) σ H' => ∃ (o1 : Option V) (xs : List V) (us : List Rw), σ = [some (.ref s), o1, some (.ref D), some (.ref a11), some (.ref R), some (.ref li), o6] ∧ BM [R, s] X6 H' ∧ Sd H' s ∧ H' R = some (.lst xs) ∧ xs.length = 5 + i ∧ DRs (less H' [R, s]) xs us ∧ RowsOk (Kn4 t0 t1 t2 t3) ([0, 1, 2, 3] ++ dl 10 ++ (List.range i).map (20 + ·)) (26 + i) us)
    ⟨o1, _, _, rfl, BM.refl _ _, s6, gR6, lx6, d6, by rw [List.range_zero, List.map_nil, List.append_nil]; exact rk6⟩ ?_ ?_
  · rintro i σ X7 hi ⟨o1, xs, us, rfl, f7, s7, g7, lx7, d7, rk7⟩
    have sub : ∀ b ∈ [s], b ∈ [R, s] := fun b hb => List.mem_cons_of_mem _ hb
    have M7 := M6.bm f7
    have hA7 : Ah [R, s] X7 s a11 (Kn4 t0 t1 t2 t3) := ⟨s7, hA6.kl.bm f7 (by simp only [List.mem_cons, List.not_mem_nil, or_false, not_or]; exact ⟨nkR, hA6.ne⟩) (fun b hb => hb), hA6.sm, hA6.ne, hA6.len⟩
    walk_at "go"
    refine ⟨_, rfl, .inl ⟨rfl, _, SqL.of g7⟩, ?_⟩
    walk_at "go"
    refine ⟨s, 30, rfl, s7, by decide, by decide, fun r8 X8 hr8 f8 s8 => ?_⟩
    walk_at "go"
    refine ⟨(by show 2 ≤ sizeLine; decide), fun p9 hp9 => ?_⟩
    have e9 := Same.new hp9 (.lst [.int 30, .int (1 + (r8 : Int))])
    have g9 : (upd X8 p9 (.lst [.int 30, .int (1 + (r8 : Int))])) p9 = some (.lst [.int 30, .int (1 + (r8 : Int))]) := upd_same
    generalize upd X8 p9 (.lst [.int 30, .int (1 + (r8 : Int))]) = X9 at e9 g9 ⊢
    walk_at "go"
    refine ⟨s, 2, rfl, s8.same e9, by decide, by decide, fun r10 X10 hr10 f10 s10 => ?_⟩
    obtain ⟨many, hat, m1, m2⟩ : ∃ many : Nat, atI [V.int 30, V.int (1 + (r8 : Int))] (r10 : Int) = some (.int (many : Int)) ∧ 1 ≤ many ∧ many ≤ 30 := by
      rcases (show r10 = 0 ∨ r10 = 1 by omega) with rfl | rfl
      · exact ⟨30, rfl, by decide, by decide⟩
      · exact ⟨1 + r8, by rw [show (((1 + r8 : Nat) : Int)) = 1 + (r8 : Int) by omega]; rfl, by omega, by omega⟩
    refine w_ixL (f10.at g9 (by simpa using s8.ne hp9)) hat ?_
    walk_at "go"
    rw [show ((20 : Int) + (0 + (i : Int))) = ((20 + i : Nat) : Int) by omega]
    have f7_10 : BM [s] X7 X10 := (f8.same e9).trans f10
    refine ⟨[R, s], s, a11, _, 20 + i, many, rfl, M7.bm f7_10, hA7.bm f7_10 s10, (show 0 < 4 by decide), by omega, m1, by omega, fun v11 X11 r11 f11 s11 d11 m11 => ?_⟩
    walk_at "go"
    have f7_11 : BM [s] X7 X11 := f7_10.trans f11
    have memR : R ∈ [R, s] := List.mem_cons_self ..
    refine ⟨R, xs, v11, rfl, rfl, f7_11.at g7 (by simpa using nR), by rw [lx7]; exact Nat.lt_of_lt_of_le (show 5 + i < 100 by omega) (by decide), ?_⟩
    refine ⟨_, xs ++ [v11], us ++ [r11], rfl, (f7.trans (f7_11.mono sub)).trans (BM.upd memR _), s11.upd nR _, upd_same, by rw [List.length_append, lx7]; rfl, ?_, ?_⟩
    · rw [less_upd memR]
      exact (d7.same (f7_11.mono sub).less).app (.cons d11 .nil)
    · rw [List.range_succ, List.map_append, ← List.append_assoc]
      exact rk7.app (m11.qu (by omega)).inn (by decide)
  rintro σ X7 ⟨o1, xs, us, rfl, f7, s7, g7, lx7, d7, rk7⟩
  have sub : ∀ b ∈ [s], b ∈ [R, s] := fun b hb => List.mem_cons_of_mem _ hb
  have M7 := M6.bm f7
  have hA7 : Ah [R, s] X7 s a11 (Kn4 t0 t1 t2 t3) := ⟨s7, hA6.kl.bm f7 (by simp only [List.mem_cons, List.not_mem_nil, or_false, not_or]; exact ⟨nkR, hA6.ne⟩) (fun b hb => hb), hA6.sm, hA6.ne, hA6.len⟩
  have fH7 : BM [s] H X7 := fH6.cut f7 hR0
  walk_at "go"
  refine ⟨s, 40, rfl, s7, by decide, fun z X8 hz f8 s8 => ?_⟩
  walk_at "go"
  refine ⟨[R, s], s, a11, _, 30, 9, rfl, M7.bm f8, hA7.bm f8 s8, (show 0 < 4 by decide), by decide, by decide, by decide, fun v9 X9 c9 f9 s9 d9 cv9 dp9 sm9 => ?_⟩
  walk_at "go"
  refine ⟨(by show 4 ≤ sizeLine; decide), fun p10 hp10 => ?_⟩
  have M9 : In [s] X9 := hM.bm ((fH7.trans f8).trans f9)
  have e10 := Same.new hp10 (.tup [.str "check", .str z, v9, .non])
  have l10 : less (upd X9 p10 (.tup [.str "check", .str z, v9, .non])) [s] p10 = some (.tup [.str "check", .str z, v9, .non]) := less_of upd_same (M9.new hp10)
  generalize upd X9 p10 (.tup [.str "check", .str z, v9, .non]) = X10 at e10 l10 ⊢
  walk_at "go"
  refine ⟨(by show 1 ≤ sizeLine; decide), fun p11 hp11 => ?_⟩
  have e11 := Same.new hp11 (.lst [.ref p10])
  have g11' : (upd X10 p11 (.lst [.ref p10])) p11 = some (.lst [.ref p10]) := upd_same
  generalize upd X10 p11 (.lst [.ref p10]) = X11 at e11 g11' ⊢
  have f7_11 : BM [s] X7 X11 := ((f8.trans f9).same e10).same e11
  refine ⟨R, p11, xs, [.ref p10], rfl, rfl, f7_11.at g7 (by simpa using nR), g11', by rw [lx7]; exact (show 19 ≤ sizeLine by decide), fun F hF => ?_⟩
  have e12 := Same.new hF (.lst (xs ++ [.ref p10]))
  have fA : BM [s] X7 _ := f7_11.same e12
  refine q F _ (xs ++ [.ref p10]) (us ++ [.check z c9 none]) ((fH7.trans f7_11).free hF) (fH7.trans fA) (((s9.same e10).same e11).same e12) upd_same (((d7.same (less_sub sub)).same fA.less).app (.cons (.check ((BM.of (e11.trans e12) : BM [s] _ _).less _ _ l10) ((d9.same (less_sub sub)).same (BM.of (e10.trans (e11.trans e12)) : BM [s] _ _).less) .none) .nil)) (great_of (rk7.app (inn_check hz cv9 dp9 (by omega)) (by decide)))
end
end K3
end WK8_part
section WK9s_part
set_option Elab.async false
set_option linter.all false
set_option maxRecDepth 100000
set_option maxHeartbeats 1000000
set_option pp.deepTerms true
open PySem PySem.Spec PyProof.Rows L2
/-- go on as far as nothing is open -/
local macro_rules | `(tactic| walk_at "go") => `(tactic| repeat (first
  | with_reducible refine w_seq ?_ | with_reducible refine w_next ?_ | with_reducible refine w_set ?_ | with_reducible refine w_drop ?_ | with_reducible refine w_ret ?_ | with_reducible refine w_retN ?_
  | with_reducible refine w_if ?_ | ((with_reducible refine' w_var ?hv ?_); (case hv => exact rfl)) | with_reducible refine w_c ?_ | with_reducible refine w_nil ?_ | with_reducible refine w_cons ?_ | with_reducible refine w_op ?_ | with_reducible refine w_un ?_
  | with_reducible refine w_test ?_ | with_reducible refine w_tB ?_ | with_reducible refine w_not ?_ | with_reducible refine w_and ?_ | with_reducible refine w_or ?_ | with_reducible refine w_bl ?_
  | with_reducible refine w_andV ?_ | with_reducible refine w_orV ?_ | with_reducible refine w_notV ?_ | with_reducible refine w_ifE ?_ | with_reducible refine w_chain ?_ | with_reducible refine w_i0 ?_
  | with_reducible refine w_call ?_ | with_reducible refine w_callS ?_ | with_reducible refine w_cB ?_ | with_reducible refine w_tup ?_ | with_reducible refine w_lst ?_ | with_reducible refine w_fldV ?_
  | with_reducible refine w_neF ?_ | with_reducible refine w_neT ?_ | with_reducible refine w_notN ?_ | with_reducible refine w_isN ?_ | with_reducible refine w_gname ?_ | with_reducible refine w_gsub ?_ | with_reducible refine w_asg ?_ | with_reducible refine w_sl ?_ | with_reducible refine w_noP ?_ | with_reducible refine w_int1 ?_ | with_reducible refine w_part ?_ | with_reducible refine w_meth ?_ | with_reducible refine w_din ?_ | with_reducible refine w_dnotin ?_ | with_reducible refine w_dgt ?_ | with_reducible refine w_dget1 ?_ | with_reducible refine w_dget2 ?_ | with_reducible refine w_dput ?_ | with_reducible refine w_yes ?_ | with_reducible refine w_nT ?_ | with_reducible refine w_nF ?_ | with_reducible refine w_iteT ?_ | with_reducible refine w_iteF ?_))
namespace K3
open LamX NdefX LamP
/-! ### what the law stands on: the form's making, == of lists of texts -/
def rCatLA (K : PySem.W.Frag) : R2 := fun x y H Q => ∃ a b xs ys, x = .ref a ∧ y = .ref b ∧ SqL K H a xs ∧ SqL K H b ys ∧ xs.length + ys.length ≤ sizeLine ∧ ∀ p, H p = none → Q (.ref p) (upd H p (.lst (xs ++ ys)))
theorem op_catLA {X : Cx} : OpR X (binaryOp .Add) (rCatLA X.K) := by
  intro pins s σ H x y v u Q I rx ry ⟨a, b, xs, ys, ex, ey, ha, hb, hz, q⟩
  subst ex ey
  cases rx
  cases ry
  obtain ⟨is, r1, ⟨⟨c1, d1, t1, sl1⟩, n1, g1, hc1, _, hd1⟩, _⟩ := I.list ha
  obtain ⟨js, r2, ⟨⟨c2, d2, t2, sl2⟩, n2, g2, hc2, _, hd2⟩, _⟩ := I.list hb
  simp only at hc1 hd1 hc2 hd2
  subst hc1 hd1 hc2 hd2
  have hs : is.toArray.size + js.toArray.size ≤ sizeLine := by rw [List.size_toArray, List.size_toArray, ← r1.length, ← r2.length]; exact hz
  refine concat_meets ⟨_, g1, rfl⟩ ⟨_, g2, rfl⟩ noFill_list_add seq_list_add PySem.F.slot_list_add PySem.F.entry_list_add (PySem.F.args_list_add_2 _ _) (list_addW a b is.toArray js.toArray n1 n2 d1 d2 sl1 sl2 hs) ⟨g1, g2, ?_⟩
  rw [show is.toArray ++ js.toArray = (is ++ js).toArray by simp]
  exact ⟨.ref _, _, I.lnew (t' := s.toks) (r1.append r2) (by rw [List.length_append]; exact hz), rfl, q _ I.fresh⟩
theorem ck_memL : ∀ {F : List (Rw × Option Nat)} {L : AL}, ckRows L F = none → ∀ e ∈ F, ∃ L', ckRow L' e.1 e.2 = none ∧ ∀ x ∈ L', x ∈ L ∨ ∃ g ∈ F, g.1.isN = true ∧ x.1 = g.1.name
  | [], _, _, e, he => nomatch he
  | (r, ar) :: F, L, h, e, he => by
    obtain ⟨h1, h2⟩ := thenF_V (show thenF (ckRow L r ar) (ckRows (if r.isN then L ++ [(r.name, r, ar)] else L) F) = none from h)
    rcases List.mem_cons.mp he with rfl | he
    · exact ⟨L, h1, fun x hx => .inl hx⟩
    · obtain ⟨L', k1, k2⟩ := ck_memL h2 e he
      refine ⟨L', k1, fun x hx => ?_⟩
      rcases k2 x hx with z | ⟨g, hg, z⟩
      · cases hr : r.isN with
        | true =>
          rw [hr, if_pos rfl] at z
          rcases List.mem_append.mp z with z | z
          · exact .inl z
          · rw [List.mem_singleton.mp z]
            exact .inr ⟨_, List.mem_cons_self .., hr, rfl⟩
        | false =>
          rw [hr, if_neg Bool.false_ne_true] at z
          exact .inl z
      · exact .inr ⟨g, List.mem_cons_of_mem _ hg, z⟩
mutual
theorem RU.flat : ∀ (r : Rw) (ar : Option Nat) (k : Nat), RU r → ∀ e ∈ r.flat ar k, RU e.1
  | .one n os w, ar, k, h, e, he => by rw [Rw.flat] at he; rw [List.mem_singleton.mp he]; exact h
  | .some n os w, ar, k, h, e, he => by rw [Rw.flat] at he; rw [List.mem_singleton.mp he]; exact h
  | .number n lo hi w, ar, k, h, e, he => by rw [Rw.flat] at he; rw [List.mem_singleton.mp he]; exact h
  | .check n m w, ar, k, h, e, he => by rw [Rw.flat] at he; rw [List.mem_singleton.mp he]; exact h
  | .sect rs w, ar, k, h, e, he => by
    rw [Rw.flat] at he
    rcases List.mem_cons.mp he with rfl | he
    · exact h
    · rw [RU] at h; exact RUs.flat rs ar (k + 1) h.1 e he
  | .rounds n rs w, ar, k, h, e, he => by
    rw [Rw.flat] at he
    rcases List.mem_cons.mp he with rfl | he
    · exact h
    · rw [RU] at h; exact RUs.flat rs (some k) (k + 1) h.1 e he
theorem RUs.flat : ∀ (rs : List Rw) (ar : Option Nat) (k : Nat), RUs rs → ∀ e ∈ Rws.flat rs ar k, RU e.1
  | [], ar, k, _, e, he => by rw [Rws.flat] at he; exact nomatch he
  | r :: rs, ar, k, h, e, he => by
    rw [Rws.flat] at he
    rw [RUs] at h
    rcases List.mem_append.mp he with he | he
    · exact RU.flat r ar k h.1 e he
    · exact RUs.flat rs ar _ h.2 e he
end
theorem name8 {z : Str} (h : isName z = true) : z.length ≤ 1000 := Nat.le_trans (name_ok h).2 (by decide)
theorem rwB_of {rs : List Rw} (h : formF rs = none) (hu : RUs rs) : ∀ e ∈ Rws.flat rs none 0, RwB 12 e.1 := fun e he => by
  have hR := RUs.flat rs none 0 hu e he
  obtain ⟨n1, n2, n3⟩ := form_row h he
  have nm : e.1.name.length ≤ 1000 := by
    cases hn : e.1.isN with
    | true => exact name8 (n1 hn)
    | false =>
      obtain ⟨L', k1, k2⟩ := ck_memL (formF_inv h).2.2 e he
      obtain ⟨r, ar⟩ := e
      cases r with
      | sect us w => exact Nat.zero_le _
      | rounds c us w =>
        have hc : ckCount L' (.rounds c us w) ar = none := by
          unfold ckRow at k1
          exact (thenF_V (thenF_V (thenF_V (thenF_V (thenF_V k1).2).2).2).2).1
        show c.length ≤ 1000
        have hc2 : (match quest L' c ar with | .inl f => some f | .inr q => fitN q) = none := hc
        unfold quest at hc2
        cases hl : look L' c with
        | none => rw [hl] at hc2; cases hc2
        | some x =>
          unfold look at hl
          obtain ⟨y, hy, _⟩ := Option.map_eq_some_iff.mp hl
          have hm := List.mem_of_find?_eq_some hy
          have hyc : y.1 = c := of_decide_eq_true (List.find?_some (p := fun e : Str × Rw × Option Nat => decide (e.1 = c)) hy)
          rcases k2 y hm with z | ⟨g, hg, hgN, hgn⟩
          · exact nomatch z
          · have := (form_row h hg).1 hgN
            rw [← hgn, hyc] at this
            exact name8 this
      | one => cases hn
      | some => cases hn
      | number => cases hn
      | check => cases hn
  refine ⟨?_, ?_, ?_, nm, Nat.le_trans n2 (by decide), fun o ho => name8 (n3 o ho)⟩
  · obtain ⟨r, ar⟩ := e
    cases r with
    | check n m w => rw [RU] at hR; have := hR.1.1; have := hR.2.1; show max m.dep (odep w) < 12; omega
    | one => rw [RU] at hR; exact Nat.lt_of_le_of_lt hR.1 (by decide)
    | some => rw [RU] at hR; exact Nat.lt_of_le_of_lt hR.1 (by decide)
    | number => rw [RU] at hR; exact Nat.lt_of_le_of_lt hR.1 (by decide)
    | sect => rw [RU] at hR; exact Nat.lt_of_le_of_lt hR.2.1 (by decide)
    | rounds => rw [RU] at hR; exact Nat.lt_of_le_of_lt hR.2.1 (by decide)
  · obtain ⟨r, ar⟩ := e
    cases r with
    | check n m w => rw [RU] at hR; exact Nat.le_trans hR.2.2 (by decide)
    | one => rw [RU] at hR; exact Nat.le_trans hR.2 (by decide)
    | some => rw [RU] at hR; exact Nat.le_trans hR.2 (by decide)
    | number => rw [RU] at hR; exact Nat.le_trans hR.2 (by decide)
    | sect => rw [RU] at hR; exact Nat.le_trans hR.2.2 (by decide)
    | rounds => rw [RU] at hR; exact Nat.le_trans hR.2.2 (by decide)
  · obtain ⟨r, ar⟩ := e
    cases r with
    | check n m w => rw [RU] at hR; exact Nat.le_trans hR.1.2 (by decide)
    | one => exact Nat.zero_le _
    | some => exact Nat.zero_le _
    | number => exact Nat.zero_le _
    | sect => exact Nat.zero_le _
    | rounds => exact Nat.zero_le _
theorem mkFo {K : PySem.W.Frag} {H1 : Hp} {l : Addr} {xs : List V} {rs : List Rw} {R : Hp → Prop} {E : XK} {x dx : Addr} (fm : formF rs = none) (ru : RUs rs) (hd : Rws.dep rs ≤ 11) (hc : Rws.cnt rs ≤ 900) (hl : SqL K H1 l xs ∨ SqT K H1 l xs) (hr : ROs K H1 xs rs) (hx : H1 x = none) (hdx : H1 dx = none) (q : ∀ H', Same H1 H' → FormO K H' x rs → R H') :
    spForm K 12 (.ref x :: ([.ref l] ++ [])) (upd (upd H1 dx (.own x)) x (.ins (He.ga K "Form") dx [])) (fun v H2 => v = .non ∧ R H2) E := by
  refine ⟨x, dx, l, xs, rs, H1, rfl, fun c o h => by rw [upd_ne (ne_of_none h hx), upd_ne (ne_of_none h hdx)]; exact h, hx, hl, hr, rwB_of fm ru, by omega, hc, upd_same, ?_⟩
  unfold FormEnd
  rw [fm]
  intro H8 t8 d8 d28 kvs8 kv28 e8 hx8 ht8 hd8 hp8 hd28 hz8
  exact ⟨rfl, q H8 e8 ⟨fm, dx, t8, d8, d28, xs, kvs8, kv28, hx8, ht8, ROs.same e8 hr, hd8, hp8, hd28, hz8⟩⟩
theorem qNames_qs (rs : List Rw) : qNames rs = (Rws.qs rs).map Rw.name := by
  unfold qNames
  rw [Rws.qs_flat]
theorem strs_d0 : ∀ os : List Str, PyData.depthAll (os.map PyData.str) = 0
  | [] => rfl
  | o :: os => by rw [List.map_cons, PyData.depthAll, strs_d0 os]; rfl
theorem strs_pl : ∀ os : List Str, PyData.plainAll (os.map PyData.str) = true
  | [] => rfl
  | o :: os => by rw [List.map_cons, PyData.plainAll, strs_pl os]; rfl
/-! == and != of whatever reads as data without dicts -/
def rEqP (K : PySem.W.Frag) (neg : Bool) : R2 := fun x y H Q => ∃ d e, Dp K H x d ∧ Dp K H y e ∧ d.plain = true ∧ e.plain = true ∧ d.depth ≤ 64 ∧ Q (.bl (if neg = true then !PyData.eqv d e else PyData.eqv d e)) H
theorem op_nePl {X : Cx} (hu : X.A.units + 64 < cLine) : OpR X (compareOp .NotEq) (rEqP X.K true) := by
  intro pins s σ H x y v u Q I rx ry h
  obtain ⟨d, e, hd, he, sd, se, dl, q⟩ := h
  obtain ⟨as, r1⟩ := Dp.reads I d x v hd rx
  obtain ⟨bs, r2⟩ := Dp.reads I e y u he ry
  have : min d.depth e.depth ≤ d.depth := Nat.min_le_left _ _
  exact SeqAt.ne_plain r1 r2 sd se (by omega) ⟨.bl _, H, I, rfl, q⟩
theorem strs_dpB {K : PySem.W.Frag} {H : Hp} (zs : List Str) {p : Addr} (h : H p = some (.lst (zs.map V.str))) : Dp K H (.ref p) (.list (zs.map PyData.str)) := .lst (SqL.of h) (strs_dp zs)
theorem ne_same {K : PySem.W.Frag} {H : Hp} {x y : V} {d : PyData} {Q : VK} (h1 : Dp K H x d) (h2 : Dp K H y d) (hp : d.plain = true) (hd : d.depth ≤ 64) (q : Q (.bl false) H) : rEqP K true x y H Q :=
  ⟨d, d, h1, h2, hp, hp, hd, by rw [if_pos rfl, SeqAt.eqv_refl_plain d hp]; exact q⟩
theorem same_newA {s : Addr} {H H1 H2 : Hp} (h0 : H s = none) (e : Same H H1) (b : BM [s] H1 H2) : Same H H2 := fun c o h => b.at (e _ _ h) (by simpa using fun z => by rw [z, h0] at h; cases h)
end K3
end WK9s_part
section WK9_part
set_option Elab.async false
set_option linter.all false
set_option maxRecDepth 100000
set_option maxHeartbeats 1000000
set_option pp.deepTerms true
open PySem PySem.Spec PyProof.Rows L2
/-- go on as far as nothing is open -/
local macro_rules | `(tactic| walk_at "go") => `(tactic| repeat (first
  | with_reducible refine w_seq ?_ | with_reducible refine w_next ?_ | with_reducible refine w_set ?_ | with_reducible refine w_drop ?_ | with_reducible refine w_ret ?_ | with_reducible refine w_retN ?_
  | with_reducible refine w_if ?_ | ((with_reducible refine' w_var ?hv ?_); (case hv => exact rfl)) | with_reducible refine w_c ?_ | with_reducible refine w_nil ?_ | with_reducible refine w_cons ?_ | with_reducible refine w_op ?_ | with_reducible refine w_un ?_
  | with_reducible refine w_test ?_ | with_reducible refine w_tB ?_ | with_reducible refine w_not ?_ | with_reducible refine w_and ?_ | with_reducible refine w_or ?_ | with_reducible refine w_bl ?_
  | with_reducible refine w_andV ?_ | with_reducible refine w_orV ?_ | with_reducible refine w_notV ?_ | with_reducible refine w_ifE ?_ | with_reducible refine w_chain ?_ | with_reducible refine w_i0 ?_
  | with_reducible refine w_call ?_ | with_reducible refine w_callS ?_ | with_reducible refine w_cB ?_ | with_reducible refine w_tup ?_ | with_reducible refine w_lst ?_ | with_reducible refine w_fldV ?_
  | with_reducible refine w_neF ?_ | with_reducible refine w_neT ?_ | with_reducible refine w_notN ?_ | with_reducible refine w_isN ?_ | with_reducible refine w_gname ?_ | with_reducible refine w_gsub ?_ | with_reducible refine w_asg ?_ | with_reducible refine w_sl ?_ | with_reducible refine w_noP ?_ | with_reducible refine w_int1 ?_ | with_reducible refine w_part ?_ | with_reducible refine w_meth ?_ | with_reducible refine w_din ?_ | with_reducible refine w_dnotin ?_ | with_reducible refine w_dgt ?_ | with_reducible refine w_dget1 ?_ | with_reducible refine w_dget2 ?_ | with_reducible refine w_dput ?_ | with_reducible refine w_yes ?_ | with_reducible refine w_nT ?_ | with_reducible refine w_nF ?_ | with_reducible refine w_iteT ?_ | with_reducible refine w_iteF ?_))
namespace K3
open LamX NdefX LamP
/-! ### an answer drawn -/
structure QB (r : Rw) : Prop where
  isq : r.isQ = true
  ok : match r with
    | .one _ os _ => 1 ≤ os.length ∧ os.length ≤ 1000 ∧ ∀ o ∈ os, PySem.PyData.strOk o = true
    | .some _ os _ => os.length ≤ 1000 ∧ ∀ o ∈ os, PySem.PyData.strOk o = true
    | .number _ lo hi _ => lo ≤ hi ∧ hi ≤ lo + 5
    | _ => True
def spAnsL (K : PySem.W.Frag) : Sp := fun vs H Q _ => ∃ (s : Addr) (v : V) (r : Rw), vs = [.ref s, v] ∧ Sd H s ∧ DR (less H [s]) v r ∧ QB r ∧ ∀ v' H' x, BM [s] H H' → Sd H' s → AnO H' v' x → x.ok → Q v' H'
section
variable {P : Program} {w : World} {K : PySem.W.Frag} {mg : Str → Option Value} {base : Heap}
theorem sc_answer : FnScope ["_law_s", "_law_row", "_law_one"] ["_law_s", "_law_row"] (defScope s__law_answer) := ⟨rfl, rfl, rfl, by decide +kernel, rfl, by decide +kernel, by decide +kernel⟩
theorem ok_answer (T : Tx K mg) : Ok P w K mg base 3 (He.ga K "_law_answer") ["_law_s", "_law_row"] (spAnsL K) := by
  obtain ⟨fd, F⟩ := T.f__law_answer
  have O_law_digit := ok_digit (P := P) (w := w) (base := base) T
  refine ⟨fd, F.ok (k := 2) sc_answer (fun vs H Q E h => ?_) (fun cdv A outer s_ H vs Q E hr h => ?_), F.bindsN fun _ _ _ _ _ _ us hl => match us, hl with | [_, _], _ => rfl, F.kp⟩
  · obtain ⟨s, v, r, rfl, hs, hd, hq, q⟩ := h
    rfl
  obtain ⟨s, v, r, rfl, hs, hd, hq, q⟩ := h
  have hu65 := K3.Room.units65 hr
  have hu70 := K3.Room.units70 hr
  have hu4 := K3.Room.units4 hr
  have hu64 := Nat.lt_of_succ_lt hu65
  have hu0 := Nat.lt_of_le_of_lt (Nat.le_add_right _ 65) hu65
  have hu1 := Nat.lt_of_le_of_lt (Nat.add_le_add_left (show 1 ≤ 65 by decide) _) hu65
  have r_law_digit : Room 1 _ := hr.mono (by decide)
  refine ⟨_, pss_cons (ps_if (pt_cmpR op_eq (pe_f O_law_digit r_law_digit T.g__law_digit (pa_cons (pv 0) (pa_cons pe_int pa_nil))) pe_int (nomark _)) (pss_one (ps_ret (pe_ix ix_list (pe_lst (pa_cons pe_str (pa_cons (pe_tup pa_nil) (pa_cons pe_int (pa_cons pe_non (pa_cons pe_bl (pa_cons (pe_tup (pa_cons pe_str (pa_cons pe_str pa_nil))) pa_nil))))))) (pe_f O_law_digit r_law_digit T.g__law_digit (pa_cons (pv 0) (pa_cons pe_int pa_nil))) (fun _ _ => rfl)))) pss_nil)
      (pss_cons (ps_if (pt_cmpR op_eq (pe_ix ix_tup (pv 1) pe_int (fun _ _ => rfl)) pe_str (nomark _)) (pss_one (ps_ret (pe_ix ix_list (pe_ix ix_tup (pv 1) pe_int (fun _ _ => rfl)) (pe_f O_law_digit r_law_digit T.g__law_digit (pa_cons (pv 0) (pa_cons (pe_callB call_len_seq (by rfl) T.z_len PySem.boot_len (pa_cons (pe_ix ix_tup (pv 1) pe_int (fun _ _ => rfl)) pa_nil)) pa_nil))) (fun _ _ => rfl)))) pss_nil)
      (pss_cons (ps_if (pt_cmpR op_eq (pe_ix ix_tup (pv 1) pe_int (fun _ _ => rfl)) pe_str (nomark _)) (pss_one (ps_ret (pe_callTy call_tuple_of (by rfl) T.z_tuple (by decide +kernel) (pa_cons (by exact pe_lc (own := [("_law_one", 2)]) (g := gName 2) (tt := (tTest (tOp rEq (tCall (spDigit K) [] E0 (tCons (tVar 0) (tCons (tC (.int 2)) tNil))) (tC (.int 0))))) (te := (tVar 2)) (by rfl) sc_answer.nd (pi_list (pe_ix ix_tup (pv 1) pe_int (fun _ _ => rfl))) (blkOk_by (own := [("_law_one", 2)]) (N := ["_law_s", "_law_row", "_law_one"]) (sc := defScope s__law_answer) (by decide +kernel)) (fun _ _ _ _ _ => (pg_name (i := 2) sc_answer.nd rfl (Or.inl rfl))) (fun _ _ _ _ _ => (pts_one (pt_cmpR op_eq (pe_f O_law_digit r_law_digit T.g__law_digit (pa_cons (pv 0) (pa_cons pe_int pa_nil))) pe_int (nomark _)))) (fun _ _ _ _ _ => (pv 2))) pa_nil)))) pss_nil)
      (pss_one (ps_ret (pe_op op_add (pe_ix ix_tup (pv 1) pe_int (fun _ _ => rfl)) (pe_f O_law_digit r_law_digit T.g__law_digit (pa_cons (pv 0) (pa_cons (pe_op op_add (pe_op op_sub (pe_ix ix_tup (pv 1) pe_int (fun _ _ => rfl)) (pe_ix ix_tup (pv 1) pe_int (fun _ _ => rfl))) pe_int) pa_nil)))))))), ?_⟩
  walk_at "go"
  refine ⟨s, 60, rfl, hs, by decide, by decide, fun r1 H1 hr1 e1 s1 => ?_⟩
  walk_at "go"
  refine ⟨rfl, _, rfl, ?_⟩
  rw [decV]
  by_cases c1 : (r1 : Int) = 59
  · rw [decide_eq_true c1]
    walk_at "go"
    refine ⟨(by show 0 ≤ sizeLine; decide), fun p1 hp1 => ?_⟩
    have ep1 := Same.new hp1 (.tup [])
    have gp1 : (upd H1 p1 (.tup [])) p1 = some (.tup []) := upd_same
    generalize upd H1 p1 (.tup []) = H2 at ep1 gp1 ⊢
    walk_at "go"
    refine ⟨(by show 2 ≤ sizeLine; decide), fun p2 hp2 => ?_⟩
    have ep2 := Same.new hp2 (.tup [.str "e", .str "d"])
    have gp2 : (upd H2 p2 (.tup [.str "e", .str "d"])) p2 = some (.tup [.str "e", .str "d"]) := upd_same
    generalize upd H2 p2 (.tup [.str "e", .str "d"]) = H3 at ep2 gp2 ⊢
    walk_at "go"
    refine ⟨(by show 6 ≤ sizeLine; decide), fun p3 hp3 => ?_⟩
    have ep3 := Same.new hp3 (.lst [.str "nope", .ref p1, .int 99, .non, .bl true, .ref p2])
    have gp3 : (upd H3 p3 (.lst [.str "nope", .ref p1, .int 99, .non, .bl true, .ref p2])) p3 = some (.lst [.str "nope", .ref p1, .int 99, .non, .bl true, .ref p2]) := upd_same
    generalize upd H3 p3 (.lst [.str "nope", .ref p1, .int 99, .non, .bl true, .ref p2]) = H4 at ep3 gp3 ⊢
    have n3 : p3 ≠ s := (s1.same (ep1.trans ep2)).ne hp3
    walk_at "go"
    refine ⟨s, 6, rfl, ((s1.same ep1).same ep2).same ep3, by decide, by decide, fun r2 H5 hr2 e5 s5 => ?_⟩
    have f5 : BM [s] H H5 := ((((e1.same ep1).same ep2).same ep3).trans e5)
    have g5 := e5.at gp3 (by simpa using n3)
    have n1 : p1 ≠ s := s1.ne hp1
    have n2 : p2 ≠ s := (s1.same ep1).ne hp2
    have gp15 : H5 p1 = some (.tup (([] : List Str).map V.str)) := e5.at (ep3 _ _ (ep2 _ _ gp1)) (by simpa using n1)
    have gp25 : H5 p2 = some (.tup ((["e", "d"] : List Str).map V.str)) := e5.at (ep3 _ _ gp2) (by simpa using n2)
    rcases (show r2 = 0 ∨ r2 = 1 ∨ r2 = 2 ∨ r2 = 3 ∨ r2 = 4 ∨ r2 = 5 by omega) with rfl | rfl | rfl | rfl | rfl | rfl
    · refine w_ixL g5 rfl ?_
      exact q _ _ (.str "nope") f5 s5 (.str _) (show PySem.PyData.strOk "nope" = true by decide +kernel)
    · refine w_ixL g5 rfl ?_
      exact q _ _ (.tup []) f5 s5 (.tup gp15) ⟨by decide, fun z h => nomatch h⟩
    · refine w_ixL g5 rfl ?_
      exact q _ _ (.int 99) f5 s5 (.int _) trivial
    · refine w_ixL g5 rfl ?_
      exact q _ _ .non f5 s5 .non trivial
    · refine w_ixL g5 rfl ?_
      exact q _ _ (.bl true) f5 s5 (.bl _) trivial
    · refine w_ixL g5 rfl ?_
      exact q _ _ (.tup ["e", "d"]) f5 s5 (.tup gp25) ⟨by decide, by decide +kernel⟩
  rw [decide_eq_false c1]
  walk_at "go"
  have hd1 := hd.same e1.less
  have ns : ∀ {p : Addr} {o : HO}, less H1 [s] p = some o → p ∉ [s] := fun h => (less_at h).2
  cases hd1 with
  | @one t l n os w' wv h hl hw =>
    obtain ⟨o1, o2, o3⟩ := hq.ok
    refine w_ixT (SqT.of (less_at h).1) rfl ?_
    walk_at "go"
    refine w_sEA true (by decide +kernel) ?_
    refine ⟨_, rfl, ?_⟩
    rw [if_pos rfl]
    walk_at "go"
    refine w_ixT (SqT.of (less_at h).1) rfl ?_
    walk_at "go"
    refine w_ixT (SqT.of (less_at h).1) rfl ?_
    refine ⟨l, _, rfl, .inl (SqL.of (less_at hl).1), ?_⟩
    refine ⟨s, _, rfl, s1, by rw [List.length_map]; omega, by rw [List.length_map]; omega, fun r2 H2 hr2 e2 s2 => ?_⟩
    rw [List.length_map] at hr2
    have lr : r2 < os.length := by omega
    refine w_ixL (e2.at (less_at hl).1 (ns hl)) (atI_nat (show (os.map V.str)[r2]? = some (V.str os[r2]) by rw [List.getElem?_map, List.getElem?_eq_getElem lr]; rfl)) ?_
    exact q _ _ (.str os[r2]) (e1.trans e2) s2 (.str _) (o3 _ (List.getElem_mem lr))
  | @some t l n os w' wv h hl hw =>
    obtain ⟨o2, o3⟩ := hq.ok
    refine w_ixT (SqT.of (less_at h).1) rfl ?_
    walk_at "go"
    refine w_sEA false (by decide +kernel) ?_
    refine ⟨_, rfl, ?_⟩
    rw [if_neg Bool.false_ne_true]
    walk_at "go"
    refine w_ixT (SqT.of (less_at h).1) rfl ?_
    walk_at "go"
    refine w_sEA true (by decide +kernel) ?_
    refine ⟨_, rfl, ?_⟩
    rw [if_pos rfl]
    walk_at "go"
    refine lc_open (list_open ?_)
    walk_at "go"
    refine w_ixT (SqT.of (less_at h).1) rfl ?_
    refine ⟨l, rfl, ⟨_, SqL.of (less_at hl).1⟩, fun D hD => ?_⟩
    have nD := s1.ne hD
    refine lc_list (K := K) (a := l) (xs := os.map V.str) (fun (i : Nat) H' => BM [s] H1 H' ∧ Sd H' s ∧ ∃ zs : List Str, H' D = some (.lst (zs.map V.str)) ∧ zs.length ≤ i ∧ ∀ z ∈ zs, z ∈ os) ⟨BM.of (Same.new hD _), s1.same (Same.new hD _), [], upd_same, Nat.le_refl _, fun z h => nomatch h⟩ (fun i H' _ z => SqL.of (z.1.at (less_at hl).1 (ns hl))) ?_ ?_
    · rintro i v H2 hi ⟨b2, s2, zs, g2, l2, m2⟩
      rw [List.getElem?_map] at hi
      obtain ⟨o, ho, rfl⟩ := Option.map_eq_some_iff.mp hi
      have li := (List.getElem?_eq_some_iff.mp ho).1
      walk_at "go"
      refine ⟨rfl, ?_⟩
      walk_at "go"
      refine ⟨s, 2, rfl, s2, by decide, by decide, fun r3 H3 hr3 e3 s3 => ?_⟩
      walk_at "go"
      refine ⟨rfl, _, rfl, ?_⟩
      rw [decV]
      have g3 := e3.at g2 (by simpa using nD)
      by_cases c3 : (r3 : Int) = 0
      · rw [decide_eq_true c3]
        walk_at "go"
        refine ⟨_, g3, by rw [List.length_map]; exact Nat.lt_of_le_of_lt (show zs.length ≤ 1000 by omega) (by decide), (b2.trans e3).mut hD, s3.upd nD _, zs ++ [o], by rw [upd_same, List.map_append]; rfl, by rw [List.length_append]; show zs.length + 1 ≤ _; omega, fun z hz => ?_⟩
        rcases List.mem_append.mp hz with h | h
        · exact m2 z h
        · rw [List.mem_singleton.mp h]; exact List.mem_of_getElem? ho
      · rw [decide_eq_false c3]
        walk_at "go"
        exact ⟨b2.trans e3, s3, zs, g3, by omega, m2⟩
    · rintro H2 ⟨b2, s2, zs, g2, l2, m2⟩
      rw [List.length_map] at l2
      refine ⟨D, _, rfl, .inl ⟨SqL.of g2, fun p hp => ?_⟩⟩
      exact q _ _ (.tup zs) (e1.trans (b2.same (Same.new hp _))) (s2.same (Same.new hp _)) (.tup upd_same) ⟨by omega, fun z hz => o3 z (m2 z hz)⟩
  | @number t n lo hi w' wv h hw =>
    obtain ⟨o1, o2⟩ := hq.ok
    refine w_ixT (SqT.of (less_at h).1) rfl ?_
    walk_at "go"
    refine w_sEA false (by decide +kernel) ?_
    refine ⟨_, rfl, ?_⟩
    rw [if_neg Bool.false_ne_true]
    walk_at "go"
    refine w_ixT (SqT.of (less_at h).1) rfl ?_
    walk_at "go"
    refine w_sEA false (by decide +kernel) ?_
    refine ⟨_, rfl, ?_⟩
    rw [if_neg Bool.false_ne_true]
    walk_at "go"
    refine w_ixT (SqT.of (less_at h).1) rfl ?_
    walk_at "go"
    refine w_ixT (SqT.of (less_at h).1) rfl ?_
    walk_at "go"
    refine w_ixT (SqT.of (less_at h).1) rfl ?_
    walk_at "go"
    refine ⟨s, _, rfl, s1, by omega, by omega, fun r2 H2 hr2 e2 s2 => ?_⟩
    walk_at "go"
    exact q _ _ (.int (lo + (r2 : Int))) (e1.trans e2) s2 (.int _) trivial
  | _ => cases hq.isq
end
end K3
end WK9_part
section WK10s_part
set_option Elab.async false
set_option linter.all false
set_option maxRecDepth 100000
set_option maxHeartbeats 1000000
set_option pp.deepTerms true
open PySem PySem.Spec PyProof.Rows L2
/-- go on as far as nothing is open -/
local macro_rules | `(tactic| walk_at "go") => `(tactic| repeat (first
  | with_reducible refine w_seq ?_ | with_reducible refine w_next ?_ | with_reducible refine w_set ?_ | with_reducible refine w_drop ?_ | with_reducible refine w_ret ?_ | with_reducible refine w_retN ?_
  | with_reducible refine w_if ?_ | ((with_reducible refine' w_var ?hv ?_); (case hv => exact rfl)) | with_reducible refine w_c ?_ | with_reducible refine w_nil ?_ | with_reducible refine w_cons ?_ | with_reducible refine w_op ?_ | with_reducible refine w_un ?_
  | with_reducible refine w_test ?_ | with_reducible refine w_tB ?_ | with_reducible refine w_not ?_ | with_reducible refine w_and ?_ | with_reducible refine w_or ?_ | with_reducible refine w_bl ?_
  | with_reducible refine w_andV ?_ | with_reducible refine w_orV ?_ | with_reducible refine w_notV ?_ | with_reducible refine w_ifE ?_ | with_reducible refine w_chain ?_ | with_reducible refine w_i0 ?_
  | with_reducible refine w_call ?_ | with_reducible refine w_callS ?_ | with_reducible refine w_cB ?_ | with_reducible refine w_tup ?_ | with_reducible refine w_lst ?_ | with_reducible refine w_fldV ?_
  | with_reducible refine w_neF ?_ | with_reducible refine w_neT ?_ | with_reducible refine w_notN ?_ | with_reducible refine w_isN ?_ | with_reducible refine w_gname ?_ | with_reducible refine w_gsub ?_ | with_reducible refine w_asg ?_ | with_reducible refine w_sl ?_ | with_reducible refine w_noP ?_ | with_reducible refine w_int1 ?_ | with_reducible refine w_part ?_ | with_reducible refine w_meth ?_ | with_reducible refine w_din ?_ | with_reducible refine w_dnotin ?_ | with_reducible refine w_dgt ?_ | with_reducible refine w_dget1 ?_ | with_reducible refine w_dget2 ?_ | with_reducible refine w_dput ?_ | with_reducible refine w_yes ?_ | with_reducible refine w_nT ?_ | with_reducible refine w_nF ?_ | with_reducible refine w_iteT ?_ | with_reducible refine w_iteF ?_))
namespace K3
open LamX NdefX LamP
/-! ### what stands through the law's round -/
def noT (H : Hp) : Hp := fun b => match H b with
  | some (.tbl _) => none
  | x => x
theorem noT_xn (H : Hp) : ExtN H (noT H) := fun b o h n => by
  unfold noT
  rw [h]
  cases o with
  | tbl ps => exact absurd rfl (n ps)
  | _ => rfl
theorem noT_at {H : Hp} {b : Addr} {o : HO} (h : noT H b = some o) : H b = some o ∧ ∀ ps, o ≠ .tbl ps := by
  unfold noT at h
  split at h
  · cases h
  · rename_i x hx
    exact ⟨h, fun ps z => hx ps (by rw [h, z])⟩
theorem DC.xn {B B' : Hp} (e : ExtN B B') : ∀ {c : Cd} {v : V}, DC B v c → DC B' v c := by
  intro c v h
  induction h with
  | is h => exact .is (e _ _ h fun _ z => nomatch z)
  | has h => exact .has (e _ _ h fun _ z => nomatch z)
  | over h => exact .over (e _ _ h fun _ z => nomatch z)
  | under h => exact .under (e _ _ h fun _ z => nomatch z)
  | no h _ i => exact .no (e _ _ h fun _ z => nomatch z) i
  | both h _ _ i j => exact .both (e _ _ h fun _ z => nomatch z) i j
  | either h _ _ i j => exact .either (e _ _ h fun _ z => nomatch z) i j
theorem DW.xn {B B' : Hp} (e : ExtN B B') {c : Option Cd} {v : V} (h : DW B v c) : DW B' v c := by
  cases h with
  | none => exact .none
  | some h => exact .some (h.xn e)
mutual
theorem DR.xn {B B' : Hp} (e : ExtN B B') : ∀ {r : Rw} {v : V}, DR B v r → DR B' v r
  | _, _, .one h l w => .one (e _ _ h fun _ z => nomatch z) (e _ _ l fun _ z => nomatch z) (w.xn e)
  | _, _, .some h l w => .some (e _ _ h fun _ z => nomatch z) (e _ _ l fun _ z => nomatch z) (w.xn e)
  | _, _, .number h w => .number (e _ _ h fun _ z => nomatch z) (w.xn e)
  | _, _, .check h m w => .check (e _ _ h fun _ z => nomatch z) (m.xn e) (w.xn e)
  | _, _, .sect h l rs w => .sect (e _ _ h fun _ z => nomatch z) (e _ _ l fun _ z => nomatch z) (DRs.xn e rs) (w.xn e)
  | _, _, .rounds h l rs w => .rounds (e _ _ h fun _ z => nomatch z) (e _ _ l fun _ z => nomatch z) (DRs.xn e rs) (w.xn e)
theorem DRs.xn {B B' : Hp} (e : ExtN B B') : ∀ {rs : List Rw} {vs : List V}, DRs B vs rs → DRs B' vs rs
  | _, _, .nil => .nil
  | _, _, .cons h t => .cons (DR.xn e h) (DRs.xn e t)
end
theorem xn_si {H H' : Hp} (e : ExtN H H') : SI H H' := fun b o k h => e b o h fun ps z => by rw [z] at k; cases k
theorem FormO.xn {K : PySem.W.Frag} {H H' : Hp} (e : ExtN H H') {a : Addr} {rs : List Rw} (h : FormO K H a rs) : FormO K H' a rs := by
  obtain ⟨o, dx, t, d, d2, xs, kvs, kv2, h1, h2, h3, h4, h5, h6, h7⟩ := h
  exact ⟨o, dx, t, d, d2, xs, kvs, kv2, e _ _ h1 (fun _ z => nomatch z), (xn_si e).sqt h2, ROs.si (xn_si e) h3, e _ _ h4 (fun _ z => nomatch z), L2.Paired.mapP h5 fun _ _ z => ⟨z.1, RO.si (xn_si e) z.2⟩, e _ _ h6 (fun _ z => nomatch z), h7⟩
theorem AD.xn {H H' : Hp} (e : ExtN H H') {d : Addr} {kvs : List (List Key × V)} {al : Ans} (h : AD H d kvs al) : AD H' d kvs al := h.keep fun c xs q => e _ _ q (fun _ z => nomatch z)
theorem tabs_nm {T : List (Addr × Str)} {H H' : Hp} (t : Tabs T H) (e : NM H H') : Tabs T H' := fun p hp => by
  obtain ⟨ps, h1, h2, h3⟩ := t p hp
  refine ⟨ps, e _ _ (fun _ z => nomatch z) (fun _ z => nomatch z) h1, h2, fun pos cv hc => ?_⟩
  obtain ⟨c, k1, k2⟩ := h3 pos cv hc
  exact ⟨c, k1, e _ _ (fun _ z => by unfold CodeO at z; cases z) (fun _ z => by unfold CodeO at z; cases z) k2⟩
theorem bm_nm {s : Addr} {H H' : Hp} (hs : Sd H s) (e : BM [s] H H') : NM H H' := fun b o n _ h => e.at h fun z => by
  obtain ⟨_, _, _, g, _⟩ := hs
  rw [List.mem_singleton.mp z, g] at h
  exact n _ (Option.some.inj h).symm
structure LawI (K : PySem.W.Frag) (TT : List (Addr × Str)) (B0 : Hp) (s f p3 : Addr) (cells : List V) (rs : List Rw) (H : Hp) : Prop where
  dt : ∀ b o, B0 b = some o → H b = some o ∧ b ≠ s ∧ ∀ ps, o ≠ .tbl ps
  sd : Sd H s
  fo : FormO K H f rs
  tb : Tabs TT H
  ce : H p3 = some (.lst cells)
  ne : p3 ≠ s
section
variable {K : PySem.W.Frag} {TT : List (Addr × Str)} {B0 : Hp} {s f p3 : Addr} {cells : List V} {rs : List Rw} {H H' : Hp}
theorem LawI.bm (h : LawI K TT B0 s f p3 cells rs H) (e : BM [s] H H') (hs : Sd H' s) : LawI K TT B0 s f p3 cells rs H' :=
  ⟨fun b o q => let ⟨h1, h2, h3⟩ := h.dt b o q; ⟨e.at h1 (by simpa using h2), h2, h3⟩, hs, h.fo.nm (bm_nm h.sd e), tabs_nm h.tb (bm_nm h.sd e), e.at h.ce (by simpa using h.ne), h.ne⟩
theorem LawI.same (h : LawI K TT B0 s f p3 cells rs H) (e : Same H H') : LawI K TT B0 s f p3 cells rs H' := h.bm (BM.of e) (h.sd.same e)
theorem LawI.xn (h : LawI K TT B0 s f p3 cells rs H) (e : ExtN H H') (t : Tabs TT H') : LawI K TT B0 s f p3 cells rs H' :=
  ⟨fun b o q => let ⟨h1, h2, h3⟩ := h.dt b o q; ⟨e _ _ h1 h3, h2, h3⟩, let ⟨a, b, c, q, r⟩ := h.sd; ⟨a, b, c, e _ _ q (fun _ z => nomatch z), r⟩, h.fo.xn e, t, e _ _ h.ce (fun _ z => nomatch z), h.ne⟩
theorem LawI.put (h : LawI K TT B0 s f p3 cells rs H) {ad : Addr} {kvs : List (List Key × V)} (g : H ad = some (.dT kvs)) (n : B0 ad = none) (o : HO) : LawI K TT B0 s f p3 cells rs (L2.upd H ad o) := by
  have nm := NM.updT g o
  refine ⟨fun b u q => let ⟨h1, h2, h3⟩ := h.dt b u q; ⟨by rw [upd_ne (fun z => by rw [z, n] at q; cases q)]; exact h1, h2, h3⟩, ?_, h.fo.nm nm, tabs_nm h.tb nm, ?_, h.ne⟩
  · obtain ⟨a, b, c, q, r⟩ := h.sd
    exact ⟨a, b, c, by rw [upd_ne (fun z => by rw [z, g] at q; cases q)]; exact q, r⟩
  · rw [upd_ne (fun z => by have := h.ce; rw [z, g] at this; cases this)]
    exact h.ce
theorem LawI.bs (h : LawI K TT B0 s f p3 cells rs H) : Bs B0 [] H := fun b o q => let ⟨h1, _, h3⟩ := h.dt b o q; ⟨h1, (by simp), h3⟩
theorem LawI.ls (h : LawI K TT B0 s f p3 cells rs H) : Same B0 (less H [s]) := fun b o q => let ⟨h1, h2, _⟩ := h.dt b o q; less_of h1 (by simpa using h2)
end
/-- a question's name stands second -/
theorem drName {B : Hp} {v : V} {r : Rw} (h : DR B v r) (q : r.isQ = true) : ∃ (t : Addr) (ys : List V), v = .ref t ∧ B t = some (.tup ys) ∧ atI ys 1 = some (.str r.name) := by
  cases h with
  | one h _ _ => exact ⟨_, _, rfl, h, rfl⟩
  | some h _ _ => exact ⟨_, _, rfl, h, rfl⟩
  | number h _ => exact ⟨_, _, rfl, h, rfl⟩
  | check _ _ _ => cases q
  | sect _ _ _ _ => cases q
  | rounds _ _ _ _ => cases q
mutual
theorem Rw.qs_vr : ∀ (r : Rw) {ks : List Kn} {b : Bool}, VR ks b r → ∀ q ∈ Rw.qs r, q.isQ = true ∧ ∃ ls c, VR ls c q
  | .one n os w, ks, b, h, q, hq => by rw [Rw.qs] at hq; rw [List.mem_singleton.mp hq]; exact ⟨rfl, ks, b, h⟩
  | .some n os w, ks, b, h, q, hq => by rw [Rw.qs] at hq; rw [List.mem_singleton.mp hq]; exact ⟨rfl, ks, b, h⟩
  | .number n lo hi w, ks, b, h, q, hq => by rw [Rw.qs] at hq; rw [List.mem_singleton.mp hq]; exact ⟨rfl, ks, b, h⟩
  | .check _ _ _, ks, b, h, q, hq => by rw [Rw.qs] at hq; cases hq
  | .sect us w, ks, b, h, q, hq => by rw [Rw.qs] at hq; rw [VR] at h; exact Rws.qs_vr us h.2.1 q hq
  | .rounds c us w, ks, b, h, q, hq => by rw [Rw.qs] at hq; rw [VR] at h; exact Rws.qs_vr us h.2.2.2.1 q hq
theorem Rws.qs_vr : ∀ (rs : List Rw) {ks : List Kn} {b : Bool}, VRs ks b rs → ∀ q ∈ Rws.qs rs, q.isQ = true ∧ ∃ ls c, VR ls c q
  | [], ks, b, h, q, hq => by rw [Rws.qs] at hq; cases hq
  | r :: rs, ks, b, h, q, hq => by
    rw [Rws.qs] at hq
    rw [VRs] at h
    exact (List.mem_append.mp hq).elim (Rw.qs_vr r h.1 q) (Rws.qs_vr rs h.2 q)
end
theorem OsV.sok {os : List Str} {m : Nat} (h : OsV os m) (hm : m ≤ 1000) : os.length ≤ 1000 ∧ ∀ o ∈ os, PySem.PyData.strOk o = true := ⟨Nat.le_trans h.hi hm, fun o ho => (name_ok (h.nm o ho)).1⟩
theorem GreatOk.qb {rs : List Rw} (h : GreatOk rs) {q : Rw} (hq : q ∈ Rws.qs rs) : QB q := by
  obtain ⟨h1, ls, c, v⟩ := Rws.qs_vr rs h.vr q hq
  have nb := h.nb q hq
  refine ⟨h1, ?_⟩
  cases q with
  | one n os w => rw [VR] at v; exact ⟨v.1.lo, v.1.sok (by decide)⟩
  | some n os w => rw [VR] at v; exact v.1.sok (by decide)
  | number n lo hi w => rw [VR] at v; exact ⟨v.1, nb⟩
  | _ => trivial
theorem GreatOk.opt {rs : List Rw} (h : GreatOk rs) : OptOk rs := fun z r hr => form_q h.form hr
theorem put_lenA (al : Ans) (s : Spot) (x : An) : (putA al s x).length ≤ al.length + 1 := by
  unfold putA
  split <;> simp
end K3
end WK10s_part
section WK10_part
set_option Elab.async false
set_option linter.all false
set_option maxRecDepth 100000
set_option maxHeartbeats 1000000
set_option pp.deepTerms true
open PySem PySem.Spec PyProof.Rows L2
/-- go on as far as nothing is open -/
local macro_rules | `(tactic| walk_at "go") => `(tactic| repeat (first
  | with_reducible refine w_seq ?_ | with_reducible refine w_next ?_ | with_reducible refine w_set ?_ | with_reducible refine w_drop ?_ | with_reducible refine w_ret ?_ | with_reducible refine w_retN ?_
  | with_reducible refine w_if ?_ | ((with_reducible refine' w_var ?hv ?_); (case hv => exact rfl)) | with_reducible refine w_c ?_ | with_reducible refine w_nil ?_ | with_reducible refine w_cons ?_ | with_reducible refine w_op ?_ | with_reducible refine w_un ?_
  | with_reducible refine w_test ?_ | with_reducible refine w_tB ?_ | with_reducible refine w_not ?_ | with_reducible refine w_and ?_ | with_reducible refine w_or ?_ | with_reducible refine w_bl ?_
  | with_reducible refine w_andV ?_ | with_reducible refine w_orV ?_ | with_reducible refine w_notV ?_ | with_reducible refine w_ifE ?_ | with_reducible refine w_chain ?_ | with_reducible refine w_i0 ?_
  | with_reducible refine w_call ?_ | with_reducible refine w_callS ?_ | with_reducible refine w_cB ?_ | with_reducible refine w_tup ?_ | with_reducible refine w_lst ?_ | with_reducible refine w_fldV ?_
  | with_reducible refine w_neF ?_ | with_reducible refine w_neT ?_ | with_reducible refine w_notN ?_ | with_reducible refine w_isN ?_ | with_reducible refine w_gname ?_ | with_reducible refine w_gsub ?_ | with_reducible refine w_asg ?_ | with_reducible refine w_sl ?_ | with_reducible refine w_noP ?_ | with_reducible refine w_int1 ?_ | with_reducible refine w_part ?_ | with_reducible refine w_meth ?_ | with_reducible refine w_din ?_ | with_reducible refine w_dnotin ?_ | with_reducible refine w_dgt ?_ | with_reducible refine w_dget1 ?_ | with_reducible refine w_dget2 ?_ | with_reducible refine w_dput ?_ | with_reducible refine w_yes ?_ | with_reducible refine w_nT ?_ | with_reducible refine w_nF ?_ | with_reducible refine w_iteT ?_ | with_reducible refine w_iteF ?_))
namespace K3
open LamX NdefX LamP
def spLawT (TT : List (Addr × Str)) (K : PySem.W.Frag) : Sp := fun vs H Q _ => ∃ (a : Addr) (ns : List Int), vs = [.ref a] ∧ SqL K H a (ns.map V.int) ∧ ns.length ≤ 63 ∧ Tabs TT H ∧ ∀ H', Q (.bl true) H'
section
variable {P : Program} {w : World} {K : PySem.W.Frag} {mg : Str → Option Value} {base : Heap}
theorem sc_law : FnScope ["_law_script", "_law_number", "_law_s", "_law_rows", "_law_form", "_law_row", "_law_turn", "_law_answers", "_law_k"] ["_law_script"] (defScope s_law) := ⟨rfl, rfl, rfl, by decide +kernel, rfl, by decide +kernel, by decide +kernel⟩
theorem ok_law {cG PG : Addr} {TT : List (Addr × Str)} (T : Tx K mg) (B : Told K mg base "_law_gone" cG PG TT) {fd : FuncData} (F : FunD K "law" "law" (defArgs s_law) (defBody s_law) (defScope s_law) [] [] (He.ga K "law") fd) : FnOk P w K mg base L2.CX0 55 (He.ga K "law") fd ["_law_script"] (spLawT TT K) := by
  have O_law_facts := ok_facts (P := P) (w := w) (base := base) T
  have Owalked := ok_walked (P := P) (w := w) (base := base) T (D := 11) (N := 12)
  have O_law_walk := ok_walkL (P := P) (w := w) (base := base) T B 11 (by decide) 12
  have O_law_questions := ok_questions (P := P) (w := w) (base := base) T 12
  have O_law_digit := ok_digit (P := P) (w := w) (base := base) T
  have O_law_answer := ok_answer (P := P) (w := w) (base := base) T
  have O_law_made := (ok_mades (P := P) (w := w) (base := base) T 12).2
  have O_law_great_rows := ok_great_rows (P := P) (w := w) (base := base) T
  have O_law_state := ok_state (P := P) (w := w) (base := base) T
  have OMnames := ok_Form_names (P := P) (w := w) (base := base) T
  refine F.ok (k := 54) sc_law (fun vs H Q E h => ?_) (fun cdv A outer s_ H vs Q E hr h => ?_)
  · obtain ⟨a, ns, rfl, _⟩ := h
    rfl
  obtain ⟨a, ns, rfl, hns, h63, hT, q⟩ := h
  have hu65 := K3.Room.units65 hr
  have hu70 := K3.Room.units70 hr
  have hu75 := u75_of hr
  have hu4 := K3.Room.units4 hr
  have hu64 := Nat.lt_of_succ_lt hu65
  have hu0 := Nat.lt_of_le_of_lt (Nat.le_add_right _ 65) hu65
  have hu1 := Nat.lt_of_le_of_lt (Nat.add_le_add_left (show 1 ≤ 65 by decide) _) hu65
  have r_law_facts : Room 1 _ := hr.mono (by decide)
  have rwalked : Room 53 _ := hr.mono (by decide)
  have r_law_walk : Room 28 _ := hr.mono (by decide)
  have r_law_questions : Room 13 _ := hr.mono (by decide)
  have r_law_digit : Room 1 _ := hr.mono (by decide)
  have r_law_answer : Room 3 _ := hr.mono (by decide)
  have r_law_made : Room 41 _ := hr.mono (by decide)
  have r_law_great_rows : Room 15 _ := hr.mono (by decide)
  have r_law_state : Room 1 _ := hr.mono (by decide)
  have rMnames : Room 1 _ := hr.mono (by decide)
  refine ⟨_, pss_cons (ps_for (passes_of rfl) (by rfl) (pi_list (pe_slice sl_list (pe_op op_catLA (pv 0) (pe_lst (pa_cons pe_int pa_nil))) po_none (po_some pe_int))) (pg_name (i := 1) sc_law.nd rfl (Or.inl rfl)) (pss_cons (ps_set (i := 2) sc_law.nd rfl (Or.inl rfl) (pe_f O_law_state r_law_state T.g__law_state (pa_cons (pv 1) pa_nil)))
      (pss_cons (ps_set (i := 3) sc_law.nd rfl (Or.inl rfl) (pe_f O_law_great_rows r_law_great_rows T.g__law_great_rows (pa_cons (pv 2) pa_nil)))
      (pss_cons (ps_set (i := 4) sc_law.nd rfl (Or.inl rfl) (pe_cls T.mk_Form (ok_Form T 12) (hr.mono (by decide : 21 ≤ 54)) T.g_Form (pa_cons (pe_f O_law_made r_law_made T.g__law_made (pa_cons (pv 3) pa_nil)) pa_nil)))
      (pss_cons (ps_if (pt_cmpR (op_nePl hu64) (pe_mO0 OMnames rMnames T.cl_Form T.m_Form_names (pv 4)) (by exact pe_lc (own := [("_law_row", 5)]) (g := gName 5) (tt := tYes) (te := (tOp (rIxT K) (tVar 5) (tC (.int 1)))) (by rfl) sc_law.nd (pi_list (pe_f O_law_questions r_law_questions T.g__law_questions (pa_cons (pv 3) pa_nil))) (blkOk_by (own := [("_law_row", 5)]) (N := ["_law_script", "_law_number", "_law_s", "_law_rows", "_law_form", "_law_row", "_law_turn", "_law_answers", "_law_k"]) (sc := defScope s_law) (by decide +kernel)) (fun _ _ _ _ _ => (pg_name (i := 5) sc_law.nd rfl (Or.inl rfl))) (fun _ _ _ _ _ => pts_nil) (fun _ _ _ _ _ => (pe_ix ix_tup (pv 5) pe_int (fun _ _ => rfl)))) (nomark _)) (pss_one (ps_ret pe_bl)) pss_nil)
      (pss_one (ps_for (passes_of rfl) (by rfl) (pi_range1 rfl T.z_range (pa_cons pe_int pa_nil)) (pg_name (i := 6) sc_law.nd rfl (Or.inl rfl)) (pss_cons (ps_set (i := 7) sc_law.nd rfl (Or.inl rfl) pe_dnewT)
      (pss_cons (ps_for (passes_of rfl) (by rfl) (pi_list (pe_f O_law_questions r_law_questions T.g__law_questions (pa_cons (pv 3) pa_nil))) (pg_name (i := 5) sc_law.nd rfl (Or.inl rfl)) (pss_one (ps_for (passes_of rfl) (by rfl) (pi_range1 rfl T.z_range (pa_cons pe_int pa_nil)) (pg_name (i := 8) sc_law.nd rfl (Or.inl rfl)) (pss_one (ps_if (pt_cmpR op_lt (pe_f O_law_digit r_law_digit T.g__law_digit (pa_cons (pv 2) (pa_cons pe_int pa_nil))) pe_int (nomark _)) (pss_one (ps_dput hu1 (pv 7) (pe_tup (pa_cons (pe_ix ix_tup (pv 5) pe_int (fun _ _ => rfl)) (pa_cons (pv 8) pa_nil))) (pe_f O_law_answer r_law_answer T.g__law_answer (pa_cons (pv 2) (pa_cons (pv 5) pa_nil))) rfl)) pss_nil)))))
      (pss_one (ps_if (pt_cmpR (op_neTup hu75) (pe_f O_law_facts r_law_facts T.g__law_facts (pa_cons (pe_f Owalked rwalked T.g_walked (pa_cons (pv 4) (pa_cons (pv 7) pa_nil))) pa_nil)) (pe_f O_law_walk r_law_walk T.g__law_walk (pa_cons (pv 3) (pa_cons (pv 7) pa_nil))) (nomark _)) (pss_one (ps_ret pe_bl)) pss_nil)))))))))))
      (pss_one (ps_ret pe_bl)), ?_⟩
  walk_at "go"
  refine list_open ?_
  walk_at "go"
  refine ⟨(by show 1 ≤ sizeLine; decide), fun p1 hp1 => ?_⟩
  have e1 := Same.new hp1 (.lst [V.int 0])
  refine ⟨a, p1, _, _, rfl, rfl, e1.seq hns, SqL.of upd_same, Nat.le_trans (show (ns.map V.int).length + 1 ≤ 64 by rw [List.length_map]; omega) (by decide), fun p2 hp2 => ?_⟩
  have e2 := Same.new hp2 (.lst (ns.map V.int ++ [V.int 0]))
  walk_at "go"
  refine ⟨p2, _, rfl, SqL.of upd_same, fun p3 hp3 => ?_⟩
  have hp3' : (upd (upd (upd H p1 (.lst [V.int 0])) p2 (.lst (ns.map V.int ++ [V.int 0]))) p3 (.lst (cutV (ns.map V.int ++ [V.int 0]) none (some 2)))) p3 = some (.lst (cutV (ns.map V.int ++ [V.int 0]) none (some 2))) := upd_same
  have hT0 := tabs_same hT (e1.trans (e2.trans (Same.new hp3 (.lst (cutV (ns.map V.int ++ [V.int 0]) none (some 2))))))
  have cellI : ∀ x ∈ cutV (ns.map V.int ++ [V.int 0]) none (some 2), ∃ c, x = V.int c := fun x hx => by
    rw [show (some (2 : Int)) = some ((2 : Nat) : Int) from rfl, cut_to] at hx
    rcases List.mem_append.mp (List.mem_of_mem_take hx) with hx | hx
    · obtain ⟨c, _, rfl⟩ := List.mem_map.mp hx
      exact ⟨c, rfl⟩
    · exact ⟨0, List.mem_singleton.mp hx⟩
  generalize upd (upd (upd H p1 (.lst [V.int 0])) p2 (.lst (ns.map V.int ++ [V.int 0]))) p3 (.lst (cutV (ns.map V.int ++ [V.int 0]) none (some 2))) = H0 at hp3' hT0 ⊢
  generalize cutV (ns.map V.int ++ [V.int 0]) none (some 2) = cells at hp3' cellI ⊢
  clear e1 e2 hns hp1 hp2 hp3 hT
  refine ⟨p3, rfl, ⟨_, SqL.of hp3'⟩, ?_⟩
  refine for_list (K := K) (a := p3) (xs := cells) (fun (i : Nat) σ H' => ∃ o1 o2 o3 o4 o5 o6 o7 o8 : Option V, σ = [some (.ref a), o1, o2, o3, o4, o5, o6, o7, o8] ∧ Tabs TT H' ∧ H' p3 = some (.lst cells))
    ⟨none, none, none, none, none, none, none, none, rfl, hT0, hp3'⟩ (fun i σ H' _ ⟨_, _, _, _, _, _, _, _, _, _, g⟩ => SqL.of g) ?_ ?_
  · rintro i x σ H1 hxi ⟨o1, o2, o3, o4, o5, o6, o7, o8, rfl, t1, g1⟩
    obtain ⟨c, rfl⟩ := cellI x (List.mem_of_getElem? hxi)
    walk_at "go"
    refine ⟨c, rfl, fun s H2 hs1 e2 s2 => ?_⟩
    walk_at "go"
    refine ⟨s, rfl, s2, fun l H3 xs rs hl0 b3 s3 hl3 dL hG => ?_⟩
    have ls : l ≠ s := s2.ne hl0
    have e3 := same_newA hs1 e2 b3
    have t3 := tabs_same t1 e3
    have g3 := e3 _ _ g1
    have n3 : p3 ≠ s := fun z => by rw [z, hs1] at g1; cases g1
    have hlL : less H3 [s] l = some (.lst xs) := less_of hl3 (by simpa using ls)
    have dB : DRs H3 xs rs := DRs.same (fun b o h => (less_at h).1) dL
    have cn := hG.cnt
    have dp := hG.dep
    have d0 : DRs (noT (less H3 [s])) xs rs := dL.xn (noT_xn _)
    have l0 : noT (less H3 [s]) l = some (.lst xs) := noT_xn _ _ _ hlL (fun _ z => nomatch z)
    have b0 : ∀ b o, noT (less H3 [s]) b = some o → H3 b = some o ∧ b ≠ s ∧ ∀ ps, o ≠ .tbl ps := fun b o h => by
      obtain ⟨h1, h2⟩ := noT_at h
      exact ⟨(less_at h1).1, by have := (less_at h1).2; simpa using this, h2⟩
    generalize noT (less H3 [s]) = B0 at d0 l0 b0
    walk_at "go"
    refine w_make ?_
    walk_at "go"
    refine ⟨l, xs, rs, rfl, hl3, dB, hG.ru, by omega, by omega, fun D H4 ys hD e4 hD4 hro => ?_⟩
    walk_at "go"
    intro f dxf hf0 hdxf _
    refine mkFo hG.form hG.ru (by omega) (by omega) (.inl (SqL.of hD4)) hro hf0 hdxf fun H5 e5 hfo => ?_
    have e35 := e4.trans e5
    have J5 : LawI K TT B0 s f p3 cells rs H5 := ⟨fun b o h => let ⟨h1, h2, h3⟩ := b0 b o h; ⟨e35 _ _ h1, h2, h3⟩, s3.same e35, hfo, tabs_same t3 e35, e35 _ _ g3, n3⟩
    clear hro hD4 e5 e4 hD hfo e35 e3 t3 g3 dB hlL dL hl3 s3 b3 s2 e2 t1 g1 b0
    walk_at "go"
    obtain ⟨_, dxf2, t, d, d2, xs', kvs, kv2, hfi, _⟩ := id J5.fo
    refine ⟨f, dxf2, _, rfl, hfi, rfl, ?_⟩
    walk_at "go"
    refine ⟨f, rs, rfl, J5.fo, fun p6 H6 e6 hp6 g6 => ?_⟩
    rw [qNames_qs] at g6
    have J6 := J5.same e6
    walk_at "go"
    refine lc_open (list_open ?_)
    walk_at "go"
    refine ⟨l, xs, rs, B0, rfl, J6.bs.same, l0, d0, by omega, by omega, fun D2 H7 qs hD2 e7 g7 dq => ?_⟩
    have J7 := J6.same e7
    refine ⟨D2, rfl, ⟨_, SqL.of g7⟩, fun D3 hD3 => ?_⟩
    have lq : (Rws.qs rs).length ≤ 40 := by rw [← cn]; exact Rws.qs_len rs
    refine lc_list (K := K) (a := D2) (xs := qs) (fun (i : Nat) H' => Same H7 H' ∧ H' D3 = some (.lst ((((Rws.qs rs).take i).map Rw.name).map V.str))) ⟨Same.new hD3 _, upd_same⟩ (fun i H' _ z => SqL.of (z.1 _ _ g7)) ?_ ?_
    · rintro i v H8 hi ⟨e8, g8⟩
      obtain ⟨r, hr1, hdr⟩ := dq.getA hi
      have hqb := hG.qb (List.mem_of_getElem? hr1)
      obtain ⟨t, ys, rfl, hty, hat⟩ := drName hdr hqb.isq
      walk_at "go"
      refine ⟨rfl, ?_⟩
      walk_at "go"
      refine w_ixT (SqT.of ((J7.same e8).bs.same _ _ hty)) hat ?_
      refine ⟨_, g8, by rw [List.length_map, List.length_map, List.length_take]; exact Nat.lt_of_le_of_lt (show min i (Rws.qs rs).length ≤ 40 by omega) (by decide), e8.mut hD3, ?_⟩
      rw [upd_same, List.take_add_one, hr1, List.map_append, List.map_append]
      rfl
    rintro H8 ⟨e8, g8⟩
    rw [dq.len, List.take_length] at g8
    have J8 := J7.same e8
    have g68 := e8 _ _ (e7 _ _ g6)
    refine ne_same (strs_dpB _ g68) (strs_dpB _ g8) (by rw [PyData.plain]; exact strs_pl _) (by rw [PyData.depth, strs_d0]; decide) ?_
    refine ⟨_, rfl, ?_⟩
    rw [if_neg Bool.false_ne_true]
    clear g68 g8 e8 hD3 dq g7 e7 hD2 J7 J6 J5 e6 hp6 g6 hfi
    walk_at "go"
    dsimp only
    walk_at "go"
    refine rng_open ?_
    walk_at "go"
    refine ⟨2, rfl, by decide, by decide, ?_⟩
    refine for_range (lo := 0) (n := 2) (fun (j : Nat) σ H' => ∃ o5 o6 o7 o8 : Option V, σ = [some (.ref a), some (.int c), some (.ref s), some (.ref l), some (.ref f), o5, o6, o7, o8] ∧ LawI K TT B0 s f p3 cells rs H')
      ⟨_, _, _, _, rfl, J8⟩ ?_ ?_
    · rintro j σ H9 hj ⟨o5, o6, o7, o8, rfl, J9⟩
      walk_at "go"
      intro ad had
      have J10 := J9.same (Same.new had (.dT []))
      have g10 : (upd H9 ad (.dT [])) ad = some (.dT []) := upd_same
      have na0 : B0 ad = none := by
        cases z : B0 ad with
        | none => rfl
        | some o => have := (J9.dt _ _ z).1; rw [had] at this; cases this
      generalize upd H9 ad (.dT []) = H10 at J10 g10 ⊢
      dsimp only
      walk_at "go"
      refine list_open ?_
      walk_at "go"
      refine ⟨l, xs, rs, B0, rfl, J10.bs.same, l0, d0, by omega, by omega, fun D4 H11 qs4 hD4 e11 g11 dq4 => ?_⟩
      have J11 := J10.same e11
      have ga11 := e11 _ _ g10
      have n4 : D4 ≠ s := J10.sd.ne hD4
      have n4a : D4 ≠ ad := fun z => by rw [z, g10] at hD4; cases hD4
      have nas : ad ≠ s := fun z => by
        obtain ⟨_, _, _, g, _⟩ := J10.sd
        rw [← z, g10] at g
        cases g
      refine ⟨D4, rfl, ⟨_, SqL.of g11⟩, ?_⟩
      refine for_list (K := K) (a := D4) (xs := qs4) (fun (i : Nat) σ H' => ∃ (o5 o8 : Option V) (kvs : List (List Key × V)) (al : Ans), σ = [some (.ref a), some (.int c), some (.ref s), some (.ref l), some (.ref f), o5, some (.int (0 + (j : Int))), some (.ref ad), o8] ∧ LawI K TT B0 s f p3 cells rs H' ∧ H' ad = some (.dT kvs) ∧ AD H' ad kvs al ∧ al.length ≤ 4 * i ∧ H' D4 = some (.lst qs4))
        ⟨_, _, [], [], rfl, J11, ga11, ⟨.nil, List.nodup_nil⟩, Nat.le_refl _, g11⟩ (fun i σ H' _ ⟨_, _, _, _, _, _, _, _, _, g⟩ => SqL.of g) ?_ ?_
      · rintro i v σ H12 hi ⟨o5', o8', kvs, al, rfl, J12, ga12, A12, la12, g12⟩
        obtain ⟨r, hr1, hdr⟩ := dq4.getA hi
        have hqb := hG.qb (List.mem_of_getElem? hr1)
        obtain ⟨t, ys, rfl, hty, hat⟩ := drName hdr hqb.isq
        have li : i < 40 := Nat.lt_of_lt_of_le (List.getElem?_eq_some_iff.mp hr1).1 lq
        walk_at "go"
        refine rng_open ?_
        walk_at "go"
        refine ⟨4, rfl, by decide, by decide, ?_⟩
        refine for_range (lo := 0) (n := 4) (fun (k : Nat) σ H' => ∃ (o8 : Option V) (kvs : List (List Key × V)) (al : Ans), σ = [some (.ref a), some (.int c), some (.ref s), some (.ref l), some (.ref f), some (.ref t), some (.int (0 + (j : Int))), some (.ref ad), o8] ∧ LawI K TT B0 s f p3 cells rs H' ∧ H' ad = some (.dT kvs) ∧ AD H' ad kvs al ∧ al.length ≤ 4 * i + k ∧ H' D4 = some (.lst qs4))
          ⟨o8', kvs, al, rfl, J12, ga12, A12, by omega, g12⟩ ?_ ?_
        · rintro k σ H13 hk ⟨o8'', kvs, al, rfl, J13, ga13, A13, la13, g13⟩
          walk_at "go"
          refine ⟨s, 99, rfl, J13.sd, by decide, by decide, fun r1 H14 hr14 b14 s14 => ?_⟩
          have kt : ∀ {G G' : Hp}, Sd G s → BM [s] G G' → ∀ c xs, G c = some (.tup xs) → G' c = some (.tup xs) := fun {G G'} sd b c xs h => b.at h (by
            obtain ⟨_, _, _, g, _⟩ := sd
            simpa using fun z => by rw [z, g] at h; cases h)
          have J14 := J13.bm b14 s14
          have ga14 := b14.at ga13 (by simpa using nas)
          have A14 := A13.keep (kt J13.sd b14)
          have g14 := b14.at g13 (by simpa using n4)
          walk_at "go"
          by_cases c98 : (r1 : Int) < 98
          · rw [decide_eq_true c98]
            walk_at "go"
            refine ⟨s, .ref t, r, rfl, s14, hdr.same J14.ls, hqb, fun v' H15 x b15 s15 hx okx => ?_⟩
            have J15 := J14.bm b15 s15
            have ga15 := b15.at ga14 (by simpa using nas)
            have A15 := A14.keep (kt s14 b15)
            have g15 := b15.at g14 (by simpa using n4)
            walk_at "go"
            refine w_ixT (SqT.of (J15.bs.same _ _ hty)) hat ?_
            walk_at "go"
            refine ⟨(by show 2 ≤ sizeLine; decide), fun p hp => ?_⟩
            have e16 := Same.new hp (.tup [V.str r.name, V.int (0 + (k : Int))])
            have p16 : (upd H15 p (.tup [V.str r.name, V.int (0 + (k : Int))])) p = some (.tup [V.str r.name, V.int (0 + (k : Int))]) := upd_same
            generalize upd H15 p (.tup [V.str r.name, V.int (0 + (k : Int))]) = H16 at e16 p16 ⊢
            have lms : kvs.length < sizeLine := by
              have := A15.ents.length
              exact Nat.lt_of_le_of_lt (show kvs.length ≤ 1000 by omega) (by decide)
            refine ⟨ad, _, rfl, DPut.t (k := keyOf (r.name, 0 + (k : Int))) (e16 _ _ ga15) p16 lms, ?_⟩
            have nm := NM.updT (e16 _ _ ga15) (.dT (putK kvs (keyOf (r.name, 0 + (k : Int))) v'))
            exact ⟨_, _, putA al (r.name, 0 + (k : Int)) x, rfl, (J15.same e16).put (e16 _ _ ga15) na0 _, upd_same, AD.nm nm ⟨en_put (A15.nt (Same.nt e16)).ents (hx.same e16) okx, put_nd A15.nd⟩, by have := put_lenA al (r.name, 0 + (k : Int)) x; omega, by rw [upd_ne n4a]; exact e16 _ _ g15⟩
          · rw [decide_eq_false c98]
            walk_at "go"
            exact ⟨_, kvs, al, rfl, J14, ga14, A14, by omega, g14⟩
        · rintro σ H13 ⟨o8'', kvs, al, rfl, J13, ga13, A13, la13, g13⟩
          walk_at "go"
          exact ⟨_, _, kvs, al, rfl, J13, ga13, A13, by omega, g13⟩
      · rintro σ H12 ⟨o5', o8', kvs, al, rfl, J12, ga12, A12, la12, g12⟩
        walk_at "go"
        refine ⟨f, ad, rs, al, kvs, rfl, J12.fo, ga12, A12, by omega, hG.cds, wt_form hG.form, hG.few, fun aw H13 e13 hW => ?_⟩
        refine ⟨aw, _, rfl, hW, fun p H14 e14 hF => ?_⟩
        have J14 := (J12.same e13).same e14
        walk_at "go"
        refine ⟨l, ad, xs, rs, al, kvs, B0, rfl, l0, d0, J14.bs, by omega, by omega, hG.cds, wt_form hG.form, hG.opt, hG.nck, (e13.trans e14) _ _ ga12, A12.nt (Same.nt (e13.trans e14)), J14.tb, hG.few, fun p' H15 x15 t15 hF' => ?_⟩
        refine fct_ne (hF.xn x15) hF' ?_
        refine ⟨_, rfl, ?_⟩
        rw [if_neg Bool.false_ne_true]
        walk_at "go"
        exact ⟨_, _, _, _, rfl, J14.xn x15 t15⟩
    · rintro σ H9 ⟨o5, o6, o7, o8, rfl, J9⟩
      walk_at "go"
      exact ⟨_, _, _, _, _, _, _, _, rfl, J9.tb, J9.ce⟩
  · rintro σ H1 ⟨o1, o2, o3, o4, o5, o6, o7, o8, rfl, t1, g1⟩
    walk_at "go"
    exact q H1
end
end K3
end WK10_part
section M1_part
set_option Elab.async false
set_option linter.all false
set_option maxRecDepth 100000
set_option maxHeartbeats 0
namespace K3
open PySem PySem.Spec PyProof.Rows L2
open LamX
theorem walk_ofTsE {l : PySem.W.OpenLaw} {n k : Nat} {q : Program} {loose : List Str} {XP : (Str → Option Value) → Heap → Prop} {YP : World → Heap → Prop} {d : DefRec} {CX : CXT} {x : Str}
    (hn : l.most = some n) (hn2 : n ≤ sizeLine) (hdf : d.params.defaults = []) (hr : Room k callerA)
    (F : ∀ (w : World) (mg : Str → Option Value) (fa : Addr) (h : Heap), YP w h → h.Ns mainGlobals mg → mg d.name = some (.ref fa) → ∃ K : PySem.W.Frag, K.In h ∧ LawAtS l w K CX k n x mg fa h)
    (hCX : ∀ (H : Hp) (s : Shared) (e : Value) (s' : Shared), CX [] H s (fun _ _ _ => False) e s' → False) :
    PySem.W.WalkO q loose XP YP l.row.toRowW d [] (fun f vs => PySem.call f vs) := by
  refine Att.attach_callB hn hdf fun w s₀ s₁ mg mb fa o pm cd doc a vs ns G Y ho hd hcd hmg hobj hints hlen hbits hg => ?_
  obtain ⟨K, KX, fd, cs, sp, hT, nT, C, hb, hsp, hF⟩ := F w mg fa _ Y G.T.g hmg
  exact law_callTs KX G.T.g G.T.b G.T.builtins G.T.nolimit hg hT nT C G.T.bmain hobj hints (Nat.le_trans hlen hn2) hr hF hb (fun H hH hS => hsp H a ns hlen hbits hH hS) fun H e s' => hCX H s₁ e s'
theorem told {K : PySem.W.Frag} {mg : Str → Option Value} {base : Heap} (T : Tx K mg) {PT : Addr} (tb : TabB base mg (He.codeOf K ("_law_gone", none)) PT) : Told K mg base "_law_gone" (He.codeOf K ("_law_gone", none)) PT [(PT, "_law_gone.<locals>.<lambda>")] := by
  obtain ⟨fd, F⟩ := T.f__law_gone
  obtain ⟨_, _, _, _, _, _, _, cdv, _, _, rfl, lk, cd, _, _⟩ := F.ex
  obtain ⟨c, e⟩ := He.codeIn_ref cd
  subst e
  refine ⟨?_, tb, List.mem_singleton.mpr rfl, fun p hp _ => by rw [List.mem_singleton.mp hp]; rfl⟩
  rw [He.codeOf_eq (p := ("_law_gone", none)) lk rfl]
  unfold codeOf
  rw [lk]
theorem facts {l : PySem.W.OpenLaw} {w : World} {K : PySem.W.Frag} {h : Heap} {mg : Str → Option Value} {f : Addr} (X : K.In h) (G : h.Ns mainGlobals mg) (hfa : mg ("law" : Str) = some (.ref f)) (c : He.SaysX D.fa D.fn [] tf ex w h K) :
    LawAtS l w K L2.CX0 55 63 "_law_script" mg f h := by
  have T : Tx K mg := ⟨c.t.d, c.more, h, X, G⟩
  obtain ⟨fd, F⟩ := T.f_law
  have e2 := hfa.symm.trans T.g_law
  cases e2
  have b := FunD.bindsA (ps := ["_law_script"]) F fun _ _ _ _ _ _ us hl => match us, hl with | [_], _ => rfl
  have inT : (("_law_gone" : Str), (none : Option Str)) ∈ tf := List.mem_singleton.mpr rfl
  refine ⟨fd, [He.cT K ("_law_gone", none)], spLawT [((He.cT K ("_law_gone", none)).2, "_law_gone.<locals>.<lambda>")] K, fun p hp => ?_, fun p hp => ?_, fun p hp => ?_, fun s v => b s [v] rfl, fun H a ns hl _ hH hS => ⟨a, ns, rfl, hS, hl, ?_, fun _ => rfl⟩, fun base _ _ tb => ok_law T (told T (tb _ (List.mem_singleton.mpr rfl))) F⟩
  · rw [List.mem_singleton.mp hp]
    exact c.empty _ inT
  · rw [List.mem_singleton.mp hp]
    exact c.out _ inT
  · rw [List.mem_singleton.mp hp]
    exact PySem.W.codeHd_of_K X (c.hd _ inT)
  · intro p hp
    rw [List.mem_singleton.mp hp]
    exact TabS.nil (hH _ (List.mem_singleton.mpr rfl))
end K3
open PySem PySem.W PySem.Calls PyProof.Rows
theorem PySem.Challenge.cw_skiphall_k25_walks_at_the_bounds_holds : PySem.Challenge.rw_skiphall_k25_walks_at_the_bounds.Holds := by
  w_on; o_law
  refine HandSHeadRun.head_any (r := OpenLaw.row PySem.Challenge.rw_skiphall_k25_walks_at_the_bounds) (q := K3.qv) (H := K3.hkT) (ob := K3.obT) (M := 12000) (loose := K3.loose) (d := HandSHeadRun.topDef (OpenLaw.row PySem.Challenge.rw_skiphall_k25_walks_at_the_bounds).prog 88) (kwd := []) (K3.obT_eq)
    (by kernel_rfl) (fun s => by kernel_rfl) K3.run (by kernel_rfl) (by kernel_rfl) (by kernel_rfl) (by rfl) (by first | assumption | decide +kernel) (by decide +kernel) ⟨rfl, rfl, rfl, rfl, rfl, by decide +kernel⟩ ?hw ?hc
  case hw => w_witness2
  case hc =>
    refine K3.walk_ofTsE (l := PySem.Challenge.rw_skiphall_k25_walks_at_the_bounds) (n := 63) (k := 55) (x := "_law_script") (CX := L2.CX0) rfl (by decide) (by kernel_rfl) ⟨rfl, by decide, by decide⟩ ?F (fun _ _ _ _ z => z)
    intro w mg fa h Y G hmg0
    obtain ⟨K, KX, c⟩ := Y
    have hmg : mg ("law" : PySem.Str) = some (.ref fa) := by
      have e : (HandSHeadRun.topDef (OpenLaw.row PySem.Challenge.rw_skiphall_k25_walks_at_the_bounds).prog 88).name = ("law" : PySem.Str) := by kernel_rfl
      rw [← e]
      exact hmg0
    exact ⟨K, KX, K3.facts KX G hmg c⟩
end M1_part
